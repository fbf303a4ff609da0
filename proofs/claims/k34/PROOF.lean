import PyProof.Rows.All
import Wide.All
import OpenK.AllK
import Wide.FinOn
import HandS.ForMost
import HandS.ForExc
import HandS.IsInst
import HandS.Wide
import HandS.Lambda
import HandS.ExcInit
import HandS.Steps
import HandS.Style
import HandS.RaiseMore
import HandS.Iter
import HandS.Comp
import HandS.ExcField
import HandS.EndTab
import KE.KNestM
import HandS.ExcIs
import KE.KExcInit
import HandS.TryOnly
import HandS.MakeKwOnly
import HandS.Property
import HandS.StrMore
import HandS.Text
import HandS.SlotsOwn
import HandS.More
import PyProof.InstNe
import PyProof.ReprBulk
import KE.KCallOwn
import HandS.Star
import HandS.Zip
import OpenK.KMeth
import PySem.Challenge.RW_whatiftimes_k34_falls
set_option Elab.async false
set_option linter.all false
set_option maxRecDepth 100000
set_option maxHeartbeats 2100000
section
/-! VL: a view of the abstract heap: values and objects by places in a list; what a piece of the program does is a plain Lean function over the view. -/
namespace VL
open PySem L2

/-- a value of a view: ref is a place in the view's list, fix an address that stands outside of it, tup a tuple with its items -/
inductive W where
  | non | bl (b : Bool) | int (i : Int) | str (x : Str) | ref (i : Nat) | fix (a : Addr) | ty (n : String) | tup (xs : List W)
mutual
def W.dec : (a b : W) → Decidable (a = b)
  | .non, .non => Decidable.isTrue rfl
  | .bl x, .bl y => if h : x = y then Decidable.isTrue (by rw [h]) else Decidable.isFalse (fun z => h (by cases z; rfl))
  | .int x, .int y => if h : x = y then Decidable.isTrue (by rw [h]) else Decidable.isFalse (fun z => h (by cases z; rfl))
  | .str x, .str y => if h : x = y then Decidable.isTrue (by rw [h]) else Decidable.isFalse (fun z => h (by cases z; rfl))
  | .ref x, .ref y => if h : x = y then Decidable.isTrue (by rw [h]) else Decidable.isFalse (fun z => h (by cases z; rfl))
  | .fix x, .fix y => if h : x = y then Decidable.isTrue (by rw [h]) else Decidable.isFalse (fun z => h (by cases z; rfl))
  | .ty x, .ty y => if h : x = y then Decidable.isTrue (by rw [h]) else Decidable.isFalse (fun z => h (by cases z; rfl))
  | .tup xs, .tup ys => match W.decs xs ys with
    | Decidable.isTrue h => Decidable.isTrue (by rw [h])
    | Decidable.isFalse h => Decidable.isFalse (fun z => h (by cases z; rfl))
  | .non, .bl _ | .non, .int _ | .non, .str _ | .non, .ref _ | .non, .fix _ | .non, .ty _ | .non, .tup _ => Decidable.isFalse (fun z => by cases z)
  | .bl _, .non | .bl _, .int _ | .bl _, .str _ | .bl _, .ref _ | .bl _, .fix _ | .bl _, .ty _ | .bl _, .tup _ => Decidable.isFalse (fun z => by cases z)
  | .int _, .non | .int _, .bl _ | .int _, .str _ | .int _, .ref _ | .int _, .fix _ | .int _, .ty _ | .int _, .tup _ => Decidable.isFalse (fun z => by cases z)
  | .str _, .non | .str _, .bl _ | .str _, .int _ | .str _, .ref _ | .str _, .fix _ | .str _, .ty _ | .str _, .tup _ => Decidable.isFalse (fun z => by cases z)
  | .ref _, .non | .ref _, .bl _ | .ref _, .int _ | .ref _, .str _ | .ref _, .fix _ | .ref _, .ty _ | .ref _, .tup _ => Decidable.isFalse (fun z => by cases z)
  | .fix _, .non | .fix _, .bl _ | .fix _, .int _ | .fix _, .str _ | .fix _, .ref _ | .fix _, .ty _ | .fix _, .tup _ => Decidable.isFalse (fun z => by cases z)
  | .ty _, .non | .ty _, .bl _ | .ty _, .int _ | .ty _, .str _ | .ty _, .ref _ | .ty _, .fix _ | .ty _, .tup _ => Decidable.isFalse (fun z => by cases z)
  | .tup _, .non | .tup _, .bl _ | .tup _, .int _ | .tup _, .str _ | .tup _, .ref _ | .tup _, .fix _ | .tup _, .ty _ => Decidable.isFalse (fun z => by cases z)
def W.decs : (a b : List W) → Decidable (a = b)
  | [], [] => Decidable.isTrue rfl
  | [], _ :: _ => Decidable.isFalse (fun z => by cases z)
  | _ :: _, [] => Decidable.isFalse (fun z => by cases z)
  | x :: xs, y :: ys => match W.dec x y, W.decs xs ys with
    | Decidable.isTrue h, Decidable.isTrue g => Decidable.isTrue (by rw [h, g])
    | Decidable.isFalse h, _ => Decidable.isFalse (fun z => h (by cases z; rfl))
    | _, Decidable.isFalse g => Decidable.isFalse (fun z => g (by cases z; rfl))
end
instance : DecidableEq W := W.dec
/-- the places of a view, and the tuples that are known -/
structure Pl where
  l : List Addr
  tu : Addr → List V → Prop
instance : GetElem? Pl Nat Addr (fun ps i => i < ps.l.length) where
  getElem ps i h := ps.l[i]
  getElem? ps i := ps.l[i]?
  getElem! ps i := ps.l[i]!
instance : Membership Addr Pl := ⟨fun ps a => a ∈ ps.l⟩
instance : HAppend Pl (List Addr) Pl := ⟨fun ps t => ⟨ps.l ++ t, ps.tu⟩⟩
def Pl.length (ps : Pl) : Nat := ps.l.length
def Pl.Nodup (ps : Pl) : Prop := ps.l.Nodup
/-- these places, no tuples -/
def Pl.of (l : List Addr) : Pl := ⟨l, fun _ _ => False⟩
/-- no places, but the tuples -/
def Pl.off (ps : Pl) (l : List Addr) : Pl := ⟨l, ps.tu⟩
/-- one more tuple is known -/
def Pl.more (ps : Pl) (a : Addr) (vs : List V) : Pl := ⟨ps.l, fun b us => ps.tu b us ∨ (b = a ∧ us = vs)⟩
def Pl.Le (ps qs : Pl) : Prop := ps.l <+: qs.l ∧ ∀ a vs, ps.tu a vs → qs.tu a vs
theorem Pl.get_l {ps : Pl} {i : Nat} : ps[i]? = ps.l[i]? := rfl
theorem Pl.Le.refl (ps : Pl) : Pl.Le ps ps := ⟨List.prefix_refl _, fun _ _ h => h⟩
theorem Pl.Le.trans {ps qs rs : Pl} (a : Pl.Le ps qs) (b : Pl.Le qs rs) : Pl.Le ps rs := ⟨a.1.trans b.1, fun _ _ h => b.2 _ _ (a.2 _ _ h)⟩
theorem Pl.Le.app (ps : Pl) (t : List Addr) : Pl.Le ps (ps ++ t) := ⟨List.prefix_append _ _, fun _ _ h => h⟩
theorem Pl.Le.more (ps : Pl) (a : Addr) (vs : List V) : Pl.Le ps (ps.more a vs) := ⟨List.prefix_refl _, fun _ _ h => .inl h⟩
mutual
def WV (ps : Pl) : W → V → Prop
  | .non, v => v = .non
  | .bl b, v => v = .bl b
  | .int i, v => v = .int i
  | .str x, v => v = .str x
  | .ty n, v => v = .ty n
  | .fix a, v => v = .ref a
  | .ref i, v => ∃ a, ps[i]? = some a ∧ v = .ref a
  | .tup ws, v => ∃ a vs, v = .ref a ∧ ps.tu a vs ∧ WVL ps ws vs
def WVL (ps : Pl) : List W → List V → Prop
  | [], vs => vs = []
  | w :: ws, vs => ∃ v us, vs = v :: us ∧ WV ps w v ∧ WVL ps ws us
end
theorem WVL.pair {ps : Pl} : ∀ {ws : List W} {vs : List V}, WVL ps ws vs → Paired (WV ps) ws vs
  | [], _, h => by
    unfold WVL at h
    subst h
    exact .nil
  | w :: ws, _, h => by
    unfold WVL at h
    obtain ⟨v, us, rfl, h1, h2⟩ := h
    exact .cons h1 (WVL.pair h2)
theorem WVL.of {ps : Pl} : ∀ {ws : List W} {vs : List V}, Paired (WV ps) ws vs → WVL ps ws vs
  | [], _, .nil => by
    unfold WVL
    rfl
  | w :: ws, _, .cons h t => by
    unfold WVL
    exact ⟨_, _, rfl, h, WVL.of t⟩
theorem WV.tup_of {ps : Pl} {ws : List W} {v : V} (h : WV ps (.tup ws) v) : ∃ a vs, v = .ref a ∧ ps.tu a vs ∧ Paired (WV ps) ws vs := by
  unfold WV at h
  obtain ⟨a, vs, h1, h2, h3⟩ := h
  exact ⟨a, vs, h1, h2, h3.pair⟩
theorem WV.tup_mk {ps : Pl} {ws : List W} {a : Addr} {vs : List V} (h1 : ps.tu a vs) (h2 : Paired (WV ps) ws vs) : WV ps (.tup ws) (.ref a) := by
  unfold WV
  exact ⟨a, vs, rfl, h1, WVL.of h2⟩

inductive O where
  | lst (xs : List W) | rol (xs : List W) | dic (kvs : List (Key × W)) | ins (c : String) (fs : List (Str × W)) | xd (fs : List (Str × W))
  /-- an error as a value: its class, the place of its fields; these fields -/
  | err (c : String) (j : Nat) | xdd (fs : List (Str × W))

abbrev Hv := List O
abbrev Ws := List (Option W)
abbrev Tb := List (Addr × Str)
/-- what a view leans on: the tables of code objects, and a fact about places that stays -/
structure Tx where
  tb : Tb
  C : List Addr → Prop
  mono : ∀ ps qs, ps <+: qs → C ps → C qs
  /-- the classes of errors, by their names -/
  cv : String → Value
def Tx.plain (t : Tb) (cv : String → Value) : Tx := ⟨t, fun _ => True, fun _ _ _ h => h, cv⟩
/-- .. with one place known -/
def Tx.known (T : Tx) (j : Nat) (a : Addr) : Tx := ⟨T.tb, fun ps => T.C ps ∧ ps[j]? = some a, fun ps qs h ⟨c, e⟩ => ⟨T.mono ps qs h c, by
  obtain ⟨r, rfl⟩ := h
  rw [List.getElem?_append_left (List.getElem?_eq_some_iff.mp e).1]
  exact e⟩, T.cv⟩

def PW2 {k : Type} (ps : Pl) (p : k × W) (q : k × V) : Prop := p.1 = q.1 ∧ WV ps p.2 q.2

def OAt (T : Tx) (ps : Pl) (H : Hp) (a : Addr) : O → Prop
  | .lst xs => ∃ vs, Paired (WV ps) xs vs ∧ H a = some (.lst vs)
  | .rol xs => ∃ vs ob, Paired (WV ps) xs vs ∧ H a = some (.frz ob (.lst vs))
  | .dic kvs => ∃ vs, Paired (PW2 ps) kvs vs ∧ H a = some (.dK vs)
  | .ins c fs => ∃ vs dx C, T.cv c = .ref C ∧ Paired (PW2 ps) fs vs ∧ H a = some (.ins C dx vs)
  | .xd fs => ∃ vs, Paired (PW2 ps) fs vs ∧ H a = some (.xd vs)
  | .err c j => ∃ C dx, T.cv c = .ref C ∧ ps[j]? = some dx ∧ H a = some (exo a C (some dx))
  | .xdd fs => ∃ vs, Paired (PW2 ps) fs vs ∧ H a = some (exd a vs)

structure View (T : Tx) (ps : Pl) (h : Hv) (H : Hp) : Prop where
  len : ps.length = h.length
  nd : ps.Nodup
  ob : ∀ (i : Nat) (a : Addr) (o : O), ps[i]? = some a → h[i]? = some o → OAt T ps H a o
  tab : LamX.Tabs T.tb H
  fact : T.C ps.l
  tup : ∀ a vs, ps.tu a vs → H a = some (.tup vs)

structure Step (ps : Pl) (H : Hp) (qs : Pl) (H' : Hp) : Prop where
  pre : Pl.Le ps qs
  new : ∀ a o, a ∈ qs → a ∉ ps → H a = some o → ∃ z, o = .tbl z
  fr : ∀ a o, H a = some o → (∀ z, o ≠ .tbl z) → a ∉ ps → H' a = some o

theorem at_pre {ps qs : Pl} {p : Nat} {a : Addr} (h : Pl.Le ps qs) (e : ps[p]? = some a) : qs[p]? = some a := by
  obtain ⟨⟨r, hr⟩, _⟩ := h
  have e2 : ps.l[p]? = some a := e
  show qs.l[p]? = some a
  rw [← hr, List.getElem?_append_left (List.getElem?_eq_some_iff.mp e2).1]
  exact e2
mutual
theorem WV.mono {ps qs : Pl} (h : Pl.Le ps qs) : ∀ {w : W} {v : V}, WV ps w v → WV qs w v
  | .non, _, e => e
  | .bl _, _, e => e
  | .int _, _, e => e
  | .str _, _, e => e
  | .ty _, _, e => e
  | .fix _, _, e => e
  | .ref i, _, ⟨a, e1, e2⟩ => ⟨a, at_pre h e1, e2⟩
  | .tup ws, _, ⟨a, vs, e1, e2, e3⟩ => ⟨a, vs, e1, h.2 _ _ e2, WVL.mono h e3⟩
theorem WVL.mono {ps qs : Pl} (h : Pl.Le ps qs) : ∀ {ws : List W} {vs : List V}, WVL ps ws vs → WVL qs ws vs
  | [], _, e => e
  | w :: ws, _, ⟨v, us, e1, e2, e3⟩ => ⟨v, us, e1, WV.mono h e2, WVL.mono h e3⟩
end
theorem WVs.mono {ps qs : Pl} (h : Pl.Le ps qs) {xs : List W} {vs : List V} (r : Paired (WV ps) xs vs) : Paired (WV qs) xs vs := L2.Paired.mapP r fun _ _ e => e.mono h
theorem PW2.mono {k : Type} {ps qs : Pl} (h : Pl.Le ps qs) {p : k × W} {q : k × V} (r : PW2 ps p q) : PW2 qs p q := ⟨r.1, r.2.mono h⟩
theorem OAt.mono {T : Tx} {ps qs : Pl} {H : Hp} {a : Addr} (h : Pl.Le ps qs) : ∀ {o : O}, OAt T ps H a o → OAt T qs H a o
  | .lst _, ⟨vs, r, e⟩ => ⟨vs, WVs.mono h r, e⟩
  | .rol _, ⟨vs, ob, r, e⟩ => ⟨vs, ob, WVs.mono h r, e⟩
  | .dic _, ⟨vs, r, e⟩ => ⟨vs, L2.Paired.mapP r fun _ _ z => z.mono h, e⟩
  | .ins _ _, ⟨vs, dx, C, q, r, e⟩ => ⟨vs, dx, C, q, L2.Paired.mapP r fun _ _ z => z.mono h, e⟩
  | .xd _, ⟨vs, r, e⟩ => ⟨vs, L2.Paired.mapP r fun _ _ z => z.mono h, e⟩
  | .err _ _, ⟨C, dx, e1, e2, e3⟩ => ⟨C, dx, e1, at_pre h e2, e3⟩
  | .xdd _, ⟨vs, r, e⟩ => ⟨vs, L2.Paired.mapP r fun _ _ z => z.mono h, e⟩
/-- the object at a, as it stands: no table, no tuple -/
def NoTT (u : HO) : Prop := (∀ z, u ≠ .tbl z) ∧ ∀ vs, u ≠ .tup vs
theorem OAt.there2 {T : Tx} {ps : Pl} {H : Hp} {a : Addr} : ∀ {o : O}, OAt T ps H a o → ∃ u, H a = some u ∧ NoTT u
  | .lst _, ⟨vs, r, e⟩ => ⟨_, e, (fun _ z => by cases z), (fun _ z => by cases z)⟩
  | .rol _, ⟨vs, ob, r, e⟩ => ⟨_, e, (fun _ z => by cases z), (fun _ z => by cases z)⟩
  | .dic _, ⟨vs, r, e⟩ => ⟨_, e, (fun _ z => by cases z), (fun _ z => by cases z)⟩
  | .ins _ _, ⟨vs, dx, C, q, r, e⟩ => ⟨_, e, (fun _ z => by cases z), (fun _ z => by cases z)⟩
  | .xd _, ⟨vs, r, e⟩ => ⟨_, e, (fun _ z => by cases z), (fun _ z => by cases z)⟩
  | .err _ _, ⟨C, dx, e1, e2, e3⟩ => ⟨_, e3, (fun _ z => by cases z), (fun _ z => by cases z)⟩
  | .xdd _, ⟨vs, r, e⟩ => ⟨_, e, (fun _ z => by cases z), (fun _ z => by cases z)⟩
theorem OAt.there {T : Tx} {ps : Pl} {H : Hp} {a : Addr} {o : O} (h : OAt T ps H a o) : ∃ u, H a = some u ∧ (∀ z, u ≠ .tbl z) := by
  obtain ⟨u, e, n⟩ := h.there2
  exact ⟨u, e, n.1⟩
theorem OAt.put {T : Tx} {ps : Pl} {H H' : Hp} {a : Addr} (h : ∀ u, H a = some u → H' a = some u) : ∀ {o : O}, OAt T ps H a o → OAt T ps H' a o
  | .lst _, ⟨vs, r, e⟩ => ⟨vs, r, h _ e⟩
  | .rol _, ⟨vs, ob, r, e⟩ => ⟨vs, ob, r, h _ e⟩
  | .dic _, ⟨vs, r, e⟩ => ⟨vs, r, h _ e⟩
  | .ins _ _, ⟨vs, dx, C, q, r, e⟩ => ⟨vs, dx, C, q, r, h _ e⟩
  | .xd _, ⟨vs, r, e⟩ => ⟨vs, r, h _ e⟩
  | .err _ _, ⟨C, dx, e1, e2, e3⟩ => ⟨C, dx, e1, e2, h _ e3⟩
  | .xdd _, ⟨vs, r, e⟩ => ⟨vs, r, h _ e⟩

theorem Step.refl (ps : Pl) (H : Hp) : Step ps H ps H := ⟨Pl.Le.refl _, fun _ _ h n _ => absurd h n, fun _ _ h _ _ => h⟩
theorem Step.trans {ps qs rs : Pl} {H H1 H2 : Hp} (a : Step ps H qs H1) (b : Step qs H1 rs H2) : Step ps H rs H2 := by
  have key : ∀ c o, H c = some o → (∀ z, o ≠ .tbl z) → c ∉ ps → c ∉ qs := fun c o h ht n hq => by
    obtain ⟨z, e⟩ := a.new c o hq n h
    exact ht z e
  refine ⟨a.pre.trans b.pre, fun c o hc n h => ?_, fun c o h ht n => b.fr c o (a.fr c o h ht n) ht (key c o h ht n)⟩
  by_cases ht : ∃ z, o = .tbl z
  · exact ht
  · have ht' : ∀ z, o ≠ .tbl z := fun z e => ht ⟨z, e⟩
    exact b.new c o hc (key c o h ht' n) (a.fr c o h ht' n)

section
variable {T : Tx} {ps : Pl} {h : Hv} {H : Hp}
theorem View.get (v : View T ps h H) {i : Nat} {o : O} (e : h[i]? = some o) : ∃ a, ps[i]? = some a ∧ OAt T ps H a o := by
  have hl : i < ps.l.length := by
    have := v.len
    unfold Pl.length at this
    rw [this]
    exact (List.getElem?_eq_some_iff.mp e).elim fun a _ => a
  have e2 : ps[i]? = some ps.l[i] := by
    show ps.l[i]? = some ps.l[i]
    simp [hl]
  exact ⟨_, e2, v.ob i _ o e2 e⟩
theorem View.mem2 (v : View T ps h H) {a : Addr} (ha : a ∈ ps) : ∃ u, H a = some u ∧ NoTT u := by
  obtain ⟨i, hi, e⟩ := List.getElem_of_mem (show a ∈ ps.l from ha)
  have hl : i < h.length := by
    have := v.len
    unfold Pl.length at this
    omega
  have e2 : ps[i]? = some a := by
    show ps.l[i]? = some a
    simp [hi, e]
  exact (v.ob i a h[i] e2 (by simp [hl])).there2
theorem View.mem (v : View T ps h H) {a : Addr} (ha : a ∈ ps) : ∃ u, H a = some u ∧ (∀ z, u ≠ .tbl z) := by
  obtain ⟨u, e, n⟩ := v.mem2 ha
  exact ⟨u, e, n.1⟩
theorem View.fresh (v : View T ps h H) {p : Addr} (hp : H p = none) : p ∉ ps := fun z => by
  obtain ⟨u, e, _⟩ := v.mem z
  rw [hp] at e; cases e
theorem tabs_new {T : Tb} (t : LamX.Tabs T H) {p : Addr} (hp : H p = none) (o : HO) : LamX.Tabs T (upd H p o) := t.ext fun b u e => by rw [upd_ne (ne_of_none e hp)]; exact e
theorem tabs_put {T : Tb} (t : LamX.Tabs T H) {p : Addr} {u : HO} (hp : H p = some u) (h1 : ∀ z, u ≠ .tbl z) (h2 : ∀ f, u ≠ .ext f) (o : HO) : LamX.Tabs T (upd H p o) := fun q hq => by
  obtain ⟨z, e1, e2, e3⟩ := t q hq
  refine ⟨z, by rw [upd_ne (fun w => h1 z (by rw [w, hp] at e1; exact Option.some.inj e1))]; exact e1, e2, fun pos cv hc => ?_⟩
  obtain ⟨c, r1, r2⟩ := e3 pos cv hc
  refine ⟨c, r1, ?_⟩
  rw [upd_ne (fun w => h2 _ (by rw [w, hp] at r2; exact Option.some.inj r2))]
  exact r2
/-- a new object of ours -/
theorem View.alloc (v : View T ps h H) {p : Addr} (hp : H p = none) {o : O} {u : HO} (ho : OAt T ps (upd H p u) p o) : View T (ps ++ [p]) (h ++ [o]) (upd H p u) ∧ Step ps H (ps ++ [p]) (upd H p u) ∧ (ps ++ [p])[h.length]? = some p := by
  have hn := v.fresh hp
  have vl : ps.l.length = h.length := v.len
  refine ⟨⟨?_, ?_, fun i a o' e1 e2 => ?_, tabs_new v.tab hp u, T.mono _ _ (List.prefix_append _ _) v.fact, fun a vs t => ?_⟩, ⟨Pl.Le.app _ _, fun a o' ha hb he => ?_, fun a o' e _ _ => by rw [upd_ne (ne_of_none e hp)]; exact e⟩, ?_⟩
  · show (ps.l ++ [p]).length = (h ++ [o]).length
    simp [vl]
  · show (ps.l ++ [p]).Nodup
    rw [List.nodup_append]
    refine ⟨v.nd, by simp, fun a ha b hb => ?_⟩
    simp at hb
    rintro rfl
    exact hn (hb ▸ ha)
  · have e1' : (ps.l ++ [p])[i]? = some a := e1
    by_cases hi : i < ps.l.length
    · rw [List.getElem?_append_left hi] at e1'
      rw [List.getElem?_append_left (by omega)] at e2
      have q := v.ob i a o' e1' e2
      obtain ⟨u', e', _⟩ := q.there
      exact (q.put fun w hw => by rw [upd_ne (ne_of_none e' hp)]; exact hw).mono (Pl.Le.app _ _)
    · have hi' : i = ps.l.length := by
        have := (List.getElem?_eq_some_iff.mp e1').1
        simp at this; omega
      subst hi'
      simp at e1'
      rw [vl] at e2
      simp at e2
      subst e1' e2
      exact ho.mono (Pl.Le.app _ _)
  · have := v.tup a vs t
    rw [upd_ne (ne_of_none this hp)]
    exact this
  · have ha' : a ∈ ps.l ++ [p] := ha
    simp at ha'
    rcases ha' with ha | ha
    · exact absurd ha hb
    · rw [ha, hp] at he; cases he
  · show (ps.l ++ [p])[h.length]? = some p
    rw [← vl]
    simp
/-- a new tuple -/
theorem View.tuple (v : View T ps h H) {p : Addr} (hp : H p = none) (vs : List V) : View T (ps.more p vs) h (upd H p (.tup vs)) ∧ Step ps H (ps.more p vs) (upd H p (.tup vs)) := by
  have hn := v.fresh hp
  refine ⟨⟨v.len, v.nd, fun i a o' e1 e2 => ?_, tabs_new v.tab hp _, v.fact, fun a us t => ?_⟩, ⟨Pl.Le.more _ _ _, fun a o' ha hb he => absurd ha hb, fun a o' e _ _ => by rw [upd_ne (ne_of_none e hp)]; exact e⟩⟩
  · have q := v.ob i a o' e1 e2
    obtain ⟨u', e', _⟩ := q.there
    exact (q.put fun w hw => by rw [upd_ne (ne_of_none e' hp)]; exact hw).mono (Pl.Le.more _ _ _)
  · rcases t with t | ⟨rfl, rfl⟩
    · have := v.tup a us t
      rw [upd_ne (ne_of_none this hp)]
      exact this
    · exact upd_same
/-- an object of ours is another -/
theorem View.put (v : View T ps h H) {i : Nat} {a : Addr} (ha : ps[i]? = some a) {o : O} {u : HO} (ho : OAt T ps (upd H a u) a o) (hx : ∀ u0, H a = some u0 → ∀ f, u0 ≠ .ext f) : View T ps (h.set i o) (upd H a u) ∧ Step ps H ps (upd H a u) := by
  have ha' : ps.l[i]? = some a := ha
  have vl : ps.l.length = h.length := v.len
  obtain ⟨u0, e0, t0, t1⟩ := v.mem2 (List.mem_of_getElem? ha')
  have x0 := hx u0 e0
  refine ⟨⟨?_, v.nd, fun j b o' e1 e2 => ?_, tabs_put v.tab e0 t0 x0 u, v.fact, fun b us t => ?_⟩, ⟨Pl.Le.refl _, fun _ _ h n _ => absurd h n, fun b o' e _ n => ?_⟩⟩
  · show ps.l.length = (h.set i o).length
    simp [vl]
  · by_cases hj : j = i
    · subst hj
      rw [ha] at e1
      cases e1
      have hl : j < h.length := by rw [← vl]; exact (List.getElem?_eq_some_iff.mp ha').1
      rw [List.getElem?_set_self hl] at e2
      cases e2
      exact ho
    · rw [List.getElem?_set_ne fun z => hj z.symm] at e2
      have q := v.ob j b o' e1 e2
      refine q.put fun w hw => ?_
      rw [upd_ne (fun z => hj ?_)]
      · exact hw
      · subst z
        have h1 := List.getElem?_eq_some_iff.mp ha'
        have h2 := List.getElem?_eq_some_iff.mp (show ps.l[j]? = _ from e1)
        exact (List.getElem_inj v.nd).mp (h2.2.trans h1.2.symm)
  · have e := v.tup b us t
    rw [upd_ne (fun z => by rw [z, e0] at e; exact t1 us (Option.some.inj e))]
    exact e
  · rw [upd_ne (fun z => n (by rw [z]; exact List.mem_of_getElem? ha'))]
    exact e
end

/-! ### results -/
inductive Res (α : Type) where
  | val (a : α) (h : Hv)
  | exc (c : String) (d : Option Nat) (h : Hv)
  | bad
namespace Res
def bind {α β : Type} : Res α → (α → Hv → Res β) → Res β
  | .val a h, k => k a h
  | .exc c d h, _ => .exc c d h
  | .bad, _ => .bad
end Res
def DV (ps : Pl) : Option Nat → Option Addr → Prop
  | none, d => d = none
  | some i, d => ∃ a, ps[i]? = some a ∧ d = some a

def Good {α β : Type} (T : Tx) (R : Pl → α → β → Prop) (ps : Pl) (H : Hp) : Res α → (β → Hp → Prop) → XK → Prop
  | .val w h, Q, _ => ∀ qs H' v, Step ps H qs H' → View T qs h H' → R qs w v → Q v H'
  | .exc c d h, _, E => ∀ qs H' e, Step ps H qs H' → View T qs h H' → DV qs d e → E (T.cv c) e H'
  | .bad, _, _ => False
section
variable {α β γ δ : Type} {T : Tx} {R : Pl → α → β → Prop} {S : Pl → γ → δ → Prop} {ps qs : Pl} {H H1 : Hp} {h : Hv} {r : Res α} {Q : β → Hp → Prop} {E : XK}
theorem Good.step (g : Good T R ps H r Q E) (s : Step ps H qs H1) : Good T R qs H1 r Q E := by
  cases r with
  | val w h => exact fun rs H' v s' => g rs H' v (s.trans s')
  | exc c d h => exact fun rs H' e s' => g rs H' e (s.trans s')
  | bad => exact g
/-- what stands between two pieces -/
def Mid (T : Tx) (R : Pl → α → β → Prop) (S : Pl → γ → δ → Prop) (ps : Pl) (H : Hp) (k : α → Hv → Res γ) (Q : δ → Hp → Prop) (E : XK) (v : β) (H1 : Hp) : Prop :=
  ∃ qs w h1, Step ps H qs H1 ∧ View T qs h1 H1 ∧ R qs w v ∧ Good T S qs H1 (k w h1) Q E
theorem Good.bind {k : α → Hv → Res γ} {Q : δ → Hp → Prop} (g : Good T S ps H (r.bind k) Q E) : Good T R ps H r (Mid T R S ps H k Q E) E := by
  cases r with
  | val w h => exact fun qs H' v s vw rv => ⟨qs, w, h, s, vw, rv, Good.step g s⟩
  | exc c d h => exact g
  | bad => exact g
theorem Good.imp {Q' : β → Hp → Prop} {E' : XK} (g : Good T R ps H r Q E) (hq : ∀ v H', Q v H' → Q' v H') (he : ∀ c d H', E c d H' → E' c d H') : Good T R ps H r Q' E' := by
  cases r with
  | val w h => exact fun qs H' v s vw rv => hq _ _ (g qs H' v s vw rv)
  | exc c d h => exact fun qs H' e s vw rv => he _ _ _ (g qs H' e s vw rv)
  | bad => exact g
theorem Good.now {w : α} {v : β} (g : Good T R ps H (.val w h) Q E) (vw : View T ps h H) (rv : R ps w v) : Q v H := g ps H v (Step.refl _ _) vw rv
end

/-- the def's names -/
def ES (ps : Pl) (r : Ws) (s : St) : Prop := r.length = s.length ∧ ∀ (i : Nat) (w : W), r[i]? = some (some w) → ∃ v, s[i]? = some (some v) ∧ WV ps w v
theorem ES.mono {ps qs : Pl} {r : Ws} {s : St} (e : ES ps r s) (h : Pl.Le ps qs) : ES qs r s := ⟨e.1, fun i w q => by
  obtain ⟨v, a, b⟩ := e.2 i w q
  exact ⟨v, a, b.mono h⟩⟩
theorem ES.set {ps : Pl} {r : Ws} {s : St} {w : W} {v : V} (e : ES ps r s) (i : Nat) (h : WV ps w v) : ES ps (r.set i (some w)) (s.set i (some v)) := ⟨by simp [e.1], fun j u q => by
  by_cases hj : j = i
  · subst hj
    have hl : j < r.length := by simpa using (List.getElem?_eq_some_iff.mp q).1
    rw [List.getElem?_set_self hl] at q
    cases q
    exact ⟨v, by rw [List.getElem?_set_self (by rw [← e.1]; exact hl)], h⟩
  · rw [List.getElem?_set_ne (Ne.symm hj)] at q
    rw [List.getElem?_set_ne (Ne.symm hj)]
    exact e.2 j u q⟩

abbrev BEq2 : Pl → Bool → Bool → Prop := fun _ a b => a = b
/-- the readings -/
def tE (T : Tx) (E : WX) (f : Ws → Hv → Res W) : TE := fun s H Q => ∃ ps r h, ES ps r s ∧ View T ps h H ∧ Good T WV ps H (f r h) Q (fun c d H' => E c d s H')
def tT (T : Tx) (E : WX) (f : Ws → Hv → Res Bool) : TT := fun s H Q => ∃ ps r h, ES ps r s ∧ View T ps h H ∧ Good T BEq2 ps H (f r h) Q (fun c d H' => E c d s H')
def tA (T : Tx) (E : WX) (f : Ws → Hv → Res (List W)) : TA := fun s H Q => ∃ ps r h, ES ps r s ∧ View T ps h H ∧ Good T (fun qs => Paired (WV qs)) ps H (f r h) Q (fun c d H' => E c d s H')

inductive ResS where
  | nx (r : Ws) (h : Hv) | rt (w : W) (h : Hv) | bk (r : Ws) (h : Hv) | ct (r : Ws) (h : Hv) | exc (c : String) (d : Option Nat) (r : Ws) (h : Hv) | bad
def GoodS (T : Tx) (ps : Pl) (H : Hp) : ResS → Ends → WX → Prop
  | .nx r h, D, _ => ∀ qs H' s, Step ps H qs H' → View T qs h H' → ES qs r s → D.nx s H'
  | .rt w h, D, _ => ∀ qs H' v, Step ps H qs H' → View T qs h H' → WV qs w v → D.rt v H'
  | .bk r h, D, _ => ∀ qs H' s, Step ps H qs H' → View T qs h H' → ES qs r s → D.bk s H'
  | .ct r h, D, _ => ∀ qs H' s, Step ps H qs H' → View T qs h H' → ES qs r s → D.ct s H'
  | .exc c d r h, _, E => ∀ qs H' s e, Step ps H qs H' → View T qs h H' → ES qs r s → DV qs d e → E (T.cv c) e s H'
  | .bad, _, _ => False
theorem GoodS.step {T : Tx} {ps qs : Pl} {H H1 : Hp} {r : ResS} {D : Ends} {E : WX} (g : GoodS T ps H r D E) (s : Step ps H qs H1) : GoodS T qs H1 r D E := by
  cases r with
  | nx r h => exact fun rs H' v s' => g rs H' v (s.trans s')
  | rt r h => exact fun rs H' v s' => g rs H' v (s.trans s')
  | bk r h => exact fun rs H' v s' => g rs H' v (s.trans s')
  | ct r h => exact fun rs H' v s' => g rs H' v (s.trans s')
  | exc c d r h => exact fun rs H' v e s' => g rs H' v e (s.trans s')
  | bad => exact g
def tS (T : Tx) (E : WX) (f : Ws → Hv → ResS) : TS := fun D s H => ∃ ps r h, ES ps r s ∧ View T ps h H ∧ GoodS T ps H (f r h) D E

/-- the context's wish about exceptions -/
structure Cn (X : Cx) (E : WX) : Prop where
  tk : Takes X E
  po : PassesOwn (model X.prog X.w) X.A X.env X.xe
def SE (T : Tx) (X : Cx) (e : Expr) (f : Ws → Hv → Res W) : Prop := ∀ E, Cn X E → PE X e (tE T E f)
def STt (T : Tx) (X : Cx) (e : Expr) (f : Ws → Hv → Res Bool) : Prop := ∀ E, Cn X E → PT X e (tT T E f)
def SA (T : Tx) (X : Cx) (es : List Expr) (f : Ws → Hv → Res (List W)) : Prop := ∀ E, Cn X E → PA X es (tA T E f)
def SS (T : Tx) (X : Cx) (st : Stmt) (f : Ws → Hv → ResS) : Prop := ∀ E, Cn X E → PS X st (tS T E f)
def SSs (T : Tx) (X : Cx) (st : List Stmt) (f : Ws → Hv → ResS) : Prop := ∀ E, Cn X E → PSs X st (tS T E f)

section
variable {X : Cx} {e : Expr} {es : List Expr} {st : Stmt} {sts : List Stmt}
theorem PEi {t t' : TE} (h : PE X e t) (k : ∀ s H Q, t' s H Q → t s H Q) : PE X e t' := ⟨fun pins s σ H Q I hw => h.run pins s σ H Q I (k _ _ _ hw)⟩
theorem PTi {t t' : TT} (h : PT X e t) (k : ∀ s H Q, t' s H Q → t s H Q) : PT X e t' := ⟨fun pins s σ H Q I hw => h.run pins s σ H Q I (k _ _ _ hw)⟩
theorem PAi {t t' : TA} (h : PA X es t) (k : ∀ s H Q, t' s H Q → t s H Q) : PA X es t' := ⟨fun pos pins s σ H Q I hw => h.run pos pins s σ H Q I (k _ _ _ hw)⟩
theorem PSi {t t' : TS} (h : PS X st t) (k : ∀ D s H, t' D s H → t D s H) : PS X st t' := ⟨fun pins s σ H D I hw => h.run pins s σ H D I (k _ _ _ hw)⟩
theorem PSsi {t t' : TS} (h : PSs X sts t) (k : ∀ D s H, t' D s H → t D s H) : PSs X sts t' := ⟨fun pins s σ H D I hw => h.run pins s σ H D I (k _ _ _ hw)⟩
end
end VL
end
section
namespace VL
open PySem L2

/-! ### names, and what stands for itself -/
def mVar (i : Nat) : Ws → Hv → Res W := fun r h => match r[i]? with
  | some (some w) => .val w h
  | _ => .bad
def mC (w : W) : Ws → Hv → Res W := fun _ h => .val w h
section
variable {T : Tx} {X : Cx}
theorem se_var (i : Nat) {x : Str} {pos : Pos} (hN : X.N[i]? = some x := by rfl) (hv : Vis X.env.scope x := by first | exact Or.inl rfl | exact Or.inr (Or.inl rfl) | exact Or.inr (Or.inr rfl)) (hd : (x == ("__debug__" : Str)) = false := by decide)
    (hcd : (x == ("__classdict__" : Str)) = false := by decide) : SE T X (.Name x pos) (mVar i) := fun E cn => PEi (pe_var hN hv hd hcd) fun s H Q ⟨ps, r, h, es, vw, g⟩ => by
  unfold mVar at g
  split at g
  · rename_i w e
    obtain ⟨v, h1, h2⟩ := es.2 i w e
    exact ⟨v, h1, Good.now g vw h2⟩
  · exact g.elim
theorem se_c {e : Expr} {v : V} {w : W} (hp : PE X e (tC v)) (hw : ∀ ps, WV ps w v) : SE T X e (mC w) := fun E cn => PEi hp fun s H Q ⟨ps, r, h, es, vw, g⟩ => Good.now g vw (hw ps)
theorem se_int {i : Int} {j pos} : SE T X (.Constant (.int i) j pos) (mC (.int i)) := se_c pe_int fun _ => rfl
theorem se_bl {b : Bool} {j pos} : SE T X (.Constant (.bool b) j pos) (mC (.bl b)) := se_c pe_bl fun _ => rfl
theorem se_non {j pos} : SE T X (.Constant .none j pos) (mC .non) := se_c pe_non fun _ => rfl
theorem se_str {x : Str} {j pos} : SE T X (.Constant (.str x) j pos) (mC (.str x)) := se_c pe_str fun _ => rfl
theorem se_fix {x : Str} {a : Addr} {pos : Pos} (hg : Gl X x) (hm : X.mg x = some (.ref a)) (hd : (x == ("__debug__" : Str)) = false := by decide) : SE T X (.Name x pos) (mC (.fix a)) := se_c (pe_glob (v := .ref a) hg hm rfl hd) fun _ => rfl
theorem se_ty {x : Str} {n : String} {pos : Pos} (hg : Gl X x) (hm : X.mg x = none) (hv : bootBuiltins x = some (.type n)) (hn : x ≠ "__name__" := by decide) (hd : (x == ("__debug__" : Str)) = false := by decide) : SE T X (.Name x pos) (mC (.ty n)) :=
  se_c (pe_bltn (v := .ty n) hg hm hv rfl hn hd) fun _ => rfl
end

/-! ### operators -/
abbrev MOp := W → W → Hv → Res W
def RO (T : Tx) (r : R2) (g : MOp) : Prop := ∀ ps h H x y vx vy (Q : VK) (E : XK), View T ps h H → WV ps x vx → WV ps y vy → Good T WV ps H (g x y h) Q E → r vx vy H Q
def m2 (g : MOp) (fa fb : Ws → Hv → Res W) : Ws → Hv → Res W := fun r h => (fa r h).bind fun x h1 => (fb r h1).bind fun y h2 => g x y h2
section
variable {T : Tx} {X : Cx} {a b : Expr} {fa fb : Ws → Hv → Res W} {pos : Pos}
theorem two_of {E : WX} {r : R2} {g : MOp} (ho : RO T r g) {s : St} {H : Hp} {Q : VK} (h : tE T E (m2 g fa fb) s H Q) : tOp r (tE T E fa) (tE T E fb) s H Q := by
  obtain ⟨ps, r', hv, es, vw, gd⟩ := h
  refine ⟨ps, r', hv, es, vw, (Good.bind (R := WV) gd).imp (fun v H1 q => ?_) fun _ _ _ z => z⟩
  obtain ⟨qs, w, h1, st, vw1, wv, g1⟩ := q
  refine ⟨qs, r', h1, es.mono st.pre, vw1, (Good.bind (R := WV) g1).imp (fun u H2 q2 => ?_) fun _ _ _ z => z⟩
  obtain ⟨rs, w2, h2, st2, vw2, wv2, g2⟩ := q2
  exact ho rs h2 H2 w w2 v u Q _ vw2 (wv.mono st2.pre) wv2 g2
theorem se_op {op : Operator} {r : R2} {g : MOp} (ho : OpR X (binaryOp op) r) (hg : RO T r g) (ha : SE T X a fa) (hb : SE T X b fb) : SE T X (.BinOp a op b pos) (m2 g fa fb) := fun E cn =>
  PEi (pe_op ho (ha E cn) (hb E cn)) fun s H Q h => two_of hg h
theorem se_cmp {op : CmpOp} {r : R2} {g : MOp} (ho : OpR X (compareOp op) r) (hg : RO T r g) (ha : SE T X a fa) (hb : SE T X b fb) (hm : behindInMarks op b = false) : SE T X (.Compare a [op] [b] pos) (m2 g fa fb) := fun E cn =>
  PEi (pe_cmpR ho (ha E cn) (hb E cn) hm) fun s H Q h => two_of hg h
theorem RO.or {r r' : R2} {g : MOp} (h : ∀ ps h H x y vx vy (Q : VK) (E : XK), View T ps h H → WV ps x vx → WV ps y vy → Good T WV ps H (g x y h) Q E → r vx vy H Q ∨ r' vx vy H Q) : RO T (fun x y H Q => r x y H Q ∨ r' x y H Q) g := h

/-- two ints -/
def mI (C : Int → Int → Bool) (g : Int → Int → W) : MOp := fun x y h => match x, y with
  | .int i, .int j => if C i j then .val (g i j) h else .bad
  | _, _ => .bad
theorem ro_I {C : Int → Int → Prop} {C' : Int → Int → Bool} {g : Int → Int → W} {gv : Int → Int → V} (hc : ∀ i j, C' i j = true → C i j) (hg : ∀ ps i j, WV ps (g i j) (gv i j)) : RO T (rI C gv) (mI C' g) := by
  intro ps h H x y vx vy Q E vw wx wy gd
  unfold mI at gd
  split at gd
  · rename_i i j
    split at gd
    · rename_i hcc
      cases wx; cases wy
      exact ⟨i, j, rfl, rfl, hc i j hcc, Good.now gd vw (hg ps i j)⟩
    · exact gd.elim
  · exact gd.elim
def mI0 (g : Int → Int → W) : MOp := fun x y h => match x, y with
  | .int i, .int j => .val (g i j) h
  | _, _ => .bad
theorem ro_I0 {g : Int → Int → W} {gv : Int → Int → V} (hg : ∀ ps i j, WV ps (g i j) (gv i j)) : RO T (rI0 gv) (mI0 g) := by
  intro ps h H x y vx vy Q E vw wx wy gd
  unfold mI0 at gd
  split at gd
  · rename_i i j
    cases wx; cases wy
    exact ⟨i, j, rfl, rfl, Good.now gd vw (hg ps i j)⟩
  · exact gd.elim

/-! ### objects -/
theorem notX {H : Hp} {a : Addr} {xs : List V} (e : H a = some (.lst xs)) : ∀ u0, H a = some u0 → ∀ f, u0 ≠ .ext f := fun u0 h f z => by
  rw [e] at h
  cases h
  cases z
def mNew (o : O) (h : Hv) : Res W := .val (.ref h.length) (h ++ [o])
theorem good_new {ps : Pl} {h : Hv} {H : Hp} {o : O} {u : HO} {Q : VK} {E : XK} (vw : View T ps h H) (g : Good T WV ps H (mNew o h) Q E) (ho : ∀ H' p, H' p = some u → OAt T ps H' p o) {p : Addr} (hp : H p = none) : Q (.ref p) (upd H p u) := by
  obtain ⟨v1, s1, e1⟩ := vw.alloc hp (ho _ p upd_same)
  exact g _ _ _ s1 v1 ⟨p, e1, rfl⟩
theorem good_tup {ps : Pl} {h : Hv} {H : Hp} {ws : List W} {vs : List V} {Q : VK} {E : XK} (vw : View T ps h H) (g : Good T WV ps H (.val (.tup ws) h) Q E) (wv : Paired (WV ps) ws vs) {p : Addr} (hp : H p = none) : Q (.ref p) (upd H p (.tup vs)) := by
  obtain ⟨v1, s1⟩ := vw.tuple hp vs
  exact g _ _ _ s1 v1 (WV.tup_mk (.inr ⟨rfl, rfl⟩) (WVs.mono s1.pre wv))
theorem paired_app {ps : Pl} {xs ys : List W} {vs us : List V} (a : Paired (WV ps) xs vs) (b : Paired (WV ps) ys us) : Paired (WV ps) (xs ++ ys) (vs ++ us) := by
  induction a with
  | nil => exact b
  | cons h t ih => exact .cons h ih
theorem paired_get {ps : Pl} {xs : List W} {vs : List V} (a : Paired (WV ps) xs vs) : ∀ {i : Nat} {w : W}, xs[i]? = some w → ∃ v, vs[i]? = some v ∧ WV ps w v := by
  induction a with
  | nil => intro i w e; simp at e
  | cons h t ih =>
    intro i w e
    cases i with
    | zero => simp at e; subst e; exact ⟨_, rfl, h⟩
    | succ i => exact ih (by simpa using e)
theorem paired_at {ps : Pl} {xs : List W} {vs : List V} (a : Paired (WV ps) xs vs) {i : Int} {w : W} (e : atI xs i = some w) : ∃ v, atI vs i = some v ∧ WV ps w v := by
  unfold atI at e ⊢
  rw [← a.length]
  cases h : ixN xs.length i with
  | none => rw [h] at e; cases e
  | some j =>
    rw [h] at e
    exact paired_get a e
theorem paired_set {ps : Pl} {xs : List W} {vs : List V} (a : Paired (WV ps) xs vs) {w : W} {v : V} (h : WV ps w v) : ∀ i, Paired (WV ps) (xs.set i w) (vs.set i v) := by
  induction a with
  | nil => intro i; exact .nil
  | cons h1 t ih =>
    intro i
    cases i with
    | zero => exact .cons h t
    | succ i => exact .cons h1 (ih i)
theorem paired_take {ps : Pl} {xs : List W} {vs : List V} (a : Paired (WV ps) xs vs) : ∀ n, Paired (WV ps) (xs.take n) (vs.take n) := by
  induction a with
  | nil => intro n; simp; exact .nil
  | cons h1 t ih =>
    intro n
    cases n with
    | zero => exact .nil
    | succ n => exact .cons h1 (ih n)
theorem paired_drop {ps : Pl} {xs : List W} {vs : List V} (a : Paired (WV ps) xs vs) : ∀ n, Paired (WV ps) (xs.drop n) (vs.drop n) := by
  induction a with
  | nil => intro n; simp; exact .nil
  | cons h1 t ih =>
    intro n
    cases n with
    | zero => exact .cons h1 t
    | succ n => exact ih n
theorem paired_rep {ps : Pl} {xs : List W} {vs : List V} (a : Paired (WV ps) xs vs) : ∀ n, Paired (WV ps) (List.replicate n xs).flatten (List.replicate n vs).flatten
  | 0 => .nil
  | n + 1 => by
    simp only [List.replicate_succ, List.flatten_cons]
    exact paired_app a (paired_rep a n)
end

/-! ### argument lists, displays -/
def mNil : Ws → Hv → Res (List W) := fun _ h => .val [] h
def mCons (f : Ws → Hv → Res W) (g : Ws → Hv → Res (List W)) : Ws → Hv → Res (List W) := fun r h => (f r h).bind fun w h1 => (g r h1).bind fun ws h2 => .val (w :: ws) h2
abbrev WVs : Pl → List W → List V → Prop := fun qs => Paired (WV qs)
section
variable {T : Tx} {X : Cx} {e : Expr} {es : List Expr} {f : Ws → Hv → Res W} {g : Ws → Hv → Res (List W)} {pos : Pos}
theorem sa_nil : SA T X [] mNil := fun E cn => PAi pa_nil fun s H Q ⟨ps, r, h, es, vw, g⟩ => Good.now (R := WVs) g vw .nil
theorem sa_cons (h1 : SE T X e f) (h2 : SA T X es g) (hs : starEach (e :: es) X.env = (false, eval e X.env) :: starEach es X.env := by rfl) : SA T X (e :: es) (mCons f g) := fun E cn =>
  PAi (pa_cons (h1 E cn) (h2 E cn) hs) fun s H Q ⟨ps, r, h, es, vw, gd⟩ => by
    refine ⟨ps, r, h, es, vw, (Good.bind (R := WV) (S := WVs) gd).imp (fun v H1 q => ?_) fun _ _ _ z => z⟩
    obtain ⟨qs, w, h1, st, vw1, wv, g1⟩ := q
    refine ⟨qs, r, h1, es.mono st.pre, vw1, (Good.bind (R := WVs) (S := WVs) g1).imp (fun u H2 q2 => ?_) fun _ _ _ z => z⟩
    obtain ⟨rs, w2, h2, st2, vw2, wv2, g2⟩ := q2
    exact Good.now (R := WVs) g2 vw2 (.cons (wv.mono st2.pre) wv2)
def mTup (g : Ws → Hv → Res (List W)) : Ws → Hv → Res W := fun r h => (g r h).bind fun ws h1 => if ws.length ≤ 100000 then .val (.tup ws) h1 else .bad
def mLst (g : Ws → Hv → Res (List W)) : Ws → Hv → Res W := fun r h => (g r h).bind fun ws h1 => if ws.length ≤ 100000 then mNew (.lst ws) h1 else .bad
theorem sz_ok {n : Nat} (h : n ≤ 100000) : n ≤ sizeLine := Nat.le_trans h (by decide)
theorem se_tup {x1} (ha : SA T X es g) : SE T X (.Tuple es x1 pos) (mTup g) := fun E cn => PEi (pe_tup (ha E cn)) fun s H Q ⟨ps, r, h, es, vw, gd⟩ => by
  refine ⟨ps, r, h, es, vw, (Good.bind (R := WVs) (S := WV) gd).imp (fun v H1 q => ?_) fun _ _ _ z => z⟩
  obtain ⟨qs, w, h1, st, vw1, wv, g1⟩ := q
  have wl : w.length = v.length := wv.length
  dsimp only at g1
  split at g1
  · rename_i hl
    exact ⟨sz_ok (wl ▸ hl), fun p hp => good_tup vw1 g1 wv hp⟩
  · exact g1.elim
theorem se_lst (ha : SA T X es g) : SE T X (.List es pos) (mLst g) := fun E cn => PEi (pe_lst (ha E cn)) fun s H Q ⟨ps, r, h, es, vw, gd⟩ => by
  refine ⟨ps, r, h, es, vw, (Good.bind (R := WVs) (S := WV) gd).imp (fun v H1 q => ?_) fun _ _ _ z => z⟩
  obtain ⟨qs, w, h1, st, vw1, wv, g1⟩ := q
  have wl : w.length = v.length := wv.length
  dsimp only at g1
  split at g1
  · rename_i hl
    exact ⟨sz_ok (wl ▸ hl), fun p hp => good_new vw1 g1 (fun H' p' e => ⟨v, wv, e⟩) hp⟩
  · exact g1.elim
end

/-! ### tests, and, or, not -/
def asB (w : W) (h : Hv) : Res Bool := match w with
  | .bl b => .val b h
  | _ => .bad
def mT (f : Ws → Hv → Res W) : Ws → Hv → Res Bool := fun r h => (f r h).bind asB
section
variable {T : Tx} {X : Cx} {e a b c : Expr} {f fa fb : Ws → Hv → Res W} {t u : Ws → Hv → Res Bool} {rest : List Expr} {pos : Pos}
theorem asB_of {ps : Pl} {H : Hp} {w : W} {h : Hv} {v : V} {Q : Bool → Hp → Prop} {E : XK} (vw : View T ps h H) (wv : WV ps w v) (g : Good T BEq2 ps H (asB w h) Q E) : ∃ k, v = .bl k ∧ Q k H := by
  unfold asB at g
  split at g
  · rename_i k
    exact ⟨k, wv, Good.now (R := BEq2) g vw rfl⟩
  · exact g.elim
theorem test_of {E : WX} {s : St} {H : Hp} {Q : Bool → Hp → Prop} (h : tT T E (mT f) s H Q) : tE T E f s H fun x H1 => ∃ k, x = .bl k ∧ Q k H1 := by
  obtain ⟨ps, r, hv, es, vw, gd⟩ := h
  refine ⟨ps, r, hv, es, vw, (Good.bind (R := WV) (S := BEq2) gd).imp (fun v H1 q => ?_) fun _ _ _ z => z⟩
  obtain ⟨qs, w, h1, st, vw1, wv, g1⟩ := q
  exact asB_of vw1 wv g1
/-- a plain expression -/
theorem st_val (h : SE T X e f) (he : ∀ whole, isTrue e X.env whole = (do let v ← whole; standAt e.pos; holding [v] (truthy v)) := by intro _; rfl) : STt T X e (mT f) := fun E cn => PTi (pt_val (h E cn) he) fun s H Q h => test_of h
theorem st_cmp {op : CmpOp} {r : R2} {g : MOp} (ho : OpR X (compareOp op) r) (hg : RO T r g) (ha : SE T X a fa) (hb : SE T X b fb) (hm : behindInMarks op b = false) : STt T X (.Compare a [op] [b] pos) (mT (m2 g fa fb)) := fun E cn =>
  PTi (pt_cmpR ho (ha E cn) (hb E cn) hm) fun s H Q ⟨ps, r', h, es, vw, gd⟩ => by
    have z : tE T E (m2 g fa fb) s H fun x H' => ∃ k, x = .bl k ∧ Q k H' := test_of ⟨ps, r', h, es, vw, gd⟩
    exact two_of hg z
def mNotT (t : Ws → Hv → Res Bool) : Ws → Hv → Res Bool := fun r h => (t r h).bind fun b h1 => .val (!b) h1
def mAndT (t u : Ws → Hv → Res Bool) : Ws → Hv → Res Bool := fun r h => (t r h).bind fun b h1 => if b then u r h1 else .val false h1
def mOrT (t u : Ws → Hv → Res Bool) : Ws → Hv → Res Bool := fun r h => (t r h).bind fun b h1 => if b then .val true h1 else u r h1
theorem st_not (ha : STt T X a t) : STt T X (.UnaryOp .Not a pos) (mNotT t) := fun E cn => PTi (pt_not (ha E cn)) fun s H Q ⟨ps, r, h, es, vw, gd⟩ => by
  refine ⟨ps, r, h, es, vw, (Good.bind (R := BEq2) (S := BEq2) gd).imp (fun v H1 q => ?_) fun _ _ _ z => z⟩
  obtain ⟨qs, w, h1, st, vw1, wv, g1⟩ := q
  cases wv
  exact Good.now (R := BEq2) g1 vw1 rfl
/-- a chain of and, or -/
def SW (T : Tx) (X : Cx) (e : Expr) (f : Ws → Hv → Res Bool) : Prop := ∀ E, Cn X E → PW X e (tT T E f)
theorem PWi {t t' : TT} (h : PW X e t) (k : ∀ s H Q, t' s H Q → t s H Q) : PW X e t' := ⟨fun wh pins s σ H Q I hw => h.run wh pins s σ H Q I (k _ _ _ hw)⟩
theorem sw_and1 (ha : STt T X a t) : SW T X (.BoolOp .And [a] pos) t := fun E cn => pw_and1 (ha E cn)
theorem sw_or1 (ha : STt T X a t) : SW T X (.BoolOp .Or [a] pos) t := fun E cn => pw_or1 (ha E cn)
theorem sw_and (ha : STt T X a t) (hb : SW T X (.BoolOp .And (b :: rest) pos) u) : SW T X (.BoolOp .And (a :: b :: rest) pos) (mAndT t u) := fun E cn => PWi (pw_and (ha E cn) (hb E cn)) fun s H Q ⟨ps, r, h, es, vw, gd⟩ => by
  refine ⟨ps, r, h, es, vw, (Good.bind (R := BEq2) (S := BEq2) gd).imp (fun v H1 q => ?_) fun _ _ _ z => z⟩
  obtain ⟨qs, w, h1, st, vw1, wv, g1⟩ := q
  cases wv
  cases v with
  | true => exact iteT ⟨qs, r, h1, es.mono st.pre, vw1, g1⟩
  | false => exact iteF (Good.now (R := BEq2) g1 vw1 rfl)
theorem sw_or (ha : STt T X a t) (hb : SW T X (.BoolOp .Or (b :: rest) pos) u) : SW T X (.BoolOp .Or (a :: b :: rest) pos) (mOrT t u) := fun E cn => PWi (pw_or (ha E cn) (hb E cn)) fun s H Q ⟨ps, r, h, es, vw, gd⟩ => by
  refine ⟨ps, r, h, es, vw, (Good.bind (R := BEq2) (S := BEq2) gd).imp (fun v H1 q => ?_) fun _ _ _ z => z⟩
  obtain ⟨qs, w, h1, st, vw1, wv, g1⟩ := q
  cases wv
  cases v with
  | true => exact iteT (Good.now (R := BEq2) g1 vw1 rfl)
  | false => exact iteF ⟨qs, r, h1, es.mono st.pre, vw1, g1⟩
theorem st_w (h : SW T X e t) : STt T X e t := fun E cn => (h E cn).pt
/-- .. as values -/
def mNotV (f : Ws → Hv → Res W) : Ws → Hv → Res W := fun r h => (mT f r h).bind fun b h1 => .val (.bl (!b)) h1
def mAndV (f g : Ws → Hv → Res W) : Ws → Hv → Res W := fun r h => (mT f r h).bind fun b h1 => if b then g r h1 else .val (.bl false) h1
def mOrV (f g : Ws → Hv → Res W) : Ws → Hv → Res W := fun r h => (mT f r h).bind fun b h1 => if b then .val (.bl true) h1 else g r h1
theorem se_one {op} (h : SE T X a f) : SE T X (.BoolOp op [a] pos) f := fun E cn => pe_one (h E cn)
theorem val_of {E : WX} {s : St} {H : Hp} {Q : VK} {k : Bool → Ws → Hv → Res W} {P : Bool → Hp → Prop} (h : tE T E (fun r h => (mT f r h).bind fun b h1 => k b r h1) s H Q) (hk : ∀ b H1, tE T E (k b) s H1 Q → P b H1) :
    tE T E f s H fun x H1 => ∃ c, x = .bl c ∧ P c H1 := by
  obtain ⟨ps, r, hv, es, vw, gd⟩ := h
  have z := (Good.bind (R := BEq2) (S := WV) gd)
  refine test_of ⟨ps, r, hv, es, vw, z.imp (fun v H1 q => ?_) fun _ _ _ z => z⟩
  obtain ⟨qs, w, h1, st, vw1, wv, g1⟩ := q
  cases wv
  exact hk v H1 ⟨qs, r, h1, es.mono st.pre, vw1, g1⟩
theorem tE_val {E : WX} {s : St} {H : Hp} {Q : VK} {w : W} {v : V} (h : tE T E (fun _ h => .val w h) s H Q) (hw : ∀ ps, WV ps w v) : Q v H := by
  obtain ⟨ps, r, hv, es, vw, gd⟩ := h
  exact Good.now (R := WV) gd vw (hw ps)
theorem se_not (ha : SE T X a f) : SE T X (.UnaryOp .Not a pos) (mNotV f) := fun E cn => PEi (pe_not (ha E cn)) fun s H Q h =>
  val_of (k := fun b _ h1 => .val (.bl (!b)) h1) h fun b H1 q => tE_val q fun _ => rfl
theorem se_and (ha : SE T X a fa) (hb : SE T X (.BoolOp .And (b :: rest) pos) fb) : SE T X (.BoolOp .And (a :: b :: rest) pos) (mAndV fa fb) := fun E cn => PEi (pe_and (ha E cn) (hb E cn)) fun s H Q h =>
  val_of (k := fun b r h1 => if b then fb r h1 else .val (.bl false) h1) h fun b H1 q => by
    cases b with
    | true => exact iteT q
    | false => exact iteF (tE_val (w := .bl false) q fun _ => rfl)
theorem se_or (ha : SE T X a fa) (hb : SE T X (.BoolOp .Or (b :: rest) pos) fb) : SE T X (.BoolOp .Or (a :: b :: rest) pos) (mOrV fa fb) := fun E cn => PEi (pe_or (ha E cn) (hb E cn)) fun s H Q h =>
  val_of (k := fun b r h1 => if b then .val (.bl true) h1 else fb r h1) h fun b H1 q => by
    cases b with
    | true => exact iteT (tE_val (w := .bl true) q fun _ => rfl)
    | false => exact iteF q
def mIf (t : Ws → Hv → Res Bool) (f g : Ws → Hv → Res W) : Ws → Hv → Res W := fun r h => (t r h).bind fun b h1 => if b then f r h1 else g r h1
theorem se_if (hc : STt T X c t) (ha : SE T X a fa) (hb : SE T X b fb) : SE T X (.IfExp c a b pos) (mIf t fa fb) := fun E cn => PEi (pe_ifExp (hc E cn) (ha E cn) (hb E cn)) fun s H Q ⟨ps, r, h, es, vw, gd⟩ => by
  refine ⟨ps, r, h, es, vw, (Good.bind (R := BEq2) (S := WV) gd).imp (fun v H1 q => ?_) fun _ _ _ z => z⟩
  obtain ⟨qs, w, h1, st, vw1, wv, g1⟩ := q
  cases wv
  cases v with
  | true => exact iteT ⟨qs, r, h1, es.mono st.pre, vw1, g1⟩
  | false => exact iteF ⟨qs, r, h1, es.mono st.pre, vw1, g1⟩
end
end VL
end
section
namespace VL
open PySem L2

/-! ### values as data -/
def optAll (f : W → Option PyData) : List W → Option (List PyData)
  | [] => some []
  | x :: xs => match f x, optAll f xs with
    | some y, some ys => some (y :: ys)
    | _, _ => none
def toD : Nat → Hv → W → Option PyData
  | 0, _, _ => none
  | n + 1, h, w => match w with
    | .non => some .none
    | .bl b => some (.bool b)
    | .int i => some (.int i)
    | .str x => some (.str x)
    | .ref i => match h[i]? with
      | some (.lst xs) => (optAll (toD n h) xs).map .list
      | some (.rol xs) => (optAll (toD n h) xs).map .list
      | _ => none
    | .tup xs => (optAll (toD n h) xs).map .tuple
    | _ => none
section
variable {T : Tx} {K : PySem.W.Frag} {ps : Pl} {h : Hv} {H : Hp}
theorem optAll_ok {f : W → Option PyData} (hf : ∀ w v d, f w = some d → WV ps w v → Dp K H v d) : ∀ {xs : List W} {vs : List V} {ds : List PyData}, optAll f xs = some ds → Paired (WV ps) xs vs → DpAll K H vs ds
  | [], _, _, e, .nil => by cases e; exact .nil
  | x :: xs, _, ds, e, .cons r t => by
    simp only [optAll] at e
    split at e
    · rename_i d ds' e1 e2
      cases e
      exact .cons (hf _ _ _ e1 r) (optAll_ok hf e2 t)
    · cases e
theorem toD_ok (vw : View T ps h H) : ∀ (n : Nat) (w : W) (v : V) (d : PyData), toD n h w = some d → WV ps w v → Dp K H v d
  | 0, _, _, _, e, _ => by cases e
  | n + 1, w, v, d, e, wv => by
    unfold toD at e
    split at e
    · cases e; cases wv; exact .non
    · cases e; cases wv; exact .bl _
    · cases e; cases wv; exact .int _
    · cases e; cases wv; exact .str _
    · rename_i i
      obtain ⟨a, ea, rfl⟩ := wv
      split at e
      · rename_i xs eh
        obtain ⟨vs, r, eH⟩ := vw.ob i a _ ea eh
        cases q : optAll (toD n h) xs with
        | none => simp [q] at e
        | some ds =>
          rw [q] at e; cases e
          exact .lst (SqL.of eH) (optAll_ok (toD_ok vw n) q r)
      · rename_i xs eh
        obtain ⟨vs, ob, r, eH⟩ := vw.ob i a _ ea eh
        cases q : optAll (toD n h) xs with
        | none => simp [q] at e
        | some ds =>
          rw [q] at e; cases e
          exact .lst (.inl (.inr ⟨ob, eH⟩)) (optAll_ok (toD_ok vw n) q r)
      · cases e
    · rename_i xs
      obtain ⟨a, vs, rfl, ht, r⟩ := wv.tup_of
      have eH := vw.tup a vs ht
      cases q : optAll (toD n h) xs with
      | none => simp [q] at e
      | some ds =>
        rw [q] at e; cases e
        exact .tup (SqT.of eH) (optAll_ok (toD_ok vw n) q r)
    · cases e
end
abbrev dF : Nat := 12
def mEq (neg : Bool) : MOp := fun x y h => match toD dF h x, toD dF h y with
  | some d, some e => if SeqAt.shaped d && SeqAt.shaped e then .val (.bl (if neg then !PyData.eqv d e else PyData.eqv d e)) h else .bad
  | _, _ => .bad
section
variable {T : Tx} {X : Cx}
theorem ro_eq : RO T (rEqD X.K) (mEq false) := by
  intro ps h H x y vx vy Q E vw wx wy gd
  unfold mEq at gd
  split at gd
  · rename_i d e e1 e2
    split at gd
    · rename_i hs
      rw [Bool.and_eq_true] at hs
      exact ⟨d, e, toD_ok vw _ _ _ _ e1 wx, toD_ok vw _ _ _ _ e2 wy, hs.1, hs.2, Good.now gd vw rfl⟩
    · exact gd.elim
  · exact gd.elim
theorem ro_ne : RO T (rNeD X.K) (mEq true) := by
  intro ps h H x y vx vy Q E vw wx wy gd
  unfold mEq at gd
  split at gd
  · rename_i d e e1 e2
    split at gd
    · rename_i hs
      rw [Bool.and_eq_true] at hs
      exact ⟨d, e, toD_ok vw _ _ _ _ e1 wx, toD_ok vw _ _ _ _ e2 wy, hs.1, hs.2, Good.now gd vw rfl⟩
    · exact gd.elim
  · exact gd.elim

/-! ### arithmetic -/
def mAdd : MOp := fun x y h => match x, y with
  | .int i, .int j => .val (.int (i + j)) h
  | .str a, .str b => if a.length + b.length ≤ 100000 then .val (.str (a ++ b)) h else .bad
  | .ref p, .ref q => match h[p]?, h[q]? with
    | some (.lst xs), some (.lst ys) => if xs.length + ys.length ≤ 100000 then mNew (.lst (xs ++ ys)) h else .bad
    | _, _ => .bad
  | _, _ => .bad
theorem op_addA : OpR X (binaryOp .Add) (fun x y H Q => (rI0 fun i j => .int (i + j)) x y H Q ∨ ((fun x y H Q => ∃ i j, x = V.str i ∧ y = V.str j ∧ i.length + j.length ≤ sizeLine ∧ Q (.str (i ++ j)) H) x y H Q ∨ rCat x y H Q)) := op_add.or (op_add_str.or op_cat)
theorem ro_add : RO T (fun x y H Q => (rI0 fun i j => .int (i + j)) x y H Q ∨ ((fun x y H Q => ∃ i j, x = V.str i ∧ y = V.str j ∧ i.length + j.length ≤ sizeLine ∧ Q (.str (i ++ j)) H) x y H Q ∨ rCat x y H Q)) mAdd := by
  intro ps h H x y vx vy Q E vw wx wy gd
  unfold mAdd at gd
  split at gd
  · cases wx; cases wy
    exact .inl ⟨_, _, rfl, rfl, Good.now gd vw rfl⟩
  · split at gd
    · rename_i hl
      cases wx; cases wy
      exact .inr (.inl ⟨_, _, rfl, rfl, sz_ok hl, Good.now gd vw rfl⟩)
    · exact gd.elim
  · obtain ⟨a, ea, rfl⟩ := wx
    obtain ⟨b, eb, rfl⟩ := wy
    split at gd
    · rename_i xs ys e1 e2
      split at gd
      · rename_i hl
        obtain ⟨vs, r, eH⟩ := vw.ob _ a _ ea e1
        obtain ⟨us, r2, eH2⟩ := vw.ob _ b _ eb e2
        have l1 := r.length
        have l2 := r2.length
        exact .inr (.inr ⟨a, b, vs, us, rfl, rfl, eH, eH2, sz_ok (by omega), fun p hp => good_new vw gd (fun H' p' e => ⟨_, paired_app r r2, e⟩) hp⟩)
      · exact gd.elim
    · exact gd.elim
  · exact gd.elim
def mSub : MOp := mI0 fun i j => .int (i - j)
theorem ro_sub : RO T (rI0 fun i j => .int (i - j)) mSub := ro_I0 fun _ _ _ => rfl
def mulB (i j : Int) : Bool := decide (i.natAbs.log2 + j.natAbs.log2 < 1000000)
def mMul : MOp := fun x y h => match x, y with
  | .int i, .int j => if mulB i j then .val (.int (i * j)) h else .bad
  | .ref p, .int k => match h[p]? with
    | some (.lst xs) => if decide (-9223372036854775808 ≤ k) && decide (k < 9223372036854775808) && decide (xs.length * k.toNat ≤ 100000) then mNew (.lst (List.replicate k.toNat xs).flatten) h else .bad
    | _ => .bad
  | _, _ => .bad
theorem op_mulA : OpR X (binaryOp .Mult) (fun x y H Q => (rI CMulW fun i j => .int (i * j)) x y H Q ∨ rRep x y H Q) := op_mulW.or op_rep
theorem ro_mul : RO T (fun x y H Q => (rI CMulW fun i j => .int (i * j)) x y H Q ∨ rRep x y H Q) mMul := by
  intro ps h H x y vx vy Q E vw wx wy gd
  unfold mMul at gd
  split at gd
  · split at gd
    · rename_i hc
      cases wx; cases wy
      exact .inl ⟨_, _, rfl, rfl, (show _ < 1000000 by unfold mulB at hc; exact of_decide_eq_true hc), Good.now gd vw rfl⟩
    · exact gd.elim
  · obtain ⟨a, ea, rfl⟩ := wx
    cases wy
    split at gd
    · rename_i k xs e1
      split at gd
      · rename_i hl
        simp only [Bool.and_eq_true, decide_eq_true_eq] at hl
        obtain ⟨vs, r, eH⟩ := vw.ob _ a _ ea e1
        have l1 := r.length
        have e63 : (2 : Int) ^ 63 = 9223372036854775808 := by decide
        exact .inr ⟨a, _, vs, rfl, rfl, eH, by rw [e63]; exact hl.1.1, by rw [e63]; exact hl.1.2, sz_ok (by rw [← l1]; exact hl.2), fun p hp => good_new vw gd (fun H' p' e => ⟨_, paired_rep r _, e⟩) hp⟩
      · exact gd.elim
    · exact gd.elim
  · exact gd.elim
def divB (_ j : Int) : Bool := decide (j ≠ 0) && decide (j.natAbs.log2 < 9000)
theorem op_fdivG : OpR X (binaryOp .FloorDiv) (rI (fun _ j => j ≠ 0 ∧ j.natAbs.log2 < 9000) fun i j => .int (i.fdiv j)) := opI fun i j _ _ _ _ _ hc q => PyProof.Rows.floordiv_int hc.1 q (.inl (PyProof.noPylong_of_log2 hc.2))
def mDiv : MOp := mI divB fun i j => .int (i.fdiv j)
theorem ro_div : RO T (rI (fun _ j => j ≠ 0 ∧ j.natAbs.log2 < 9000) fun i j => .int (i.fdiv j)) mDiv := ro_I (fun i j hc => by
  unfold divB at hc
  rw [Bool.and_eq_true] at hc
  exact ⟨of_decide_eq_true hc.1, of_decide_eq_true hc.2⟩) fun _ _ _ => rfl
def mMod : MOp := mI (fun _ j => decide (j ≠ 0)) fun i j => .int (i.fmod j)
theorem ro_mod : RO T (rI (fun _ j => j ≠ 0) fun i j => .int (i.fmod j)) mMod := ro_I (fun i j hc => of_decide_eq_true hc) fun _ _ _ => rfl
def powB (i j : Int) : Bool := decide (0 ≤ j) && (decide (j ≤ 1000000) && decide (i.natAbs < 2 ^ 64))
def mPow : MOp := mI powB fun i j => .int (i ^ j.toNat)
theorem ro_pow : RO T (rI CPow fun i j => .int (i ^ j.toNat)) mPow := ro_I (fun i j hc => by
  simp only [powB, Bool.and_eq_true, decide_eq_true_eq] at hc
  exact ⟨hc.1, hc.2.1, hc.2.2⟩) fun _ _ _ => rfl
def mLt : MOp := mI0 fun i j => .bl (decide (i < j))
def mLe : MOp := mI0 fun i j => .bl (decide (i ≤ j))
def mGt : MOp := mI0 fun i j => .bl (decide (j < i))
def mGe : MOp := mI0 fun i j => .bl (decide (j ≤ i))
theorem ro_lt : RO T (rI0 fun i j => .bl (decide (i < j))) mLt := ro_I0 fun _ _ _ => rfl
theorem ro_le : RO T (rI0 fun i j => .bl (decide (i ≤ j))) mLe := ro_I0 fun _ _ _ => rfl
theorem ro_gt : RO T (rI0 fun i j => .bl (decide (j < i))) mGt := ro_I0 fun _ _ _ => rfl
theorem ro_ge : RO T (rI0 fun i j => .bl (decide (j ≤ i))) mGe := ro_I0 fun _ _ _ => rfl
/-! ### is, is not: None and bools -/
def mIs (neg : Bool) : MOp := fun x y h => match x, y with
  | .bl a, .bl b => .val (.bl (if neg then !decide (a = b) else decide (a = b))) h
  | x, .non => .val (.bl (if neg then !decide (x = .non) else decide (x = .non))) h
  | _, _ => .bad
theorem wv_non {ps : Pl} {w : W} {v : V} (h : WV ps w v) : decide (v = .non) = decide (w = .non) := by
  cases w with
  | ref i => obtain ⟨a, _, rfl⟩ := h; simp
  | non => cases h; simp
  | bl b => cases h; simp
  | int b => cases h; simp
  | str b => cases h; simp
  | fix b => cases h; simp
  | ty b => cases h; simp
  | tup xs => obtain ⟨a, vs, rfl, _⟩ := h; simp
def rIs (neg : Bool) : R2 := fun x y H Q => (∃ a b : Bool, x = .bl a ∧ y = .bl b ∧ Q (.bl (if neg then !decide (a = b) else decide (a = b))) H) ∨ (y = .non ∧ Q (.bl (if neg then !decide (x = .non) else decide (x = .non))) H)
theorem op_isA : OpR X (compareOp .Is) (rIs false) := op_isBl.or op_isN
theorem op_isnotA : OpR X (compareOp .IsNot) (rIs true) := op_notBl.or op_notN
theorem ro_is {neg : Bool} : RO T (rIs neg) (mIs neg) := by
  intro ps h H x y vx vy Q E vw wx wy gd
  unfold mIs at gd
  split at gd
  · cases wx; cases wy
    exact .inl ⟨_, _, rfl, rfl, Good.now gd vw rfl⟩
  · cases wy
    refine .inr ⟨rfl, ?_⟩
    rw [wv_non wx]
    exact Good.now gd vw rfl
  · exact gd.elim
/-! ### the sign -/
def m1 (g : W → Hv → Res W) (f : Ws → Hv → Res W) : Ws → Hv → Res W := fun r h => (f r h).bind g
def mNeg : W → Hv → Res W := fun x h => match x with
  | .int i => .val (.int (-i)) h
  | _ => .bad
theorem se_neg {a : Expr} {f : Ws → Hv → Res W} {pos : Pos} (ha : SE T X a f) : SE T X (.UnaryOp .USub a pos) (m1 mNeg f) := fun E cn => PEi (pe_un un_neg (ha E cn)) fun s H Q ⟨ps, r, h, es, vw, gd⟩ => by
  refine ⟨ps, r, h, es, vw, (Good.bind (R := WV) (S := WV) gd).imp (fun v H1 q => ?_) fun _ _ _ z => z⟩
  obtain ⟨qs, w, h1, st, vw1, wv, g1⟩ := q
  unfold mNeg at g1
  split at g1
  · cases wv
    exact ⟨_, rfl, Good.now g1 vw1 rfl⟩
  · exact g1.elim
/-! ### items -/
def ofO {α : Type} (o : Option α) (h : Hv) : Res α := match o with
  | some w => .val w h
  | none => .bad
def mIx : MOp := fun x y h => match x, y with
  | .ref p, .int i => match h[p]? with
    | some (.lst xs) => ofO (atI xs i) h
    | some (.rol xs) => ofO (atI xs i) h
    | _ => .bad
  | .tup xs, .int i => ofO (atI xs i) h
  | .str z, .int i => if z.length ≤ 100000 then ofO ((atI z.cps.toList i).map fun c => .str ⟨#[c]⟩) h else .bad
  | _, _ => .bad
theorem ofO_of {ps : Pl} {h : Hv} {H : Hp} {o : Option W} {Q : VK} {E : XK} (g : Good T WV ps H (ofO o h) Q E) : ∃ w, o = some w ∧ Good T WV ps H (.val w h) Q E := by
  cases o with
  | none => exact g.elim
  | some w => exact ⟨w, rfl, g⟩
theorem ro_ix : RO T (rIx X.K) mIx := by
  intro ps h H x y vx vy Q E vw wx wy gd
  unfold mIx at gd
  split at gd
  · obtain ⟨a, ea, rfl⟩ := wx
    cases wy
    split at gd
    · rename_i xs e1
      obtain ⟨w, ew, g⟩ := ofO_of gd
      obtain ⟨vs, r, eH⟩ := vw.ob _ a _ ea e1
      obtain ⟨v, ev, wv⟩ := paired_at r ew
      exact .inl ⟨a, vs, _, v, rfl, rfl, SqL.of eH, ev, Good.now g vw wv⟩
    · rename_i xs e1
      obtain ⟨w, ew, g⟩ := ofO_of gd
      obtain ⟨vs, ob, r, eH⟩ := vw.ob _ a _ ea e1
      obtain ⟨v, ev, wv⟩ := paired_at r ew
      exact .inl ⟨a, vs, _, v, rfl, rfl, .inl (.inr ⟨ob, eH⟩), ev, Good.now g vw wv⟩
    · exact gd.elim
  · cases wy
    obtain ⟨a, vs, rfl, ht, r⟩ := wx.tup_of
    have eH := vw.tup a vs ht
    obtain ⟨w, ew, g⟩ := ofO_of gd
    obtain ⟨v, ev, wv⟩ := paired_at r ew
    exact .inr (.inl ⟨a, vs, _, v, rfl, rfl, SqT.of eH, ev, Good.now g vw wv⟩)
  · cases wx; cases wy
    split at gd
    · rename_i z i hl
      obtain ⟨w, ew, g⟩ := ofO_of gd
      cases q : atI z.cps.toList i with
      | none => rw [q] at ew; cases ew
      | some c =>
        rw [q] at ew; cases ew
        exact .inr (.inr ⟨z, i, c, rfl, rfl, sz_ok hl, q, Good.now g vw rfl⟩)
    · exact gd.elim
  · exact gd.elim
theorem se_ix {a b : Expr} {fa fb : Ws → Hv → Res W} {pos : Pos} (ha : SE T X a fa) (hb : SE T X b fb) (hs : PlainIx b := by exact fun _ _ => rfl) : SE T X (.Subscript a b pos) (m2 mIx fa fb) := fun E cn => PEi (pe_ix ix_seq (ha E cn) (hb E cn) hs) fun s H Q h => two_of ro_ix h
end
end VL
end
section
namespace VL
open PySem L2

/-! ### calls -/
abbrev MFn := List W → Hv → Res W
/-- a def's promise: it does what m says of the view -/
def spV (T : Tx) (n : Nat) (m : MFn) : Sp := fun vs H Q E => vs.length = n ∧ ∃ ps h ws, View T ps h H ∧ Paired (WV ps) ws vs ∧ Good T WV ps H (m ws h) Q E
/-- the def at f may be called where X stands -/
def Can (T : Tx) (X : Cx) (f : Addr) (n : Nat) (m : MFn) : Prop := ∀ (pins : List (Addr × Obj)) (s : Shared) (σ : St) (H : Hp) (us : List Value) (vs : List V) (Q : VK) (E : XK), Inv X pins σ H s → Vals vs us → spV T n m vs H Q E →
  codeAny (model X.prog X.w) X.A (.call (.ref f) ⟨us, []⟩) (CR (L2.CX X.prog X.w) X.stack X.prog X.w H s Q E) s
def mCall (n : Nat) (m : MFn) (g : Ws → Hv → Res (List W)) : Ws → Hv → Res W := fun r h => (g r h).bind fun ws h1 => if ws.length = n then m ws h1 else .bad
section
variable {T : Tx} {X : Cx} {f : Addr} {n : Nat} {m : MFn} {x : Str} {e : Expr} {es : List Expr} {g : Ws → Hv → Res (List W)} {p pos : Pos}
theorem Can.wp (C : Can T X f n m) {E : WX} (cn : Cn X E) {pins : List (Addr × Obj)} {s : Shared} {σ : St} {H : Hp} {us : List Value} {vs : List V} {Q : VK} (I : Inv X pins σ H s) (r : Vals vs us) (h : spV T n m vs H Q (WE E σ)) : wpAny (model X.prog X.w) X.A (call (.ref f) us) (EP X pins σ Q) X.xe s := by
  refine wpAny_call (codeAny_mono (C pins s σ H us vs Q (WE E σ) I r h) fun fin s' hq => ?_)
  match fin, hq with
  | .error u, hq => exact passAt cn.tk σ pins H s u s' I hq
  | .ok (.ret u), hq => exact I.after hq
  | .ok .next, hq => exact hq.elim
  | .ok .brk, hq => exact hq.elim
  | .ok .cont, hq => exact hq.elim
theorem call_read {E : WX} {s : St} {H : Hp} {Q : VK} (h : tE T E (mCall n m g) s H Q) : tA T E g s H fun vs H1 => spV T n m vs H1 Q (WE E s) := by
  obtain ⟨ps, r, hv, es, vw, gd⟩ := h
  refine ⟨ps, r, hv, es, vw, (Good.bind (R := WVs) (S := WV) gd).imp (fun v H1 q => ?_) fun _ _ _ z => z⟩
  obtain ⟨qs, w, h1, st, vw1, wv, g1⟩ := q
  dsimp only at g1
  have wl : w.length = v.length := wv.length
  split at g1
  · rename_i hl
    exact ⟨wl ▸ hl, qs, h1, w, vw1, wv, g1⟩
  · exact g1.elim
theorem se_call (C : Can T X f n m) (hg : Gl X x) (hm : X.mg x = some (.ref f)) (hk : PySem.W.keepIn X.K (.ref f) = true) (ha : SA T X (e :: es) g) (hdb : (x == ("__debug__" : Str)) = false := by decide)
    (he : starEach (e :: es) X.env = (false, eval e X.env) :: starEach es X.env := by rfl) (hpl : (backTo pos (starEach es X.env)).any (·.1) = false := by rfl) : SE T X (.Call (.Name x p) (e :: es) [] pos) (mCall n m g) := fun E cn => ⟨fun pins s σ H Q I h => by
  refine wpAny_Call_Name_kw (ld_glob (X := X) I hg hm ?_ hdb)
  exact PySem.W.callWith_K (h₀ := X.base) I.ok.mod.kin hk (thn ((ha E cn).run pos pins s σ H _ I (call_read h)) fun us s1 ⟨vs, H1, I1, r, q⟩ => ⟨I1.kIn, C.wp cn I1 r q⟩) he hpl⟩
theorem se_call0 (C : Can T X f 0 m) (hg : Gl X x) (hm : X.mg x = some (.ref f)) (hk : PySem.W.keepIn X.K (.ref f) = true) (hdb : (x == ("__debug__" : Str)) = false := by decide) : SE T X (.Call (.Name x p) [] [] pos) (mCall 0 m mNil) := fun E cn => ⟨fun pins s σ H Q I h => by
  refine wpAny_Call_Name_kw (ld_glob (X := X) I hg hm ?_ hdb)
  obtain ⟨ps, r, hv, es, vw, gd⟩ := h
  exact PySem.W.callWith_K0 I.kIn hk (C.wp (us := []) cn I .nil ⟨rfl, ps, hv, [], vw, .nil, gd⟩)⟩
/-- a def of FnOk's kind -/
theorem can_ok {k : Nat} {fd : FuncData} {qs : List Str} (F : FnOk X.prog X.w X.K X.mg X.base (L2.CX X.prog X.w) k f fd qs (spV T n m)) (hr : Room k X.A) (hb : Binds X.K fd qs []) : Can T X f n m := fun pins s σ H us vs Q E I r h => by
  have hl : us.length = qs.length := by rw [← r.length]; exact F.len _ _ _ _ h
  have b := hb s us I.kIn (by simpa using hl)
  rw [List.append_nil] at b
  exact F.run X.A X.stack s H ⟨us, []⟩ us vs Q E hr I.env0 b r h
/-! ### built-ins -/
def RC (T : Tx) (r : List V → Hp → VK → Prop) (m : MFn) : Prop := ∀ ps h H ws vs (Q : VK) (E : XK), View T ps h H → Paired (WV ps) ws vs → Good T WV ps H (m ws h) Q E → r vs H Q
def mB (m : MFn) (g : Ws → Hv → Res (List W)) : Ws → Hv → Res W := fun r h => (g r h).bind m
theorem b_read {E : WX} {s : St} {H : Hp} {Q : VK} {r : List V → Hp → VK → Prop} (hr : RC T r m) (h : tE T E (mB m g) s H Q) : tCB r (tA T E g) s H Q := by
  obtain ⟨ps, r', hv, es, vw, gd⟩ := h
  refine ⟨ps, r', hv, es, vw, (Good.bind (R := WVs) (S := WV) gd).imp (fun v H1 q => ?_) fun _ _ _ z => z⟩
  obtain ⟨qs, w, h1, st, vw1, wv, g1⟩ := q
  exact hr qs h1 H1 w v Q _ vw1 wv g1
theorem se_b {id : String} {r : List V → Hp → VK → Prop} (hc : CallR X (.builtin id) r) (hr : RC T r m) (hg : Gl X x) (hm : X.mg x = none) (hv : bootBuiltins x = some (.builtin id)) (ha : SA T X (e :: es) g) (hn : x ≠ "__name__" := by decide) (hdb : (x == ("__debug__" : Str)) = false := by decide)
    (he : starEach (e :: es) X.env = (false, eval e X.env) :: starEach es X.env := by rfl) (hpl : (backTo pos (starEach es X.env)).any (·.1) = false := by rfl) : SE T X (.Call (.Name x p) (e :: es) [] pos) (mB m g) := fun E cn => PEi (pe_callB hc hg hm hv (ha E cn) hn hdb he hpl) fun s H Q h => b_read hr h
theorem se_bt {id : String} {r : List V → Hp → VK → Prop} (hc : CallR X (.type id) r) (hr : RC T r m) (hg : Gl X x) (hm : X.mg x = none) (hv : bootBuiltins x = some (.type id)) (ha : SA T X (e :: es) g) (hn : x ≠ "__name__" := by decide) (hdb : (x == ("__debug__" : Str)) = false := by decide)
    (he : starEach (e :: es) X.env = (false, eval e X.env) :: starEach es X.env := by rfl) (hpl : (backTo pos (starEach es X.env)).any (·.1) = false := by rfl) : SE T X (.Call (.Name x p) (e :: es) [] pos) (mB m g) := fun E cn => PEi (pe_callTy hc hg hm hv (ha E cn) hn hdb he hpl) fun s H Q h => b_read hr h
theorem one_of {ps : Pl} {w : W} {vs : List V} (h : Paired (WV ps) [w] vs) : ∃ v, vs = [v] ∧ WV ps w v := by
  cases h with
  | cons a b => cases b; exact ⟨_, rfl, a⟩
theorem pair_of {ps : Pl} {w u : W} {vs : List V} (h : Paired (WV ps) [w, u] vs) : ∃ v v', vs = [v, v'] ∧ WV ps w v ∧ WV ps u v' := by
  cases h with
  | cons a b => cases b with
    | cons c d => cases d; exact ⟨_, _, rfl, a, c⟩
def mAbs : MFn := fun ws h => match ws with
  | [.int i] => .val (.int (if i < 0 then -i else i)) h
  | _ => .bad
theorem rc_abs : RC T (fun xs H Q => ∃ i, xs = [.int i] ∧ Q (.int (if i < 0 then -i else i)) H) mAbs := by
  intro ps h H ws vs Q E vw wv gd
  unfold mAbs at gd
  split at gd
  · obtain ⟨v, rfl, e⟩ := one_of wv
    cases e
    exact ⟨_, rfl, Good.now gd vw rfl⟩
  · exact gd.elim
def mMax : MFn := fun ws h => match ws with
  | [.int i, .int j] => .val (.int (if j > i then j else i)) h
  | _ => .bad
theorem rc_max : RC T (fun xs H Q => ∃ i j, xs = [.int i, .int j] ∧ Q (.int (if j > i then j else i)) H) mMax := by
  intro ps h H ws vs Q E vw wv gd
  unfold mMax at gd
  split at gd
  · obtain ⟨v, v', rfl, e, e'⟩ := pair_of wv
    cases e; cases e'
    exact ⟨_, _, rfl, Good.now gd vw rfl⟩
  · exact gd.elim
def mMin : MFn := fun ws h => match ws with
  | [.int i, .int j] => .val (.int (if j < i then j else i)) h
  | _ => .bad
theorem rc_min : RC T (fun xs H Q => ∃ i j, xs = [.int i, .int j] ∧ Q (.int (if j < i then j else i)) H) mMin := by
  intro ps h H ws vs Q E vw wv gd
  unfold mMin at gd
  split at gd
  · obtain ⟨v, v', rfl, e, e'⟩ := pair_of wv
    cases e; cases e'
    exact ⟨_, _, rfl, Good.now gd vw rfl⟩
  · exact gd.elim
def mInt : MFn := fun ws h => match ws with
  | [.int i] => .val (.int i) h
  | [.bl b] => .val (.int (if b then 1 else 0)) h
  | _ => .bad
theorem rc_int : RC T (fun xs H Q => (∃ i, xs = [.int i] ∧ Q (.int i) H) ∨ ∃ k, xs = [.bl k] ∧ Q (.int (if k then 1 else 0)) H) mInt := by
  intro ps h H ws vs Q E vw wv gd
  unfold mInt at gd
  split at gd
  · obtain ⟨v, rfl, e⟩ := one_of wv
    cases e
    exact .inl ⟨_, rfl, Good.now gd vw rfl⟩
  · obtain ⟨v, rfl, e⟩ := one_of wv
    cases e
    exact .inr ⟨_, rfl, Good.now gd vw rfl⟩
  · exact gd.elim
def mLen : MFn := fun ws h => match ws with
  | [.str z] => if z.length ≤ 100000 then .val (.int z.length) h else .bad
  | [.ref p] => match h[p]? with
    | some (.lst xs) => .val (.int xs.length) h
    | some (.rol xs) => .val (.int xs.length) h
    | _ => .bad
  | [.tup xs] => .val (.int xs.length) h
  | _ => .bad
theorem rc_len : RC T (fun xs H Q => ∃ x n, xs = [x] ∧ LenV X.K x H n ∧ Q (.int n) H) mLen := by
  intro ps h H ws vs Q E vw wv gd
  unfold mLen at gd
  split at gd
  · split at gd
    · rename_i hl
      obtain ⟨v, rfl, e⟩ := one_of wv
      cases e
      exact ⟨_, _, rfl, ⟨sz_ok hl, rfl⟩, Good.now gd vw rfl⟩
    · exact gd.elim
  · obtain ⟨v, rfl, a, ea, rfl⟩ := one_of wv
    split at gd
    · rename_i xs e1
      obtain ⟨vs, r, eH⟩ := vw.ob _ a _ ea e1
      have l1 : xs.length = vs.length := r.length
      rw [l1] at gd
      exact ⟨_, vs.length, rfl, .inl ⟨vs, SqL.of eH, rfl⟩, Good.now gd vw rfl⟩
    · rename_i xs e1
      obtain ⟨vs, ob, r, eH⟩ := vw.ob _ a _ ea e1
      have l1 : xs.length = vs.length := r.length
      rw [l1] at gd
      exact ⟨_, vs.length, rfl, .inl ⟨vs, .inl (.inr ⟨ob, eH⟩), rfl⟩, Good.now gd vw rfl⟩
    · exact gd.elim
  · obtain ⟨v, rfl, wv1⟩ := one_of wv
    obtain ⟨a, vs, rfl, ht, r⟩ := wv1.tup_of
    rename_i xs
    have l1 : xs.length = vs.length := r.length
    rw [l1] at gd
    exact ⟨_, vs.length, rfl, .inr ⟨vs, SqT.of (vw.tup a vs ht), rfl⟩, Good.now gd vw rfl⟩
  · exact gd.elim
/-- the built-in type of a value -/
def tyN (h : Hv) : W → Option String
  | .non => some "NoneType"
  | .bl _ => some "bool"
  | .int _ => some "int"
  | .str _ => some "str"
  | .ref p => match h[p]? with
    | some (O.lst _) => some "list"
    | some (.rol _) => some "list"
    | some (.dic _) => some "dict"
    | _ => none
  | .tup _ => some "tuple"
  | _ => none
theorem tyN_ok {K : PySem.W.Frag} {ps : Pl} {h : Hv} {H : Hp} (vw : View T ps h H) : ∀ {w : W} {v : V} {t : String}, tyN h w = some t → WV ps w v → TyX K H v (.type t)
  | .non, _, _, e, wv => by cases e; cases wv; exact .base .non
  | .bl _, _, _, e, wv => by cases e; cases wv; exact .base (.bl _)
  | .int _, _, _, e, wv => by cases e; cases wv; exact .base (.int _)
  | .str _, _, _, e, wv => by cases e; cases wv; exact .base (.str _)
  | .fix _, _, _, e, wv => by cases e
  | .ty _, _, _, e, wv => by cases e
  | .tup _, _, _, e, wv => by
    obtain ⟨a, vs, rfl, ht, r⟩ := wv.tup_of
    cases e; exact .base (.tup (vw.tup a vs ht))
  | .ref p, _, _, e, wv => by
    obtain ⟨a, ea, rfl⟩ := wv
    simp only [tyN] at e
    split at e
    · rename_i e1
      obtain ⟨vs, r, eH⟩ := vw.ob _ a _ ea e1
      cases e; exact .base (.lst eH)
    · rename_i e1
      obtain ⟨vs, ob, r, eH⟩ := vw.ob _ a _ ea e1
      cases e; exact .base (.frz eH)
    · rename_i e1
      obtain ⟨vs, r, eH⟩ := vw.ob _ a _ ea e1
      cases e; exact .base (.dK eH)
    · cases e
def mIsi : MFn := fun ws h => match ws with
  | [w, .ty n] => match tyN h w with
    | some t => match kitB t n with
      | some b => .val (.bl b) h
      | none => .bad
    | none => .bad
  | _ => .bad
theorem rc_isi : RC T (rIsi X.K) mIsi := by
  intro ps h H ws vs Q E vw wv gd
  unfold mIsi at gd
  split at gd
  · obtain ⟨v, v', rfl, e, e'⟩ := pair_of wv
    cases e'
    split at gd
    · rename_i t et
      split at gd
      · rename_i b eb
        exact ⟨v, _, _, _, b, rfl, .ty _, tyN_ok vw et e, kit_ty eb, Good.now gd vw rfl⟩
      · exact gd.elim
    · exact gd.elim
  · exact gd.elim
/-! ### repr -/
def rRepr (K : PySem.W.Frag) : List V → Hp → VK → Prop := fun xs H Q => ∃ x d, xs = [x] ∧ Dp K H x d ∧ d.showable = true ∧ d.hasDict = false ∧ d.depth ≤ 60 ∧ d.shown.length ≤ sizeLine ∧ Q (.str d.shown) H
def mRepr : MFn := fun ws h => match ws with
  | [w] => match toD dF h w with
    | some d => if d.showable && !d.hasDict && decide (d.depth ≤ 60) && decide (d.shown.length ≤ 100000) then .val (.str d.shown) h else .bad
    | none => .bad
  | _ => .bad
theorem rc_repr : RC T (rRepr X.K) mRepr := by
  intro ps h H ws vs Q E vw wv gd
  unfold mRepr at gd
  split at gd
  · obtain ⟨v, rfl, e⟩ := one_of wv
    split at gd
    · rename_i d ed
      split at gd
      · rename_i hc
        simp only [Bool.and_eq_true, decide_eq_true_eq, Bool.not_eq_true'] at hc
        exact ⟨v, d, rfl, toD_ok vw _ _ _ _ ed e, hc.1.1.1, hc.1.1.2, hc.1.2, sz_ok hc.2, Good.now gd vw rfl⟩
      · exact gd.elim
    · exact gd.elim
  · exact gd.elim
theorem call_reprD (hg : X.A.guards = some []) (hu : X.A.units + 64 < cLine) : CallR X (.builtin "repr") (rRepr X.K) := by
  intro pins s σ H xs us Q I r h; obtain ⟨x, d, rfl, hd, hs, hn, hdp, hl, q⟩ := h
  obtain ⟨u, rfl, ru⟩ := vals1 r; cases hd with
  | non => cases ru; exact PySem.P.repr_of_none ⟨.str _, H, I.tok _, ⟨_, rfl⟩, q⟩
  | bl b =>
    cases ru
    refine PySem.P.repr_of_bool ⟨.str _, H, I.tok _, ⟨_, rfl⟩, ?_⟩
    exact q
  | int i =>
    obtain ⟨t, rfl⟩ := ru
    exact PySem.P.repr_of_int (by simpa [PyData.showable] using hs) ⟨.str _, H, I.tok _, ⟨_, rfl⟩, q⟩
  | str z => obtain ⟨t, rfl⟩ := ru; exact PySem.P.repr_of_str ⟨.str _, H, I.tok _, ⟨_, rfl⟩, q⟩
  | lst h1 h2 =>
    cases ru
    obtain ⟨as, rd⟩ := Dp.reads I _ _ _ (.lst h1 h2) rfl
    exact repr_of_reads' rd hs (PyData.noDict_hsm hn) hg (by omega) (fun _ _ e => e) (fun h' u tk hk => ⟨.str _, H, I.kept hk, ⟨_, rfl⟩, q⟩) hl
  | tup h1 h2 =>
    cases ru
    obtain ⟨as, rd⟩ := Dp.reads I _ _ _ (.tup h1 h2) rfl
    exact repr_of_reads' rd hs (PyData.noDict_hsm hn) hg (by omega) (fun _ _ e => e) (fun h' u tk hk => ⟨.str _, H, I.kept hk, ⟨_, rfl⟩, q⟩) hl
end
end VL
end
section
namespace VL
open PySem L2

/-! ### statements -/
abbrev MS := Ws → Hv → ResS
namespace Res
/-- a value, then a statement's end; r: the names as they stand -/
def andS {α : Type} (x : Res α) (r : Ws) (k : α → Hv → ResS) : ResS := match x with
  | .val a h => k a h
  | .exc c d h => .exc c d r h
  | .bad => .bad
end Res
section
variable {T : Tx} {X : Cx} {α β : Type} {R : Pl → α → β → Prop} {ps : Pl} {H : Hp} {x : Res α} {r : Ws} {k : α → Hv → ResS} {D : Ends} {E : WX} {s : St}
theorem good_andS (es : ES ps r s) (g : GoodS T ps H (x.andS r k) D E) : Good T R ps H x (fun v H1 => ∃ qs w h1, Step ps H qs H1 ∧ View T qs h1 H1 ∧ R qs w v ∧ ES qs r s ∧ GoodS T qs H1 (k w h1) D E) (fun c d H' => E c d s H') := by
  cases x with
  | val w h => exact fun qs H' v st vw rv => ⟨qs, w, h, st, vw, rv, es.mono st.pre, g.step st⟩
  | exc c d h => exact fun qs H' e st vw dv => g qs H' s e st vw (es.mono st.pre) dv
  | bad => exact g
end
def mExpr (f : Ws → Hv → Res W) : MS := fun r h => (f r h).andS r fun _ h1 => .nx r h1
def mRet (f : Ws → Hv → Res W) : MS := fun r h => (f r h).andS r fun w h1 => .rt w h1
def mSet (i : Nat) (f : Ws → Hv → Res W) : MS := fun r h => (f r h).andS r fun w h1 => .nx (r.set i (some w)) h1
def mIfS (t : Ws → Hv → Res Bool) (f g : MS) : MS := fun r h => (t r h).andS r fun b h1 => if b then f r h1 else g r h1
def mNext : MS := fun r h => .nx r h
def mSeq (f g : MS) : MS := fun r h => match f r h with
  | .nx r1 h1 => g r1 h1
  | x => x
section
variable {T : Tx} {X : Cx} {e : Expr} {f : Ws → Hv → Res W} {pos : Pos} {st : Stmt} {rest : List Stmt} {a b : MS} {t : Ws → Hv → Res Bool}
theorem ss_expr (h : SE T X e f) (hs : swapsWith e none pos.line X.env = pure false := by rfl) : SS T X (.Expr e pos) (mExpr f) := fun E cn => PSi (ps_expr (h E cn) hs) fun D s H ⟨ps, r, hv, es, vw, gd⟩ => by
  refine ⟨ps, r, hv, es, vw, (good_andS (R := WV) es gd).imp (fun v H1 q => ?_) fun _ _ _ z => z⟩
  obtain ⟨qs, w, h1, st, vw1, wv, es1, g1⟩ := q
  exact g1 qs H1 s (Step.refl _ _) vw1 es1
theorem ss_ret (h : SE T X e f) : SS T X (.Return (some e) pos) (mRet f) := fun E cn => PSi (ps_ret (h E cn)) fun D s H ⟨ps, r, hv, es, vw, gd⟩ => by
  refine ⟨ps, r, hv, es, vw, (good_andS (R := WV) es gd).imp (fun v H1 q => ?_) fun _ _ _ z => z⟩
  obtain ⟨qs, w, h1, st, vw1, wv, es1, g1⟩ := q
  exact g1 qs H1 v (Step.refl _ _) vw1 wv
theorem ss_retN : SS T X (.Return none pos) (fun _ h => .rt .non h) := fun E cn => PSi ps_retN fun D s H ⟨ps, r, hv, es, vw, gd⟩ => gd ps H .non (Step.refl _ _) vw rfl
theorem ss_pass : SS T X (.Pass pos) mNext := fun E cn => PSi ps_pass fun D s H ⟨ps, r, hv, es, vw, gd⟩ => gd ps H s (Step.refl _ _) vw es
theorem ss_break : SS T X (.Break pos) (fun r h => .bk r h) := fun E cn => PSi ps_break fun D s H ⟨ps, r, hv, es, vw, gd⟩ => gd ps H s (Step.refl _ _) vw es
theorem ss_cont : SS T X (.Continue pos) (fun r h => .ct r h) := fun E cn => PSi ps_continue fun D s H ⟨ps, r, hv, es, vw, gd⟩ => gd ps H s (Step.refl _ _) vw es
theorem ss_set (i : Nat) {x : Str} {pos' : Pos} (hN : X.N.Nodup) (h : SE T X e f) (hi : X.N[i]? = some x := by rfl) (hx : Loc X.env.scope x := by first | exact Or.inl rfl | exact Or.inr rfl) (hs : swapsWith e (some (.Name x pos')) pos.line X.env = pure false := by rfl)
    (hf : X.fn x = true ∨ X.env.scope.names.lookup x = some .local := by first | exact .inl rfl | exact .inr rfl) : SS T X (.Assign [.Name x pos'] e pos) (mSet i f) := fun E cn => PSi (ps_set hN hi hx (h E cn) hs hf) fun D s H ⟨ps, r, hv, es, vw, gd⟩ => by
  refine ⟨ps, r, hv, es, vw, (good_andS (R := WV) es gd).imp (fun v H1 q => ?_) fun _ _ _ z => z⟩
  obtain ⟨qs, w, h1, st, vw1, wv, es1, g1⟩ := q
  exact g1 qs H1 _ (Step.refl _ _) vw1 (es1.set i wv)
theorem sss_nil : SSs T X [] mNext := fun E cn => PSsi pss_nil fun D s H ⟨ps, r, hv, es, vw, gd⟩ => gd ps H s (Step.refl _ _) vw es
theorem seq_read {E : WX} {D : Ends} {s : St} {H : Hp} (h : tS T E (mSeq a b) D s H) : tSeq (tS T E a) (tS T E b) D s H := by
  obtain ⟨ps, r, hv, es, vw, gd⟩ := h
  refine ⟨ps, r, hv, es, vw, ?_⟩
  unfold mSeq at gd
  cases q : a r hv with
  | nx r1 h1 =>
    rw [q] at gd
    exact fun qs H' s' st vw' es' => ⟨qs, r1, h1, es', vw', GoodS.step gd st⟩
  | rt w h1 => rw [q] at gd; exact gd
  | bk w h1 => rw [q] at gd; exact gd
  | ct w h1 => rw [q] at gd; exact gd
  | exc c d w h1 => rw [q] at gd; exact gd
  | bad => rw [q] at gd; exact gd
theorem sss_cons (h1 : SS T X st a) (h2 : SSs T X rest b) : SSs T X (st :: rest) (mSeq a b) := fun E cn => PSsi (pss_cons (h1 E cn) (h2 E cn)) fun D s H h => seq_read h
theorem sss_one (h1 : SS T X st a) : SSs T X [st] a := fun E cn => pss_one (h1 E cn)
theorem ss_if {c : Expr} {sa sb : List Stmt} (hc : STt T X c t) (ha : SSs T X sa a) (hb : SSs T X sb b) : SS T X (.If c sa sb pos) (mIfS t a b) := fun E cn => PSi (ps_if (hc E cn) (ha E cn) (hb E cn)) fun D s H ⟨ps, r, hv, es, vw, gd⟩ => by
  refine ⟨ps, r, hv, es, vw, (good_andS (R := BEq2) es gd).imp (fun v H1 q => ?_) fun _ _ _ z => z⟩
  obtain ⟨qs, w, h1, st, vw1, wv, es1, g1⟩ := q
  cases wv
  cases v with
  | true => exact iteT ⟨qs, r, h1, es1, vw1, g1⟩
  | false => exact iteF ⟨qs, r, h1, es1, vw1, g1⟩
/-- a, b = x, y -/
def mPar (i j : Nat) (g : Ws → Hv → Res (List W)) : MS := fun r h => (g r h).andS r fun ws h1 => match ws with
  | [v, w] => .nx ((r.set i (some v)).set j (some w)) h1
  | _ => .bad
theorem ss_par (i j : Nat) {x y : Str} {ea eb : Expr} {g : Ws → Hv → Res (List W)} {px py pt : Pos} {kt k2 pt2} (hN : X.N.Nodup) (ha : SA T X [ea, eb] g) (hc : X.calm = true := by rfl) (hi : X.N[i]? = some x := by rfl) (hj : X.N[j]? = some y := by rfl) (hij : i ≠ j := by decide)
    (hx : X.env.scope.names.lookup x = some .local := by rfl) (hy : X.env.scope.names.lookup y = some .local := by rfl)
    (hw : swappedStores [.Tuple [.Name x px, .Name y py] kt pt] (.Tuple [ea, eb] k2 pt2) X.env = pure (some [x, y]) := by rfl)
    (hs : swapsWithSole [.Tuple [.Name x px, .Name y py] kt pt] (.Tuple [ea, eb] k2 pt2) pos.line X.env = pure false := by rfl) :
    SS T X (.Assign [.Tuple [.Name x px, .Name y py] kt pt] (.Tuple [ea, eb] k2 pt2) pos) (mPar i j g) := fun E cn => PSi (ps_par hc hN hi hj hij hx hy (ha E cn) hw hs) fun D s H ⟨ps, r, hv, es, vw, gd⟩ => by
  refine ⟨ps, r, hv, es, vw, (good_andS (R := WVs) es gd).imp (fun v H1 q => ?_) fun _ _ _ z => z⟩
  obtain ⟨qs, w, h1, st, vw1, wv, es1, g1⟩ := q
  try dsimp only at g1
  split at g1
  · obtain ⟨v1, v2, rfl, w1, w2⟩ := pair_of wv
    exact ⟨v1, v2, rfl, g1 qs H1 _ (Step.refl _ _) vw1 ((es1.set i w1).set j w2)⟩
  · exact g1.elim

/-! ### while -/
def whileM (t : Ws → Hv → Res Bool) (b : MS) : Nat → MS
  | 0, _, _ => .bad
  | n + 1, r, h => (t r h).andS r fun c h1 => if c then (match b r h1 with
      | .nx r1 h2 => whileM t b n r1 h2
      | .ct r1 h2 => whileM t b n r1 h2
      | .bk r1 h2 => .nx r1 h2
      | x => x) else .nx r h1
def mWhile (fuel : Ws → Hv → Nat) (t : Ws → Hv → Res Bool) (b : MS) : MS := fun r h => whileM t b (fuel r h) r h
theorem ss_while (fuel : Ws → Hv → Nat) {c : Expr} {body : List Stmt} (hc : STt T X c t) (hb : SSs T X body b) : SS T X (.While c body [] pos) (mWhile fuel t b) := fun E cn => PSi (ps_while cn.po (hc E cn) (hb E cn)) fun D s H ⟨ps, r, hv, es, vw, gd⟩ => by
  refine ⟨fun m s H => ∃ ps r h, ES ps r s ∧ View T ps h H ∧ GoodS T ps H (whileM t b m r h) D E, ⟨fuel r hv, ps, r, hv, es, vw, gd⟩, ?_⟩
  rintro m s H ⟨ps, r, h, es, vw, gd⟩
  cases m with
  | zero => exact gd.elim
  | succ m =>
    refine ⟨ps, r, h, es, vw, (good_andS (R := BEq2) es (by unfold whileM at gd; exact gd)).imp (fun v H1 q => ?_) fun _ _ _ z => z⟩
    obtain ⟨qs, w, h1, st, vw1, wv, es1, g1⟩ := q
    cases wv
    cases v with
    | false => exact iteF (g1 qs H1 s (Step.refl _ _) vw1 es1)
    | true =>
      refine iteT ⟨fun s' H' => ∃ ps r h, ES ps r s' ∧ View T ps h H' ∧ GoodS T ps H' (whileM t b m r h) D E, fun s' H' q => ⟨m, Nat.lt_succ_self m, q⟩, qs, r, h1, es1, vw1, ?_⟩
      try dsimp only at g1
      rw [if_pos rfl] at g1
      cases q : b r h1 with
      | nx r1 h2 =>
        rw [q] at g1
        exact fun rs H' s' st' vw' es' => ⟨rs, r1, h2, es', vw', GoodS.step g1 st'⟩
      | ct r1 h2 =>
        rw [q] at g1
        exact fun rs H' s' st' vw' es' => ⟨rs, r1, h2, es', vw', GoodS.step g1 st'⟩
      | bk r1 h2 => rw [q] at g1; exact g1
      | rt w h2 => rw [q] at g1; exact g1
      | exc c d w h2 => rw [q] at g1; exact g1
      | bad => rw [q] at g1; exact g1
end

/-! ### targets -/
abbrev MG := W → Ws → Hv → ResS
def tG (T : Tx) (E : WX) (g : MG) : TG := fun v s H Q => ∃ ps r h w, ES ps r s ∧ View T ps h H ∧ WV ps w v ∧ GoodS T ps H (g w r h) { nx := Q, rt := fun _ _ => False } E
def tGs (T : Tx) (E : WX) (g : List W → MS) : TGs := fun vs s H Q => ∃ ps r h ws, ES ps r s ∧ View T ps h H ∧ Paired (WV ps) ws vs ∧ GoodS T ps H (g ws r h) { nx := Q, rt := fun _ _ => False } E
def SG (T : Tx) (X : Cx) (e : Expr) (g : MG) : Prop := ∀ E, Cn X E → PG X e (tG T E g)
def SGs (T : Tx) (X : Cx) (es : List Expr) (g : List W → MS) : Prop := ∀ E, Cn X E → PGs X es (tGs T E g)
def mGn (i : Nat) : MG := fun w r h => .nx (r.set i (some w)) h
def mGnil : List W → MS := fun ws r h => match ws with
  | [] => .nx r h
  | _ => .bad
def mGcons (g : MG) (k : List W → MS) : List W → MS := fun ws r h => match ws with
  | w :: ws => mSeq (g w) (k ws) r h
  | [] => .bad
def mGtup (n : Nat) (k : List W → MS) : MG := fun w r h => match w with
  | .tup ws => if ws.length = n then k ws r h else .bad
  | _ => .bad
section
variable {T : Tx} {X : Cx} {e : Expr} {es : List Expr} {g : MG} {k : List W → MS} {pos : Pos}
theorem PGi {t t' : TG} (h : PG X e t) (k : ∀ v s H Q, t' v s H Q → t v s H Q) : PG X e t' := ⟨fun pins s σ H v u Q I r hw => h.run pins s σ H v u Q I r (k _ _ _ _ hw)⟩
theorem PGsi {t t' : TGs} (h : PGs X es t) (k : ∀ v s H Q, t' v s H Q → t v s H Q) : PGs X es t' := ⟨fun pins s σ H v u Q I r hw => h.run pins s σ H v u Q I r (k _ _ _ _ hw)⟩
theorem sg_name (i : Nat) {x : Str} (hN : X.N.Nodup) (hi : X.N[i]? = some x := by rfl) (hx : Loc X.env.scope x := by first | exact Or.inl rfl | exact Or.inr rfl) (hf : X.fn x = true ∨ X.env.scope.names.lookup x = some .local := by first | exact .inl rfl | exact .inr rfl) :
    SG T X (.Name x pos) (mGn i) := fun E cn => PGi (pg_name hN hi hx hf) fun v s H Q ⟨ps, r, h, w, es, vw, wv, gd⟩ => gd ps H _ (Step.refl _ _) vw (es.set i wv)
theorem sgs_nil : SGs T X [] mGnil := fun E cn => PGsi pgs_nil fun v s H Q ⟨ps, r, h, ws, es, vw, wv, gd⟩ => by
  unfold mGnil at gd
  split at gd
  · cases wv
    exact ⟨rfl, gd ps H _ (Step.refl _ _) vw es⟩
  · exact gd.elim
theorem sgs_cons (h1 : SG T X e g) (h2 : SGs T X es k) (hs : (assignEach (e :: es) X.env).map (·.2) = assign e X.env :: (assignEach es X.env).map (·.2) := by rfl) : SGs T X (e :: es) (mGcons g k) := fun E cn => PGsi (pgs_cons (h1 E cn) (h2 E cn) hs) fun v s H Q ⟨ps, r, h, ws, es, vw, wv, gd⟩ => by
  cases wv with
  | nil => exact gd.elim
  | cons wv1 wv2 =>
    refine ⟨_, _, rfl, ps, r, h, _, es, vw, wv1, ?_⟩
    unfold mGcons at gd
    dsimp only at gd
    unfold mSeq at gd
    split at gd
    · rename_i r1 h1 q
      rw [q]
      exact fun qs H' s' st vw' es' => ⟨qs, r1, h1, _, es', vw', WVs.mono st.pre wv2, GoodS.step gd st⟩
    · rename_i x q
      cases z : g _ r h with
      | nx r1 h1 => exact absurd z (q r1 h1)
      | rt w h1 => rw [z] at gd; exact gd
      | bk w h1 => rw [z] at gd; exact gd
      | ct w h1 => rw [z] at gd; exact gd
      | exc c d w h1 => rw [z] at gd; exact gd
      | bad => rw [z] at gd; exact gd
theorem sg_tup {kk n : Nat} (h : SGs T X es k) (hc : X.calm = true := by rfl) (hn : (assignEach es X.env).length = n := by rfl) (hst : (assignEach es X.env).findIdx? (·.1) = none := by rfl) : SG T X (.Tuple es kk pos) (mGtup n k) := fun E cn =>
  PGi (pg_tup hc (h E cn) hn hst) fun v s H Q ⟨ps, r, h, w, es, vw, wv, gd⟩ => by
    unfold mGtup at gd
    split at gd
    · rename_i ws
      split at gd
      · rename_i hl
        obtain ⟨a, vs, rfl, ht, rr⟩ := wv.tup_of
        have l1 : ws.length = vs.length := rr.length
        exact ⟨a, vs, rfl, SqT.of (vw.tup a vs ht), by rw [← l1]; exact hl, ps, r, h, ws, es, vw, rr, gd⟩
      · exact gd.elim
    · exact gd.elim
/-- target = e -/
def mAsg (f : Ws → Hv → Res W) (g : MG) : MS := fun r h => (f r h).andS r fun w h1 => (match g w r h1 with
  | .nx r1 h2 => .nx r1 h2
  | .exc c d r1 h2 => .exc c d r1 h2
  | _ => .bad)
theorem ss_asg {tg : Expr} {f : Ws → Hv → Res W} (he : SE T X e f) (hg : SG T X tg g) (hs : swapsWithSole [tg] e pos.line X.env = pure false := by rfl) (hw : swappedStores [tg] e X.env = pure none := by rfl)
    (h1 : (assignEach [tg] X.env).map (·.2) = [assign tg X.env] := by rfl) : SS T X (.Assign [tg] e pos) (mAsg f g) := fun E cn => PSi (ps_asg (he E cn) (hg E cn) hs hw h1) fun D s H ⟨ps, r, hv, es, vw, gd⟩ => by
  refine ⟨ps, r, hv, es, vw, (good_andS (R := WV) es gd).imp (fun v H1 q => ?_) fun _ _ _ z => z⟩
  obtain ⟨qs, w, h1, st, vw1, wv, es1, g1⟩ := q
  refine ⟨qs, r, h1, w, es1, vw1, wv, ?_⟩
  cases z : g w r h1 with
  | nx r1 h2 => rw [z] at g1; exact g1
  | rt w h2 => rw [z] at g1; exact g1.elim
  | bk w h2 => rw [z] at g1; exact g1.elim
  | ct w h2 => rw [z] at g1; exact g1.elim
  | exc c d w h2 => rw [z] at g1; exact g1
  | bad => rw [z] at g1; exact g1.elim
/-- xs[i] = e -/
def mSub1 (fo fi : Ws → Hv → Res W) : MG := fun w r h => (fo r h).andS r fun o h1 => (fi r h1).andS r fun i h2 => match o, i with
  | .ref p, .int k => match h2[p]? with
    | some (.lst xs) => match ixN xs.length k with
      | some j => .nx r (h2.set p (.lst (xs.set j w)))
      | none => .bad
    | _ => .bad
  | _, _ => .bad
theorem sg_sub {o i : Expr} {fo fi : Ws → Hv → Res W} (ho : SE T X o fo) (hi : SE T X i fi)
    (ha : ∀ y, assign (.Subscript o i pos) X.env y = (do
      let yo ← holding [y] (eval o X.env)
      let yi ← holding [y, yo] (eval i X.env)
      standAt pos
      holding [y, yo, yi] (setItem yo yi y)
      release [y, yo, yi] []) := by intro _; rfl) : SG T X (.Subscript o i pos) (mSub1 fo fi) := fun E cn => PGi (pg_sub (ho E cn) (hi E cn) set_list ha) fun v s H Q ⟨ps, r, h, w, es, vw, wv, gd⟩ => by
  refine ⟨ps, r, h, es, vw, (good_andS (R := WV) es gd).imp (fun vo H1 q => ?_) fun _ _ _ z => z⟩
  obtain ⟨qs, wo, h1, st, vw1, wvo, es1, g1⟩ := q
  refine ⟨qs, r, h1, es1, vw1, (good_andS (R := WV) es1 g1).imp (fun vi H2 q2 => ?_) fun _ _ _ z => z⟩
  obtain ⟨rs, wi, h2, st2, vw2, wvi, es2, g2⟩ := q2
  try dsimp only at g2
  have wvo2 := wvo.mono st2.pre
  split at g2
  · rename_i p k
    obtain ⟨a, ea, rfl⟩ := wvo2
    cases wvi
    split at g2
    · rename_i xs e1
      split at g2
      · rename_i j ej
        obtain ⟨vs, rr, eH⟩ := vw2.ob _ a _ ea e1
        have l1 : xs.length = vs.length := rr.length
        have pz : Paired (WV rs) (xs.set j w) (vs.set j v) := paired_set rr ((wv.mono st.pre).mono st2.pre) j
        obtain ⟨vw3, st3⟩ := vw2.put ea (o := .lst (xs.set j w)) (u := .lst (vs.set j v)) ⟨_, pz, upd_same⟩ (notX eH)
        exact ⟨a, vs, k, j, rfl, rfl, eH, by rw [← l1]; exact ej, g2 _ _ s st3 vw3 es2⟩
      · exact g2.elim
    · exact g2.elim
  · exact g2.elim
end
end VL
end
section
namespace VL
open PySem L2

/-! ### what is walked -/
inductive Nxt where
  | stop | item (w : W) (h : Hv) | bad
structure Src where
  n : Nat
  nx : Nat → Hv → Nxt
def NxOk (T : Tx) (qs : Pl) (H : Hp) (J : It) (i : Nat) : Nxt → Prop
  | .stop => J.stop i H
  | .item w h => J.go i H ∧ ∀ x H', J.yld i H x H' → ∃ rs, Step qs H rs H' ∧ View T rs h H' ∧ WV rs w x
  | .bad => True
/-- the source S is the iterator J, wherever the places ps stand -/
def SimI (T : Tx) (ps : Pl) (S : Src) (J : It) : Prop := ∀ qs h H i, Pl.Le ps qs → View T qs h H → NxOk T qs H J i (S.nx i h)
theorem SimI.mono {T : Tx} {ps qs : Pl} {S : Src} {J : It} (s : SimI T ps S J) (h : Pl.Le ps qs) : SimI T qs S J := fun rs hv H i p => s rs hv H i (h.trans p)
def tI (T : Tx) (E : WX) (f : Ws → Hv → Res Src) : TI := fun s H R => ∃ ps r h, ES ps r s ∧ View T ps h H ∧ Good T (SimI T) ps H (f r h) R (fun c d H' => E c d s H')
def SI (T : Tx) (X : Cx) (tg iter : Expr) (f : Ws → Hv → Res Src) : Prop := ∀ E, Cn X E → PI X tg iter (tI T E f)

def forM (nx : Nat → Hv → Nxt) (g : MG) (b : MS) : Nat → Nat → MS
  | 0, _, _, _ => .bad
  | n + 1, i, r, h => match nx i h with
    | .stop => .nx r h
    | .item w h1 => (match g w r h1 with
      | .nx r1 h2 => (match b r1 h2 with
        | .nx r2 h3 => forM nx g b n (i + 1) r2 h3
        | .ct r2 h3 => forM nx g b n (i + 1) r2 h3
        | .bk r2 h3 => .nx r2 h3
        | x => x)
      | .exc c d r1 h2 => .exc c d r1 h2
      | _ => .bad)
    | .bad => .bad
def mFor (f : Ws → Hv → Res Src) (g : MG) (b : MS) : MS := fun r h => (f r h).andS r fun S h1 => forM S.nx g b S.n 0 r h1
section
variable {T : Tx} {X : Cx} {tg iter : Expr} {f : Ws → Hv → Res Src} {g : MG} {b : MS} {pos : Pos}
theorem for_run {D : Ends} {E : WX} {S : Src} {J : It} {p0 : Pl} (sim : SimI T p0 S J) {ps : Pl} {r : Ws} {h : Hv} {s : St} {H : Hp} (hp : Pl.Le p0 ps) (es : ES ps r s) (vw : View T ps h H) (gd : GoodS T ps H (forM S.nx g b S.n 0 r h) D E) :
    ∃ Z : Nat → Nat → St → Hp → Prop, (∃ m, Z 0 m s H) ∧ ∀ i m s H, Z i m s H → (J.stop i H ∧ D.nx s H) ∨ (J.go i H ∧ ∃ N : St → Hp → Prop, (∀ s' H', N s' H' → ∃ m', m' < m ∧ Z (i + 1) m' s' H') ∧
      ∀ x H', J.yld i H x H' → tG T E g x s H' fun s2 H2 => tS T E b { D with nx := N, ct := N, bk := D.nx } s2 H2) := by
  refine ⟨fun i m s H => ∃ ps r h, Pl.Le p0 ps ∧ ES ps r s ∧ View T ps h H ∧ GoodS T ps H (forM S.nx g b m i r h) D E, ⟨S.n, ps, r, h, hp, es, vw, gd⟩, ?_⟩
  rintro i m s H ⟨ps, r, h, hp, es, vw, gd⟩
  cases m with
  | zero => exact gd.elim
  | succ m =>
    have ok := sim ps h H i hp vw
    unfold forM at gd
    cases q : S.nx i h with
    | stop =>
      rw [q] at gd ok
      exact .inl ⟨ok, gd ps H s (Step.refl _ _) vw es⟩
    | bad => rw [q] at gd; exact gd.elim
    | item w h1 =>
      rw [q] at gd ok
      refine .inr ⟨ok.1, fun s' H' => ∃ ps r h, Pl.Le p0 ps ∧ ES ps r s' ∧ View T ps h H' ∧ GoodS T ps H' (forM S.nx g b m (i + 1) r h) D E, fun s' H' z => ⟨m, Nat.lt_succ_self m, z⟩, fun x H' y => ?_⟩
      obtain ⟨qs, st, vw1, wv⟩ := ok.2 x H' y
      refine ⟨qs, r, h1, w, es.mono st.pre, vw1, wv, ?_⟩
      have gd := gd.step st
      dsimp only at gd
      cases z : g w r h1 with
      | rt _ _ => rw [z] at gd; exact gd.elim
      | bk _ _ => rw [z] at gd; exact gd.elim
      | ct _ _ => rw [z] at gd; exact gd.elim
      | bad => rw [z] at gd; exact gd.elim
      | exc c d r1 h2 => rw [z] at gd; exact gd
      | nx r1 h2 =>
        rw [z] at gd
        intro rs H2 s2 st2 vw2 es2
        refine ⟨rs, r1, h2, es2, vw2, ?_⟩
        have gd := gd.step st2
        dsimp only at gd
        have pp : Pl.Le p0 rs := (hp.trans st.pre).trans st2.pre
        cases y2 : b r1 h2 with
        | nx r2 h3 =>
          rw [y2] at gd
          exact fun ts H3 s3 st3 vw3 es3 => ⟨ts, r2, h3, pp.trans st3.pre, es3, vw3, GoodS.step gd st3⟩
        | ct r2 h3 =>
          rw [y2] at gd
          exact fun ts H3 s3 st3 vw3 es3 => ⟨ts, r2, h3, pp.trans st3.pre, es3, vw3, GoodS.step gd st3⟩
        | bk r2 h3 => rw [y2] at gd; exact gd
        | rt r2 h3 => rw [y2] at gd; exact gd
        | exc c d r2 h3 => rw [y2] at gd; exact gd
        | bad => rw [y2] at gd; exact gd
theorem ss_for {body : List Stmt} (hi : SI T X tg iter f) (hg : SG T X tg g) (hb : SSs T X body b) (hc : X.calm = true := by rfl) (hs : ∀ x, foldedSetIterable iter X.env x = pure x := by intro _; rfl) : SS T X (.For tg iter body [] pos) (mFor f g b) := fun E cn =>
  PSi (ps_for cn.po hc (hi E cn) (hg E cn) (hb E cn) hs) fun D s H ⟨ps, r, hv, es, vw, gd⟩ => by
    refine ⟨ps, r, hv, es, vw, (good_andS (R := SimI T) es gd).imp (fun J H1 q => ?_) fun _ _ _ z => z⟩
    obtain ⟨qs, S, h1, st, vw1, sim, es1, g1⟩ := q
    exact for_run sim (Pl.Le.refl _) es1 vw1 g1

/-! ### lists and tuples -/
def nxSeq (p : Nat) : Nat → Hv → Nxt := fun i h => match h[p]? with
  | some (.lst xs) => (match xs[i]? with | some w => .item w h | none => .stop)
  | some (.rol xs) => (match xs[i]? with | some w => .item w h | none => .stop)
  | _ => .bad
def nxTup (xs : List W) : Nat → Hv → Nxt := fun i h => match xs[i]? with
  | some w => .item w h
  | none => .stop
def srcOf (w : W) (h : Hv) : Res Src := match w with
  | .ref p => (match h[p]? with
    | some (.lst xs) => .val ⟨xs.length + 1, nxSeq p⟩ h
    | some (.rol xs) => .val ⟨xs.length + 1, nxSeq p⟩ h
    | _ => .bad)
  | .tup xs => .val ⟨xs.length + 1, nxTup xs⟩ h
  | _ => .bad
def mSrc (f : Ws → Hv → Res W) : Ws → Hv → Res Src := fun r h => (f r h).bind srcOf
theorem paired_none {ps : Pl} {xs : List W} {vs : List V} (a : Paired (WV ps) xs vs) {i : Nat} (e : xs[i]? = none) : vs.length ≤ i := by
  rw [← a.length]
  exact List.getElem?_eq_none_iff.mp e
theorem sim_list {K : PySem.W.Frag} {ps : Pl} {p n : Nat} {a : Addr} (ea : ps[p]? = some a) : SimI T ps ⟨n, nxSeq p⟩ (Itl K a) := by
  intro qs h H i pre vw
  have eq := at_pre pre ea
  show NxOk T qs H (Itl K a) i (nxSeq p i h)
  unfold nxSeq
  split
  · rename_i xs e1
    obtain ⟨vs, rr, eH⟩ := vw.ob _ a _ eq e1
    split
    · rename_i w ew
      obtain ⟨v, ev, wv⟩ := paired_get rr ew
      refine ⟨⟨vs, v, SqL.of eH, ev⟩, fun x H' y => ?_⟩
      obtain ⟨rfl, y⟩ := y
      have z := y vs (SqL.of eH)
      rw [ev] at z
      cases z
      exact ⟨qs, Step.refl _ _, vw, wv⟩
    · rename_i ew
      exact ⟨vs, SqL.of eH, paired_none rr ew⟩
  · rename_i xs e1
    obtain ⟨vs, ob, rr, eH⟩ := vw.ob _ a _ eq e1
    split
    · rename_i w ew
      obtain ⟨v, ev, wv⟩ := paired_get rr ew
      refine ⟨⟨vs, v, .inl (.inr ⟨ob, eH⟩), ev⟩, fun x H' y => ?_⟩
      obtain ⟨rfl, y⟩ := y
      have z := y vs (.inl (.inr ⟨ob, eH⟩))
      rw [ev] at z
      cases z
      exact ⟨qs, Step.refl _ _, vw, wv⟩
    · rename_i ew
      exact ⟨vs, .inl (.inr ⟨ob, eH⟩), paired_none rr ew⟩
  · trivial
theorem sim_tup {K : PySem.W.Frag} {ps : Pl} {n : Nat} {a : Addr} {xs : List W} {vs : List V} (ht : ps.tu a vs) (wp : Paired (WV ps) xs vs) : SimI T ps ⟨n, nxTup xs⟩ (Itt K a) := by
  intro qs h H i pre vw
  have eH := vw.tup a vs (pre.2 _ _ ht)
  have rr := WVs.mono pre wp
  show NxOk T qs H (Itt K a) i (nxTup xs i h)
  unfold nxTup
  split
  · rename_i w ew
    obtain ⟨v, ev, wv⟩ := paired_get rr ew
    refine ⟨⟨vs, v, SqT.of eH, ev⟩, fun x H' y => ?_⟩
    obtain ⟨rfl, y⟩ := y
    have z := y vs (SqT.of eH)
    rw [ev] at z
    cases z
    exact ⟨qs, Step.refl _ _, vw, wv⟩
  · rename_i ew
    exact ⟨vs, SqT.of eH, paired_none rr ew⟩
/-- for x in e: a list or a tuple -/
theorem si_seq {e : Expr} {fe : Ws → Hv → Res W} (he : SE T X e fe) : SI T X tg e (mSrc fe) := fun E cn => ⟨fun pins s σ H R I h => by
  obtain ⟨ps, r, hv, es, vw, gd⟩ := h
  have key : (iList X.K (tE T E fe) σ H R) ∨ (iTup X.K (tE T E fe) σ H R) := by
    unfold mSrc at gd
    cases q : fe r hv with
    | bad => rw [q] at gd; exact gd.elim
    | exc c d h1 =>
      rw [q] at gd
      exact .inl ⟨ps, r, hv, es, vw, by rw [q]; exact gd⟩
    | val w h1 =>
      rw [q] at gd
      have g1 : Good T (SimI T) ps H (srcOf w h1) R _ := gd
      unfold srcOf at g1
      split at g1
      · rename_i p
        split at g1
        · rename_i xs e1
          refine .inl ⟨ps, r, hv, es, vw, ?_⟩
          rw [q]
          intro qs H' v st vw' wv
          obtain ⟨a, ea, rfl⟩ := wv
          obtain ⟨vs, rr, eH⟩ := vw'.ob _ a _ ea e1
          exact ⟨a, rfl, ⟨vs, SqL.of eH⟩, g1 qs H' _ st vw' (sim_list ea)⟩
        · rename_i xs e1
          refine .inl ⟨ps, r, hv, es, vw, ?_⟩
          rw [q]
          intro qs H' v st vw' wv
          obtain ⟨a, ea, rfl⟩ := wv
          obtain ⟨vs, ob, rr, eH⟩ := vw'.ob _ a _ ea e1
          exact ⟨a, rfl, ⟨vs, .inl (.inr ⟨ob, eH⟩)⟩, g1 qs H' _ st vw' (sim_list ea)⟩
        · exact g1.elim
      · rename_i xs
        refine .inr ⟨ps, r, hv, es, vw, ?_⟩
        rw [q]
        intro qs H' v st vw' wv
        obtain ⟨a, vs, rfl, ht, rr⟩ := wv.tup_of
        exact ⟨a, rfl, ⟨vs, SqT.of (vw'.tup a vs ht)⟩, g1 qs H' _ st vw' (sim_tup ht rr)⟩
      · exact g1.elim
  rcases key with k | k
  · exact (pi_list (he E cn)).run pins s σ H R I k
  · exact (pi_tup (he E cn)).run pins s σ H R I k⟩
/-! ### range -/
def nxR (lo : Int) (n : Nat) : Nat → Hv → Nxt := fun i h => if i < n then .item (.int (lo + i)) h else .stop
theorem sim_range {ps : Pl} {lo : Int} {n m : Nat} : SimI T ps ⟨m, nxR lo n⟩ (Itr lo n) := by
  intro qs h H i pre vw
  show NxOk T qs H (Itr lo n) i (nxR lo n i h)
  unfold nxR
  split
  · rename_i hi
    refine ⟨hi, fun x H' y => ?_⟩
    obtain ⟨rfl, rfl⟩ := y
    exact ⟨qs, Step.refl _ _, vw, rfl⟩
  · rename_i hi
    exact Nat.le_of_not_lt hi
def rgB (i : Int) : Bool := decide (-4611686018427387904 ≤ i) && decide (i < 4611686018427387904)
def srcR (ws : List W) (h : Hv) : Res Src := match ws with
  | [.int j] => if rgB j then .val ⟨j.toNat + 1, nxR 0 j.toNat⟩ h else .bad
  | [.int i, .int j] => if rgB i && rgB j then .val ⟨(j - i).toNat + 1, nxR i (j - i).toNat⟩ h else .bad
  | _ => .bad
def mRng (g : Ws → Hv → Res (List W)) : Ws → Hv → Res Src := fun r h => (g r h).bind srcR
theorem rgB_ok {i : Int} (h : rgB i = true) : -(2 ^ 62) ≤ i ∧ i < 2 ^ 62 := by
  unfold rgB at h
  rw [Bool.and_eq_true] at h
  have e : (2 : Int) ^ 62 = 4611686018427387904 := by decide
  rw [e]
  exact ⟨of_decide_eq_true h.1, of_decide_eq_true h.2⟩
theorem si_range1 {a : Expr} {fa : Ws → Hv → Res (List W)} {p pos : Pos} (hg : Gl X "range") (hm : X.mg "range" = none) (ha : SA T X [a] fa) (hl : ∀ r h ws h', fa r h = .val ws h' → ws.length = 1) (hs : starEach [a] X.env = [(false, eval a X.env)] := by rfl) :
    SI T X tg (.Call (.Name "range" p) [a] [] pos) (mRng fa) := fun E cn => ⟨fun pins s σ H R I h => (pi_range1 hg hm (ha E cn) hs).run pins s σ H R I (by
  obtain ⟨ps, r, hv, es, vw, gd⟩ := h
  refine ⟨ps, r, hv, es, vw, ?_⟩
  cases q : fa r hv with
  | bad => unfold mRng at gd; rw [q] at gd; exact gd.elim
  | exc c d h1 => unfold mRng at gd; rw [q] at gd; exact gd
  | val ws h1 =>
    unfold mRng at gd
    rw [q] at gd
    have g1 : Good T (SimI T) ps H (srcR ws h1) R _ := gd
    have hw := hl r hv ws h1 q
    intro qs H' vs st vw' wv
    unfold srcR at g1
    split at g1
    · split at g1
      · rename_i j hj
        obtain ⟨v, rfl, e⟩ := one_of wv
        cases e
        obtain ⟨b1, b2⟩ := rgB_ok hj
        exact ⟨j, rfl, b1, b2, g1 qs H' _ st vw' sim_range⟩
      · exact g1.elim
    · simp at hw
    · exact g1.elim)⟩
theorem si_range2 {a b : Expr} {fa : Ws → Hv → Res (List W)} {p pos : Pos} (hg : Gl X "range") (hm : X.mg "range" = none) (ha : SA T X [a, b] fa) (hl : ∀ r h ws h', fa r h = .val ws h' → ws.length = 2) (hs : starEach [a, b] X.env = [(false, eval a X.env), (false, eval b X.env)] := by rfl) (hs2 : starEach [b] X.env = [(false, eval b X.env)] := by rfl) :
    SI T X tg (.Call (.Name "range" p) [a, b] [] pos) (mRng fa) := fun E cn => ⟨fun pins s σ H R I h => (pi_range2 hg hm (ha E cn) hs hs2).run pins s σ H R I (by
  obtain ⟨ps, r, hv, es, vw, gd⟩ := h
  refine ⟨ps, r, hv, es, vw, ?_⟩
  cases q : fa r hv with
  | bad => unfold mRng at gd; rw [q] at gd; exact gd.elim
  | exc c d h1 => unfold mRng at gd; rw [q] at gd; exact gd
  | val ws h1 =>
    unfold mRng at gd
    rw [q] at gd
    have g1 : Good T (SimI T) ps H (srcR ws h1) R _ := gd
    have hw := hl r hv ws h1 q
    intro qs H' vs st vw' wv
    unfold srcR at g1
    split at g1
    · simp at hw
    · split at g1
      · rename_i i j hj
        rw [Bool.and_eq_true] at hj
        obtain ⟨v, v', rfl, e, e'⟩ := pair_of wv
        cases e; cases e'
        obtain ⟨b1, b2⟩ := rgB_ok hj.1
        obtain ⟨b3, b4⟩ := rgB_ok hj.2
        exact ⟨i, j, rfl, ⟨b1, b2, b3, b4⟩, g1 qs H' _ st vw' sim_range⟩
      · exact g1.elim
    · exact g1.elim)⟩
theorem len_cons {f : Ws → Hv → Res W} {g : Ws → Hv → Res (List W)} {n : Nat} (hg : ∀ r h ws h', g r h = .val ws h' → ws.length = n) : ∀ r h ws h', mCons f g r h = .val ws h' → ws.length = n + 1 := by
  intro r h ws h' e
  unfold mCons at e
  cases q : f r h with
  | bad => rw [q] at e; cases e
  | exc c d h1 => rw [q] at e; cases e
  | val w h1 =>
    rw [q] at e
    cases q2 : g r h1 with
    | bad => simp only [Res.bind, q2] at e; cases e
    | exc c d h1 => simp only [Res.bind, q2] at e; cases e
    | val us h2 =>
      simp only [Res.bind, q2] at e
      cases e
      simp [hg _ _ _ _ q2]
theorem len_nil : ∀ (r : Ws) (h : Hv) (ws : List W) (h' : Hv), mNil r h = .val ws h' → ws.length = 0 := fun r h ws h' e => by
  unfold mNil at e
  cases e
  rfl
/-! ### enumerate -/
def nxEnum (p : Nat) : Nat → Hv → Nxt := fun i h => match h[p]? with
  | some (.lst xs) => (match xs[i]? with | some w => .item (.tup [.int i, w]) h | none => .stop)
  | some (.rol xs) => (match xs[i]? with | some w => .item (.tup [.int i, w]) h | none => .stop)
  | _ => .bad
theorem sim_enum {K : PySem.W.Frag} {ps : Pl} {p n : Nat} {a : Addr} (ea : ps[p]? = some a) : SimI T ps ⟨n, nxEnum p⟩ (Ite K a) := by
  intro qs h H i pre vw
  have eq := at_pre pre ea
  show NxOk T qs H (Ite K a) i (nxEnum p i h)
  unfold nxEnum
  have go : ∀ {vs : List V} {xs : List W}, Paired (WV qs) xs vs → SqL K H a vs → NxOk T qs H (Ite K a) i (match xs[i]? with | some w => .item (.tup [.int i, w]) h | none => .stop) := by
    intro vs xs rr sq
    split
    · rename_i w ew
      obtain ⟨v, ev, wv⟩ := paired_get rr ew
      refine ⟨⟨vs, v, sq, ev⟩, fun x H' y => ?_⟩
      obtain ⟨q, x', rfl, hq, rfl, y⟩ := y
      have z := y vs sq
      rw [ev] at z
      cases z
      obtain ⟨v1, s1⟩ := vw.tuple hq [.int (i : Nat), v]
      exact ⟨_, s1, v1, WV.tup_mk (.inr ⟨rfl, rfl⟩) (WVs.mono s1.pre (.cons rfl (.cons wv .nil)))⟩
    · rename_i ew
      exact ⟨vs, sq, paired_none rr ew⟩
  split
  · rename_i xs e1
    obtain ⟨vs, rr, eH⟩ := vw.ob _ a _ eq e1
    exact go rr (SqL.of eH)
  · rename_i xs e1
    obtain ⟨vs, ob, rr, eH⟩ := vw.ob _ a _ eq e1
    exact go rr (.inl (.inr ⟨ob, eH⟩))
  · trivial
def srcE (ws : List W) (h : Hv) : Res Src := match ws with
  | [.ref p] => (match h[p]? with
    | some (.lst xs) => .val ⟨xs.length + 1, nxEnum p⟩ h
    | some (.rol xs) => .val ⟨xs.length + 1, nxEnum p⟩ h
    | _ => .bad)
  | _ => .bad
def mEnum (g : Ws → Hv → Res (List W)) : Ws → Hv → Res Src := fun r h => (g r h).bind srcE
theorem si_enum {e : Expr} {fa : Ws → Hv → Res (List W)} {p pos tpos : Pos} {elts : List Expr} {kk : Nat} (hg : Gl X "enumerate") (hm : X.mg "enumerate" = none) (ha : SA T X [e] fa) (hs : starEach [e] X.env = [(false, eval e X.env)] := by rfl) :
    SI T X (.Tuple elts kk tpos) (.Call (.Name "enumerate" p) [e] [] pos) (mEnum fa) := fun E cn => ⟨fun pins s σ H R I h => (pi_enum hg hm (ha E cn) hs).run pins s σ H R I (by
  obtain ⟨ps, r, hv, es, vw, gd⟩ := h
  refine ⟨ps, r, hv, es, vw, ?_⟩
  cases q : fa r hv with
  | bad => unfold mEnum at gd; rw [q] at gd; exact gd.elim
  | exc c d h1 => unfold mEnum at gd; rw [q] at gd; exact gd
  | val ws h1 =>
    unfold mEnum at gd
    rw [q] at gd
    have g1 : Good T (SimI T) ps H (srcE ws h1) R _ := gd
    intro qs H' vs st vw' wv
    unfold srcE at g1
    split at g1
    · obtain ⟨v, rfl, a, ea, rfl⟩ := one_of wv
      split at g1
      · rename_i xs e1
        obtain ⟨vs, rr, eH⟩ := vw'.ob _ a _ ea e1
        exact ⟨a, vs, rfl, SqL.of eH, g1 qs H' _ st vw' (sim_enum ea)⟩
      · rename_i xs e1
        obtain ⟨vs, ob, rr, eH⟩ := vw'.ob _ a _ ea e1
        exact ⟨a, vs, rfl, .inl (.inr ⟨ob, eH⟩), g1 qs H' _ st vw' (sim_enum ea)⟩
      · exact g1.elim
    · exact g1.elim)⟩
end
end VL
end
section
namespace VL
open PySem L2

/-! ### comprehensions: one name, at most one if -/
def noX {α : Type} : Res α → Res α
  | .exc _ _ _ => .bad
  | x => x
theorem good_noX {α β γ δ : Type} {T : Tx} {R : Pl → α → β → Prop} {S : Pl → γ → δ → Prop} {ps : Pl} {H : Hp} {x : Res α} {k : α → Hv → Res γ} {Q : δ → Hp → Prop} {E : XK} (g : Good T S ps H ((noX x).bind k) Q E) :
    Good T R ps H x (Mid T R S ps H k Q E) (fun _ _ _ => False) := by
  cases x with
  | val w h => exact fun qs H' v s vw rv => ⟨qs, w, h, s, vw, rv, Good.step g s⟩
  | exc c d h => exact g.elim
  | bad => exact g
def compM (nx : Nat → Hv → Nxt) (i : Nat) (t : Ws → Hv → Res Bool) (f : Ws → Hv → Res W) (p : Nat) : Nat → Nat → Ws → Hv → Res W
  | 0, _, _, _ => .bad
  | n + 1, k, r, h => match nx k h with
    | .stop => .val (.ref p) h
    | .bad => .bad
    | .item w h1 => (noX (t (r.set i (some w)) h1)).bind fun b h2 => if b then ((noX (f (r.set i (some w)) h2)).bind fun y h3 => match h3[p]? with
        | some (.lst acc) => if acc.length < 100000 then compM nx i t f p n (k + 1) r (h3.set p (.lst (acc ++ [y]))) else .bad
        | _ => .bad) else compM nx i t f p n (k + 1) r h2
def mLc (src : Ws → Hv → Res Src) (i : Nat) (t : Ws → Hv → Res Bool) (f : Ws → Hv → Res W) : Ws → Hv → Res W := fun r h => (src r h).bind fun S h1 => compM S.nx i t f h1.length S.n 0 r (h1 ++ [.lst []])
abbrev No : WX := fun _ _ _ _ => False
theorem cn_no {X : Cx} {s : Shared} {H : Hp} {scope : Scope} {env : Env} {fp : List Addr} : Cn (X.blk s H scope env fp) No := ⟨takes0, PassesOwn.never⟩
section
variable {T : Tx} {X : Cx} {elt iter : Expr} {ifs : List Expr} {scope : Scope} {pos px : Pos} {src : Ws → Hv → Res Src} {t : Ws → Hv → Res Bool} {f : Ws → Hv → Res W} {x : Str}
theorem lc_read (i : Nat) {E : WX} {s : St} {H : Hp} {Q : VK} {tt : TT} (htt : ∀ s H Q, tT T No t s H Q → tt s H Q) (h : tE T E (mLc src i t f) s H Q) : tLc (tI T E src) (gName i) tt (tE T No f) [i] s H Q := by
  obtain ⟨ps, r, hv, es, vw, gd⟩ := h
  refine ⟨ps, r, hv, es, vw, (Good.bind (R := SimI T) (S := WV) gd).imp (fun J H1 q => ?_) fun _ _ _ z => z⟩
  obtain ⟨qs, S, h1, st, vw1, sim, g1⟩ := q
  intro D hD
  obtain ⟨vw2, st2, e2⟩ := vw1.alloc hD (o := .lst []) (u := .lst []) ⟨[], .nil, upd_same⟩
  have pq := st2.pre
  refine ⟨fun k m H => ∃ ps h, Pl.Le (qs ++ [D]) ps ∧ ES ps r s ∧ View T ps h H ∧ Good T WV ps H (compM S.nx i t f h1.length m k r h) Q (fun c d H' => E c d s H'), ⟨S.n, qs ++ [D], _, Pl.Le.refl _, (es.mono st.pre).mono pq, vw2, Good.step g1 st2⟩, ?_⟩
  rintro k m H3 ⟨rs, h3, pre, es3, vw3, g3⟩
  cases m with
  | zero => exact g3.elim
  | succ m =>
    have ok := sim rs h3 H3 k (pq.trans pre) vw3
    unfold compM at g3
    have eD := at_pre pre e2
    cases q : S.nx k h3 with
    | bad => rw [q] at g3; exact g3.elim
    | stop =>
      rw [q] at g3 ok
      exact .inl ⟨ok, g3 rs H3 _ (Step.refl _ _) vw3 ⟨D, eD, rfl⟩⟩
    | item w h4 =>
      rw [q] at g3 ok
      refine .inr ⟨ok.1, fun H => ∃ ps h, Pl.Le (qs ++ [D]) ps ∧ ES ps r s ∧ View T ps h H ∧ Good T WV ps H (compM S.nx i t f h1.length m (k + 1) r h) Q (fun c d H' => E c d s H'), fun H' z => ⟨m, Nat.lt_succ_self m, z⟩, fun v H4 y => ?_⟩
      obtain ⟨ts, st4, vw4, wv⟩ := ok.2 v H4 y
      have g4 := g3.step st4
      dsimp only at g4
      have es4 : ES ts (r.set i (some w)) ((wipe s [i]).set i (some v)) := by
        show ES ts (r.set i (some w)) ((s.set i none).set i (some v))
        rw [List.set_set]
        exact (es3.mono st4.pre).set i wv
      refine ⟨?_, htt _ _ _ ⟨ts, r.set i (some w), h4, es4, vw4, (good_noX (R := BEq2) (S := WV) g4).imp (fun b H5 q5 => ?_) fun _ _ _ z => z⟩⟩
      · show (((s.set i none).set i (some v)).set i none) = s.set i none
        rw [List.set_set, List.set_set]
      · obtain ⟨us, b', h5, st5, vw5, eb, g5⟩ := q5
        cases eb
        have es5 := es4.mono st5.pre
        have esr := (es3.mono st4.pre).mono st5.pre
        have pre5 := (pre.trans st4.pre).trans st5.pre
        cases b with
        | false => exact iteF ⟨us, h5, pre5, esr, vw5, g5⟩
        | true =>
          refine iteT ⟨us, r.set i (some w), h5, es5, vw5, (good_noX (R := WV) (S := WV) g5).imp (fun yv H6 q6 => ?_) fun _ _ _ z => z⟩
          obtain ⟨vs, wy, h6, st6, vw6, wvy, g6⟩ := q6
          dsimp only at g6
          split at g6
          · rename_i acc e6
            split at g6
            · rename_i hl
              have eD6 := at_pre (pre5.trans st6.pre) e2
              obtain ⟨av, rr, eH⟩ := vw6.ob _ D _ eD6 e6
              have l1 : acc.length = av.length := rr.length
              obtain ⟨vw7, st7⟩ := vw6.put eD6 (o := .lst (acc ++ [wy])) (u := .lst (av ++ [yv])) ⟨_, paired_app rr (.cons wvy .nil), upd_same⟩ (notX eH)
              exact ⟨av, eH, Nat.lt_of_lt_of_le (l1 ▸ hl) (by decide), vs, _, pre5.trans st6.pre, esr.mono st6.pre, vw7, Good.step g6 st7⟩
            · exact g6.elim
          · exact g6.elim
def mYes : Ws → Hv → Res Bool := fun _ h => .val true h
theorem yes_read {s : St} {H : Hp} {Q : Bool → Hp → Prop} (h : tT T No mYes s H Q) : tYes s H Q := by
  obtain ⟨ps, r, hv, es, vw, gd⟩ := h
  exact Good.now (R := BEq2) gd vw rfl
theorem se_lc (i : Nat) (hN : X.N.Nodup) (hi : SI T X (.Name x px) iter src) (ok : BlkOk X.N X.env.scope scope [(x, i)]) (hx : ∀ (s : Shared) (H : Hp) (C : Addr) (cl : List (Str × Addr)) (fp : List Addr), PG (X.blk s H scope (compEnvC scope cl C X.env) fp) (.Name x px) (gName i))
    (he : ∀ (s : Shared) (H : Hp) (C : Addr) (cl : List (Str × Addr)) (fp : List Addr), SE T (X.blk s H scope (compEnvC scope cl C X.env) fp) elt f) (hc : X.calm = true := by rfl) (hs : ∀ x, foldedSetIterable iter X.env x = pure x := by intro _; rfl) :
    SE T X (.ListComp elt [⟨.Name x px, iter, [], 0⟩] scope pos) (mLc src i mYes f) := fun E cn => PEi (pe_lc (own := [(x, i)]) hc hN (hi E cn) ok hx (fun _ _ _ _ _ => pts_nil) (fun s H C cl fp => he s H C cl fp No cn_no) hs) fun s H Q h => lc_read i (fun _ _ _ z => yes_read z) h
theorem se_lcIf (i : Nat) {c : Expr} (hN : X.N.Nodup) (hi : SI T X (.Name x px) iter src) (ok : BlkOk X.N X.env.scope scope [(x, i)]) (hx : ∀ (s : Shared) (H : Hp) (C : Addr) (cl : List (Str × Addr)) (fp : List Addr), PG (X.blk s H scope (compEnvC scope cl C X.env) fp) (.Name x px) (gName i))
    (ht : ∀ (s : Shared) (H : Hp) (C : Addr) (cl : List (Str × Addr)) (fp : List Addr), STt T (X.blk s H scope (compEnvC scope cl C X.env) fp) c t)
    (he : ∀ (s : Shared) (H : Hp) (C : Addr) (cl : List (Str × Addr)) (fp : List Addr), SE T (X.blk s H scope (compEnvC scope cl C X.env) fp) elt f) (hc : X.calm = true := by rfl) (hs : ∀ x, foldedSetIterable iter X.env x = pure x := by intro _; rfl) :
    SE T X (.ListComp elt [⟨.Name x px, iter, [c], 0⟩] scope pos) (mLc src i t f) := fun E cn => PEi (pe_lc (own := [(x, i)]) hc hN (hi E cn) ok hx (fun s H C cl fp => pts_one (ht s H C cl fp No cn_no)) (fun s H C cl fp => he s H C cl fp No cn_no) hs) fun s H Q h => lc_read i (fun _ _ _ z => z) h
end

/-! ### slices of lists -/
def mPart (o : Option (Ws → Hv → Res W)) : Ws → Hv → Res (Option Int) := match o with
  | none => fun _ h => .val none h
  | some f => fun r h => (f r h).bind fun w h1 => match w with
    | .int i => .val (some i) h1
    | _ => .bad
abbrev OEq2 : Pl → Option Int → Option Int → Prop := fun _ a b => a = b
def tO (T : Tx) (E : WX) (f : Ws → Hv → Res (Option Int)) : TO := fun s H Q => ∃ ps r h, ES ps r s ∧ View T ps h H ∧ Good T OEq2 ps H (f r h) Q (fun c d H' => E c d s H')
def SO (T : Tx) (X : Cx) (e : Option Expr) (f : Ws → Hv → Res (Option Int)) : Prop := ∀ E, Cn X E → PO X e (tO T E f)
def cutW (xs : List W) (lo hi : Option Int) : List W := (xs.drop (HT.sIx xs.length 0 lo)).take (HT.sIx xs.length xs.length hi - HT.sIx xs.length 0 lo)
def mCut (w : W) (lo hi : Option Int) (h : Hv) : Res W := match w with
  | .ref p => (match h[p]? with
    | some (.lst xs) => mNew (.lst (cutW xs lo hi)) h
    | some (.rol xs) => mNew (.lst (cutW xs lo hi)) h
    | _ => .bad)
  | _ => .bad
def mSl (f : Ws → Hv → Res W) (lo hi : Ws → Hv → Res (Option Int)) : Ws → Hv → Res W := fun r h => (f r h).bind fun w h1 => (lo r h1).bind fun l h2 => (hi r h2).bind fun u h3 => mCut w l u h3
section
variable {T : Tx} {X : Cx} {e : Expr} {f : Ws → Hv → Res W} {lo hi : Option Expr} {fl fh : Ws → Hv → Res (Option Int)} {p2 pos : Pos}
theorem POi {o : Option Expr} {t t' : TO} (h : PO X o t) (k : ∀ s H Q, t' s H Q → t s H Q) : PO X o t' := ⟨fun pins s σ H Q I hw => h.run pins s σ H Q I (k _ _ _ hw)⟩
theorem so_none : SO T X none (mPart none) := fun E cn => POi po_none fun s H Q ⟨ps, r, h, es, vw, g⟩ => Good.now (R := OEq2) g vw rfl
theorem so_some (h : SE T X e f) : SO T X (some e) (mPart (some f)) := fun E cn => POi (po_some (h E cn)) fun s H Q ⟨ps, r, hv, es, vw, gd⟩ => by
  refine ⟨ps, r, hv, es, vw, (Good.bind (R := WV) (S := OEq2) gd).imp (fun v H1 q => ?_) fun _ _ _ z => z⟩
  obtain ⟨qs, w, h1, st, vw1, wv, g1⟩ := q
  dsimp only at g1
  split at g1
  · cases wv
    exact ⟨_, rfl, Good.now (R := OEq2) g1 vw1 rfl⟩
  · exact g1.elim
theorem paired_cut {ps : Pl} {xs : List W} {vs : List V} (a : Paired (WV ps) xs vs) (lo hi : Option Int) : Paired (WV ps) (cutW xs lo hi) (cutV vs lo hi) := by
  unfold cutW cutV
  rw [a.length]
  exact paired_take (paired_drop a _) _
theorem se_slice (he : SE T X e f) (hl : SO T X lo fl) (hh : SO T X hi fh) : SE T X (.Subscript e (.Slice lo hi none p2) pos) (mSl f fl fh) := fun E cn => PEi (pe_slice sl_list (he E cn) (hl E cn) (hh E cn)) fun s H Q ⟨ps, r, hv, es, vw, gd⟩ => by
  refine ⟨ps, r, hv, es, vw, (Good.bind (R := WV) (S := WV) gd).imp (fun v H1 q => ?_) fun _ _ _ z => z⟩
  obtain ⟨qs, w, h1, st, vw1, wv, g1⟩ := q
  refine ⟨qs, r, h1, es.mono st.pre, vw1, (Good.bind (R := OEq2) (S := WV) g1).imp (fun l H2 q2 => ?_) fun _ _ _ z => z⟩
  obtain ⟨rs, l', h2, st2, vw2, e2, g2⟩ := q2
  cases e2
  refine ⟨rs, r, h2, (es.mono st.pre).mono st2.pre, vw2, (Good.bind (R := OEq2) (S := WV) g2).imp (fun u H3 q3 => ?_) fun _ _ _ z => z⟩
  obtain ⟨ts, u', h3, st3, vw3, e3, g3⟩ := q3
  cases e3
  have wv3 := (wv.mono st2.pre).mono st3.pre
  dsimp only at g3
  unfold mCut at g3
  split at g3
  · obtain ⟨a, ea, rfl⟩ := wv3
    split at g3
    · rename_i xs e1
      obtain ⟨vs, rr, eH⟩ := vw3.ob _ a _ ea e1
      exact ⟨a, vs, rfl, SqL.of eH, fun p hp => good_new vw3 g3 (fun H' p' e => ⟨_, paired_cut rr _ _, e⟩) hp⟩
    · rename_i xs e1
      obtain ⟨vs, ob, rr, eH⟩ := vw3.ob _ a _ ea e1
      exact ⟨a, vs, rfl, .inl (.inr ⟨ob, eH⟩), fun p hp => good_new vw3 g3 (fun H' p' e => ⟨_, paired_cut rr _ _, e⟩) hp⟩
    · exact g3.elim
  · exact g3.elim
end

/-! ### xs.append(e) -/
def mApp (fo fe : Ws → Hv → Res W) : Ws → Hv → Res W := fun r h => (fo r h).bind fun o h1 => match o with
  | .ref p => (match h1[p]? with
    | some (.lst _) => (fe r h1).bind fun w h2 => (match h2[p]? with
      | some (.lst xs) => if xs.length < 100000 then .val .non (h2.set p (.lst (xs ++ [w]))) else .bad
      | _ => .bad)
    | _ => .bad)
  | _ => .bad
section
variable {T : Tx} {X : Cx} {o e : Expr} {fo fe : Ws → Hv → Res W} {pos apos cpos : Pos}
theorem se_append (ho : SE T X o fo) (he : SE T X e fe) (hs : starEach [e] X.env = (false, eval e X.env) :: starEach [] X.env := by rfl)
    (hp : ∀ {to : TE} {t : TA}, PE X o to → PA X [e] t → PE X (.Call (.Attribute o "append" apos) [e] [] cpos) (tBM X.K "list" rAppend to t) := by exact fun a b => pe_bm PySem.F.plainAttrs_list PySem.F.slot_list_append PySem.F.type_list_append mt_append a b) :
    SE T X (.Call (.Attribute o "append" apos) [e] [] cpos) (mApp fo fe) := fun E cn => PEi (hp (ho E cn) (pa_cons (he E cn) pa_nil hs)) fun s H Q ⟨ps, r, hv, es, vw, gd⟩ => by
  refine ⟨ps, r, hv, es, vw, (Good.bind (R := WV) (S := WV) gd).imp (fun v H1 q => ?_) fun _ _ _ z => z⟩
  obtain ⟨qs, w, h1, st, vw1, wv, g1⟩ := q
  dsimp only at g1
  split at g1
  · rename_i p
    obtain ⟨a, ea, rfl⟩ := wv
    split at g1
    · rename_i ys e1
      obtain ⟨vs, rr, eH⟩ := vw1.ob _ a _ ea e1
      refine ⟨.inl ⟨rfl, vs, SqL.of eH⟩, qs, r, h1, es.mono st.pre, vw1, (Good.bind (R := WV) (S := WV) g1).imp (fun y H2 q2 => ?_) fun _ _ _ z => z⟩
      obtain ⟨rs, wy, h2, st2, vw2, wvy, g2⟩ := q2
      dsimp only at g2
      split at g2
      · rename_i xs e2
        split at g2
        · rename_i hl
          have ea2 := at_pre st2.pre ea
          obtain ⟨us, r2, eH2⟩ := vw2.ob _ a _ ea2 e2
          have l1 : xs.length = us.length := r2.length
          obtain ⟨vw3, st3⟩ := vw2.put ea2 (o := .lst (xs ++ [wy])) (u := .lst (us ++ [y])) ⟨_, paired_app r2 (.cons wvy .nil), upd_same⟩ (notX eH2)
          exact ⟨a, us, y, rfl, rfl, eH2, Nat.lt_of_lt_of_le (l1 ▸ hl) (by decide), g2 _ _ _ st3 vw3 rfl⟩
        · exact g2.elim
      · exact g2.elim
    · exact g1.elim
  · exact g1.elim
end
end VL
end
section
namespace VL
open PySem L2 PySem.Spec PyProof.Rows

/-! ### raise of an own error with one field -/
def mRaise (C : String) (f : Str) (g : Ws → Hv → Res (List W)) : MS := fun r h => (g r h).andS r fun ws h1 => match ws with
  | [w] => .exc C (some h1.length) r (h1 ++ [.xd [(f, w)]])
  | _ => .bad
/-- __init__(self, f): self.f = f -/
def spInit (K : PySem.W.Frag) (C : Addr) (f : Str) : Sp := fun vs H Q _ => ∃ (a : Addr) (v : V), vs = [.ref a, v] ∧ H a = some (exo a C none) ∧ ∀ dx, H dx = none → dx ≠ a → Q .non (upd (upd H dx (exd dx [(f, v)])) a (exo a C (some dx)))
/-- what the text says of the error's class -/
structure ErrC (P : Program) (w : World) (K : PySem.W.Frag) (mg : Str → Option Value) (base : Heap) (x f : Str) (C : Addr) : Prop where
  oex : OexC K C
  mgC : mg x = some (.ref C)
  ini : ∃ fI fd, PySem.W.findIn K (.ref C) "__init__" = some (some (.ref fI)) ∧ PySem.W.typeIn K (.ref fI) = some (.type "function") ∧ FnOk P w K mg base CX0 1 fI fd ["self", f] (spInit K C f) ∧ Binds K fd ["self", f] []
section
variable {T : Tx} {X : Cx} {C : Addr} {cn9 : String} {x f : Str} {e : Expr} {g : Ws → Hv → Res (List W)} {p pos pos' : Pos}
theorem ss_raise (Z : ErrC X.prog X.w X.K X.mg X.base x f C) (hcv : T.cv cn9 = .ref C) (hr : Room 2 X.A) (hg : Gl X x) (ha : SA T X [e] g) (hc : X.calm = true := by rfl) (hdb : (x == ("__debug__" : Str)) = false := by decide)
    (he : starEach [e] X.env = (false, eval e X.env) :: starEach [] X.env := by rfl) (hpl : (backTo pos' (starEach [] X.env)).any (·.1) = false := by rfl) : SS T X (.Raise (some (.Call (.Name x p) [e] [] pos')) none pos) (mRaise cn9 f g) := fun E cn => by
  obtain ⟨fI, fd, h1, h2, h3, h4⟩ := Z.ini
  refine PSi (ps_raise hc cn.tk (pmk_oex Z.oex h1 h2 h3 hr h4 .nil pass0 hg Z.mgC (ha E cn) hdb he hpl)) fun D s H ⟨ps, r, hv, es, vw, gd⟩ => ?_
  refine ⟨ps, r, hv, es, vw, (good_andS (R := WVs) es gd).imp (fun vs H1 q => ?_) fun _ _ _ z => z⟩
  obtain ⟨qs, ws, hh, st, vw1, wv, es1, g1⟩ := q
  split at g1
  · rename_i w
    obtain ⟨v, rfl, wv1⟩ := one_of wv
    refine ⟨by simp, fun a na => ⟨a, v, rfl, upd_same, fun dx hd ne => ⟨rfl, dx, [(f, v)], upd_same, by rw [upd_ne ne, upd_same], ?_, ?_⟩⟩⟩
    · rw [upd_ne ne] at hd
      exact hd
    · rw [upd_ne ne] at hd
      have eqH : upd (del (upd (upd (upd H1 a (exo a C none)) dx (exd dx [(f, v)])) a (exo a C (some dx))) a) dx (.xd [(f, v)]) = upd H1 dx (.xd [(f, v)]) := by
        funext b
        by_cases hb : b = dx
        · rw [hb, upd_same, upd_same]
        · rw [upd_ne hb, upd_ne hb]
          by_cases ha : b = a
          · rw [ha, del_same, na]
          · rw [del_ne ha, upd_ne ha, upd_ne hb, upd_ne ha]
      rw [eqH]
      obtain ⟨vw2, st2, e2⟩ := vw1.alloc hd (o := .xd [(f, w)]) (u := .xd [(f, v)]) ⟨_, .cons ⟨rfl, wv1⟩ .nil, upd_same⟩
      rw [← hcv]
      exact g1 _ _ s (some dx) st2 vw2 (es1.mono st2.pre) ⟨dx, e2, rfl⟩
  · exact g1.elim
end

/-! ### try .. except x as n: a suite that returns -/
theorem View.known {T : Tx} {ps : Pl} {h : Hv} {H : Hp} (v : View T ps h H) {j : Nat} {a : Addr} (e : ps[j]? = some a) : View (T.known j a) ps h H := ⟨v.len, v.nd, v.ob, v.tab, ⟨v.fact, e⟩, v.tup⟩
theorem View.less {T : Tx} {ps : Pl} {h : Hv} {H : Hp} {j : Nat} {a : Addr} (v : View (T.known j a) ps h H) : View T ps h H := ⟨v.len, v.nd, v.ob, v.tab, v.fact.1, v.tup⟩
def mTry (i : Nat) (exm : String → Option Bool) (su : Nat → MS) (b : MS) : MS := fun r h => match b r h with
  | .exc c d r1 h1 => (match exm c with
    | some true => (match d with
      | some j => if i < r1.length then (match su j r1 h1 with
        | .rt w h2 => .rt w h2
        | _ => .bad) else .bad
      | none => .bad)
    | some false => .exc c d r1 h1
    | none => .bad)
  | y => y
section
variable {T : Tx} {X : Cx} {x n : Str} {c : Value} {body suite : List Stmt} {b0 : Stmt} {np pos pos' : Pos} {bM : MS} {sM : Addr → Nat → MS} {su : Nat → MS} {exm : String → Option Bool} {okc : Value → Prop}
theorem ss_try (i : Nat) (hN : X.N.Nodup) (hc : Names X x c) (hexm : ∀ v b, exm v = some b → PySem.W.exmOne X.K (T.cv v) c = some b) (hokc : ∀ v, exm v = some true → okc (T.cv v))
    (hb : ∀ (pn : List (Addr × Obj)) (xe : Value → Shared → Prop), SSs T (X.tr pn xe) body bM)
    (hsu : ∀ (a : Addr) (oe : Obj) (cls : Value) (dd : Addr) (pn : List (Addr × Obj)) (j : Nat), okc cls → Zc cls (some dd) oe → (∃ vs, oe.data = .fields vs) → SSs (T.known j dd) (X.suite a ((a, oe) :: pn)) (b0 :: suite) (sM a j))
    (hind : ∀ a j r h w h2, i < r.length → su j r h = .rt w h2 → sM a j (r.set i (some (.fix a))) h = .rt w h2)
    (hs : X.stack = X.env :: X.outer := by rfl) (hf : X.env.frame = some X.env.locals := by rfl) (hi : X.N[i]? = some n := by rfl) (hln : X.env.kindOf n = some .local := by rfl) :
    SS T X (.Try body [.ExceptHandler (some (.Name x np)) (some n) (b0 :: suite) pos'] [] [] pos) (mTry i exm su bM) := fun E cn => by
  let ts : Addr → Value → Option Addr → TS := fun a cls d D s H => okc cls ∧ ∃ j dd, d = some dd ∧ tS (T.known j dd) No (sM a j) D s H
  have base : PS X (.Try body [.ExceptHandler (some (.Name x np)) (some n) (b0 :: suite) pos'] [] [] pos) (fun D s H => tS T (wAs X.K c i ts E D) bM D s H) := ps_try_as (tb := fun W => tS T W bM) (ts := ts) hs hf hN hi hln hc cn.tk (fun W pn xe tk po => hb pn xe W ⟨tk, po⟩) fun a oe cls d pn hz hd => ⟨fun pins s σ H D I h => by
    obtain ⟨hk, j, dd, rfl, h⟩ := h
    exact ((hsu a oe cls dd pn j hk hz hd) No ⟨takes0, PassesOwn.never⟩).run pins s σ H D I h⟩
  refine ⟨fun pins s σ H D I h => base.run pins s σ H D I ?_⟩
  obtain ⟨ps, r, hv, es, vw, gd⟩ := h
  refine ⟨ps, r, hv, es, vw, ?_⟩
  unfold mTry at gd
  cases q : bM r hv with
  | nx r1 h1 => rw [q] at gd; exact gd
  | rt r1 h1 => rw [q] at gd; exact gd
  | bk r1 h1 => rw [q] at gd; exact gd
  | ct r1 h1 => rw [q] at gd; exact gd
  | bad => rw [q] at gd; exact gd
  | exc cv d r1 h1 =>
    rw [q] at gd
    intro qs H' s' e st vw' es' dv
    dsimp only at gd
    cases ex : exm cv with
    | none => rw [ex] at gd; exact gd.elim
    | some b =>
      rw [ex] at gd
      cases b with
      | false => exact ⟨false, hexm _ _ ex, (fun z => by cases z), fun _ => gd qs H' s' e st vw' es' dv⟩
      | true =>
        cases d with
        | none => exact gd.elim
        | some j =>
          obtain ⟨dd, ej, rfl⟩ := dv
          refine ⟨true, hexm _ _ ex, fun _ a ha => ?_, (fun z => by cases z)⟩
          dsimp only at gd
          split at gd
          · rename_i hl
            cases z : su j r1 h1 with
            | nx _ _ => rw [z] at gd; exact gd.elim
            | bk _ _ => rw [z] at gd; exact gd.elim
            | ct _ _ => rw [z] at gd; exact gd.elim
            | exc _ _ _ _ => rw [z] at gd; exact gd.elim
            | bad => rw [z] at gd; exact gd.elim
            | rt w h2 =>
              rw [z] at gd
              refine ⟨hokc _ ex, j, dd, rfl, qs, r1.set i (some (.fix a)), h1, es'.set i rfl, vw'.known ej, ?_⟩
              rw [hind a j r1 h1 _ _ hl z]
              exact fun rs H2 v st2 vw2 wv => gd rs H2 v (st.trans st2) vw2.less wv
          · exact gd.elim
end

/-! ### the caught error's field -/
def mXf (j : Nat) (f : Str) : Ws → Hv → Res W := fun _ h => match h[j]? with
  | some (.xd fs) => ofO (fs.lookup f) h
  | _ => .bad
def mXfA (i : Nat) (a : Addr) (j : Nat) (f : Str) : Ws → Hv → Res W := fun r h => match r[i]? with
  | some (some (.fix b)) => if b = a then mXf j f r h else .bad
  | _ => .bad
theorem paired_lookup {ps : Pl} {f : Str} : ∀ {fs : List (Str × W)} {vs : List (Str × V)} {w : W}, Paired (PW2 ps) fs vs → fs.lookup f = some w → ∃ v, vs.lookup f = some v ∧ WV ps w v
  | [], _, _, .nil, e => by cases e
  | (k, u) :: fs, (k', u') :: vs, w, .cons r t, e => by
    obtain ⟨rfl, r⟩ := r
    rw [List.lookup_cons] at e ⊢
    cases q : f == k with
    | true => rw [q] at e; cases e; exact ⟨u', by simp, r⟩
    | false =>
      rw [q] at e
      obtain ⟨v, h1, h2⟩ := paired_lookup t e
      exact ⟨v, by simpa [q] using h1, h2⟩
section
variable {T : Tx} {X : Cx}
theorem se_xf (i : Nat) {a dd C : Addr} {oe : Obj} {cls : Value} {pn : List (Addr × Obj)} {j : Nat} {n f : Str} {p pos : Pos} (Z : XfC X.K C) (hno : PySem.W.findIn X.K (.ref C) f = some none) (hz : Zc cls (some dd) oe) (hf : ∃ vs, oe.data = .fields vs) (hcls : cls = .ref C)
    (hN : X.N[i]? = some n := by rfl) (hv : Vis X.env.scope n := by first | exact Or.inl rfl | exact Or.inr (Or.inl rfl) | exact Or.inr (Or.inr rfl)) (hd : (n == ("__debug__" : Str)) = false := by decide) (hcd : (n == ("__classdict__" : Str)) = false := by decide)
    (hb : attributeBase (.Name n p) f X.env (eval (.Name n p) X.env) = eval (.Name n p) X.env := by rfl) :
    SE (T.known j dd) (X.suite a ((a, oe) :: pn)) (.Attribute (.Name n p) f pos) (mXfA i a j f) := fun E cn => PEi (pe_xf Z hno hz hf (pe_var (X := X.suite a ((a, oe) :: pn)) (i := i) hN hv hd hcd) hb) fun s H Q ⟨ps, r, hv, es, vw, gd⟩ => by
  unfold mXfA at gd
  split at gd
  · rename_i b eb
    split at gd
    · rename_i hba
      subst hba
      obtain ⟨v, e1, e2⟩ := es.2 i _ eb
      cases e2
      unfold mXf at gd
      split at gd
      · rename_i fs ej
        obtain ⟨w, ew, g⟩ := ofO_of gd
        have ed : ps[j]? = some dd := vw.fact.2
        obtain ⟨vs, rr, eH⟩ := vw.ob _ dd _ ed ej
        obtain ⟨v, ev, wv⟩ := paired_lookup rr ew
        exact ⟨_, e1, rfl, hcls, dd, vs, v, rfl, eH, ev, Good.now g vw wv⟩
      · exact gd.elim
    · exact gd.elim
  · exact gd.elim
end

/-! ### a def -/
def startW (N : List Str) (ws : List W) : Ws := ws.map some ++ List.replicate (N.length - ws.length) none
def mDef (N : List Str) (b : MS) : MFn := fun ws h => match b (startW N ws) h with
  | .rt w h1 => .val w h1
  | .nx _ h1 => .val .non h1
  | .exc c d _ h1 => .exc c d h1
  | _ => .bad
theorem es_start {N : List Str} {ps : Pl} {ws : List W} {vs : List V} (h : Paired (WV ps) ws vs) : ES ps (startW N ws) (L2.start N vs) := by
  have hl : ws.length = vs.length := h.length
  refine ⟨by simp [startW, L2.start, hl], fun i w e => ?_⟩
  unfold startW at e
  unfold L2.start
  by_cases hi : i < ws.length
  · rw [List.getElem?_append_left (by simpa using hi)] at e
    rw [List.getElem?_append_left (by simpa [← hl] using hi)]
    rw [List.getElem?_map] at e ⊢
    cases q : ws[i]? with
    | none => simp [q] at e
    | some w' =>
      rw [q] at e
      cases e
      obtain ⟨v, ev, wv⟩ := paired_get h q
      exact ⟨v, by rw [ev]; rfl, wv⟩
  · rw [List.getElem?_append_right (by simpa using Nat.le_of_not_lt hi)] at e
    rw [List.getElem?_replicate] at e
    split at e
    · cases e
    · cases e
section
variable {P : Program} {w : World} {K : PySem.W.Frag} {mg : Str → Option Value} {base : Heap} {T : Tx} {N qs : List Str} {x qual : Str} {st : Stmt} {f : Addr} {fd : FuncData} {k : Nat} {b : MS}
theorem def_read {vs : List V} {H : Hp} {Q : VK} {E : XK} (h : spV T qs.length (mDef N b) vs H Q E) : tS T (fun c d _ H' => E c d H') b { nx := fun _ H' => Q .non H', rt := Q } (L2.start N vs) H := by
  obtain ⟨hl, ps, hv, ws, vw, wv, gd⟩ := h
  refine ⟨ps, startW N ws, hv, es_start wv, vw, ?_⟩
  unfold mDef at gd
  cases q : b (startW N ws) hv with
  | nx r1 h1 => rw [q] at gd; exact fun rs H' s st vw' es => gd rs H' .non st vw' rfl
  | rt w1 h1 => rw [q] at gd; exact gd
  | bk _ _ => rw [q] at gd; exact gd.elim
  | ct _ _ => rw [q] at gd; exact gd.elim
  | exc c d r1 h1 => rw [q] at gd; exact fun rs H' s e st vw' es dv => gd rs H' e st vw' dv
  | bad => rw [q] at gd; exact gd.elim
/-- THE RULE for a def -/
theorem fn_def (F : Fun K x qual st f fd) (S : FnScope N qs (defScope st))
    (hb : ∀ (cdv : Value) (A : Around) (outer : List Env) (s : Shared) (H : Hp) (E : XK), Room k (A.deeper (envOfC qual (defScope st) s.heap.objs.size f cdv)) → SSs T (cxOf (L2.CX P w) P w K mg base N qual (defScope st) f cdv A outer s H E) (defBody st) b) :
    FnOk P w K mg base (L2.CX P w) (k + 1) f fd qs (spV T qs.length (mDef N b)) :=
  F.okX S (fun vs H Q E h => h.1) fun cdv A outer s H vs Q E hr h => ⟨_, hb cdv A outer s H E hr _ ⟨takes_of rfl rfl rfl rfl, passes_of rfl⟩, def_read h⟩
end
end VL
end
section
namespace VL
open PySem L2 PySem.Spec PyProof.Rows

/-! ### defs that are called while no repr runs -/
structure FnG (P : Program) (w : World) (K : PySem.W.Frag) (mg : Str → Option Value) (base : Heap) (T : Tx) (k : Nat) (f : Addr) (n : Nat) (m : MFn) : Prop where
  run : ∀ (A : Around) (outer : List Env) (s : Shared) (H : Hp) (us : List Value) (vs : List V) (Q : VK) (E : XK), Room k A → A.guards = some [] → Env0 P w K mg base A outer s H → Vals vs us → spV T n m vs H Q E →
    codeAny (model P w) A (.call (.ref f) ⟨us, []⟩) (CR (L2.CX P w) outer P w H s Q E) s
theorem can_G {T : Tx} {X : Cx} {k : Nat} {f : Addr} {n : Nat} {m : MFn} (F : FnG X.prog X.w X.K X.mg X.base T k f n m) (hr : Room k X.A) (hg : X.A.guards = some []) : Can T X f n m := fun pins s σ H us vs Q E I r h => F.run X.A X.stack s H us vs Q E hr hg I.env0 r h
section
variable {P : Program} {w : World} {K : PySem.W.Frag} {mg : Str → Option Value} {base : Heap} {T : Tx} {N qs : List Str} {x qual : Str} {st : Stmt} {f : Addr} {fd : FuncData} {k : Nat} {b : MS}
/-- the def st stands at f, its code object is cdv -/
structure FunC (K : PySem.W.Frag) (x qual : Str) (st : Stmt) (f : Addr) (fd : FuncData) (cdv : Value) : Prop where
  ex : ∃ (oc : Value) (od : Option Addr) (kV doc pm : Value) (an : Option Addr) (ct : Value) (osl : Array (Option Value)),
    fd = PySem.W.fnOf x qual (defArgs st) (defBody st) (defScope st)
      .none kV doc pm an cdv ct ∧ K.lookup f = some ⟨oc, od, .func fd, osl⟩ ∧ PySem.W.codeIn K cdv qual = true
  kp : PySem.W.keepIn K (Value.ref f) = true
theorem Fun.code (F : Fun K x qual st f fd) : ∃ cdv, FunC K x qual st f fd cdv := by
  obtain ⟨oc, od, kV, doc, pm, an, cdv, ct, osl, e, l, c⟩ := F.ex
  exact ⟨cdv, ⟨oc, od, kV, doc, pm, an, ct, osl, e, l, c⟩, F.kp⟩
theorem fn_defC {cdv : Value} (F : FunC K x qual st f fd cdv) (S : FnScope N qs (defScope st)) (hbd : Binds K fd qs [])
    (hb : ∀ (A : Around) (outer : List Env) (s : Shared) (H : Hp) (E : XK), Room k (A.deeper (envOfC qual (defScope st) s.heap.objs.size f cdv)) → A.guards = some [] → SSs T (cxOf (L2.CX P w) P w K mg base N qual (defScope st) f cdv A outer s H E) (defBody st) b) :
    FnG P w K mg base T (k + 1) f qs.length (mDef N b) := ⟨fun A outer s H us vs Q E hr hg e0 r h => by
  obtain ⟨oc, od, kV, doc, pm, an, ct, osl, rfl, lk, hcd⟩ := F.ex
  have hl : vs.length = qs.length := h.1
  have kin : K.In s.heap := e0.mod.kin.keeps fun b o e => (e0.bs b o e).1
  have bt := hbd s us kin (by rw [List.append_nil, ← r.length]; exact hl)
  rw [List.append_nil] at bt
  exact LamX.run_ofS (N := N) (ps := qs) lk hcd S hr e0 bt r hl fun hr' => ⟨_, hb A outer s H E hr' hg _ ⟨takes_of rfl rfl rfl rfl, passes_of rfl⟩, def_read h⟩⟩
theorem fn_defG (F : Fun K x qual st f fd) (S : FnScope N qs (defScope st)) (hbd : Binds K fd qs [])
    (hb : ∀ (cdv : Value) (A : Around) (outer : List Env) (s : Shared) (H : Hp) (E : XK), Room k (A.deeper (envOfC qual (defScope st) s.heap.objs.size f cdv)) → A.guards = some [] → SSs T (cxOf (L2.CX P w) P w K mg base N qual (defScope st) f cdv A outer s H E) (defBody st) b) :
    FnG P w K mg base T (k + 1) f qs.length (mDef N b) := by
  obtain ⟨cdv, C⟩ := Fun.code F
  exact fn_defC C S hbd (hb cdv)
end

/-! ### heard(lambda: e): try: return call() / except x as n: a suite that returns -/
def mHeard (exm : String → Option Bool) (su : Nat → MS) (fb : Ws → Hv → Res W) : Ws → Hv → Res W := fun r h => match fb r h with
  | .val w h1 => .val w h1
  | .exc c (some j) h1 => (match exm c with
    | some true => (match su j [none, none] h1 with
      | .rt w h2 => .val w h2
      | _ => .bad)
    | _ => .bad)
  | _ => .bad
section
variable {X : Cx} {T : Tx} {sM : Addr → Nat → MS} {su : Nat → MS} {exm : String → Option Bool} {okc : Value → Prop} {cx : Value}
/-- what the suite is to do with an error of the class cls whose own dict is at d -/
def tSuite (T : Tx) (okc : Value → Prop) (sM : Addr → Nat → MS) : Addr → Value → Option Addr → TS := fun a cls d D s H => okc cls ∧ ∃ j dd, d = some dd ∧ tS (T.known j dd) No (sM a j) D s H
def wHeard (K : PySem.W.Frag) (T : Tx) (cx : Value) (okc : Value → Prop) (sM : Addr → Nat → MS) (Q : VK) : XK := fun cls d H => ∃ b, PySem.W.exmOne K cls cx = some b ∧
  (b = true → ∀ (D : Ends) (s : L2.St) (a : Addr), D.rt = Q → s.length = 2 → H a = none → tSuite T okc sM a cls d D (s.set 1 (some (.ref a))) H) ∧ (b = false → False)
def TTh (K : PySem.W.Frag) (T : Tx) (cx : Value) (okc : Value → Prop) (sM : Addr → Nat → MS) : (XK → Hp → VK → Prop) → Hp → VK → Prop := fun tl H Q => tl (wHeard K T cx okc sM Q) H Q
/-- the context in which heard's body runs -/
abbrev hCx (X : Cx) (Ng : List Str) (x : Str) (sg : Scope) (g : Addr) (cdg : Value) (s : Shared) (H : Hp) : Cx := (cxOf C8.CX0 X.prog X.w X.K X.mg X.base Ng x sg g cdg X.A X.stack s H C8.E0).nox
theorem heard_gives {x a n e q : Str} {sg : Scope} {g : Addr} {cdg : Value} {b0 : Stmt} {suite : List Stmt} {p1 p2 p3 p4 p7 p8 : Pos} (hnd : ([a, n] : List Str).Nodup)
    (hc : ∀ s H, Names (hCx X [a, n] x sg g cdg s H) e cx)
    (hsu : ∀ (s : Shared) (H : Hp) (ad : Addr) (oe : Obj) (cls : Value) (dd : Addr) (pn : List (Addr × Obj)) (j : Nat), okc cls → Zc cls (some dd) oe → (∃ vs, oe.data = .fields vs) → SSs (T.known j dd) ((hCx X [a, n] x sg g cdg s H).suite ad ((ad, oe) :: pn)) (b0 :: suite) (sM ad j))
    (hkn : sg.names.lookup n = some .local) :
    LamX.GivesTo X [a, n] x sg g cdg [.Try [.Return (some (.Call (.Name a p1) [] [] p2)) p3] [.ExceptHandler (some (.Name e p4)) (some n) (b0 :: suite) p7] [] [] p8] a q (TTh X.K T cx okc sM) := by
  intro f c' s H Q tl act hco h
  refine ⟨_, pss_one (ps_try_as (X := hCx X [a, n] x sg g cdg s H) (i := 1) (ts := tSuite T okc sM) (Wout := No)
    (tb := fun Wx D s' H' => ∃ Ec : XK, (∀ cls d (s2 : L2.St) H2, s2.length = 2 → Ec cls d H2 → Wx cls d s2 H2) ∧ s'[0]? = some (some (.ref f)) ∧ H' c' = some (LamX.CodeO c' q) ∧ tl Ec H' D.rt) rfl rfl hnd rfl hkn (hc s H) takes0 (fun Wx pn xe tk _ => ⟨fun pins s1 σ1 H1 D I h1 => ?_⟩)
    fun ad oe cls d pn hz hf => ⟨fun pins s1 σ1 H1 D I h1 => ?_⟩), ?_⟩
  · obtain ⟨Ec, hW, hs, h2, h3⟩ := h1
    have tk2 : Takes ((cxOf C8.CX0 X.prog X.w X.K X.mg X.base [a, n] x sg g cdg X.A X.stack s H C8.E0).tr pn xe) (fun cls d s2 H2 => s2.length = 2 → Wx cls d s2 H2) := fun u s' xx => by
      obtain ⟨ad, B, sI, pins', s3, H3, cls, d, e1, J, e2, e3, e4, e5, e6, e7, wz⟩ := xx
      exact tk u s' ⟨ad, B, sI, pins', s3, H3, cls, d, e1, J, e2, e3, e4, e5, e6, e7, wz J.len⟩
    have hp := act _ pn xe Ec p1 p2 tk2 fun cls d s2 H2 hh hl => hW cls d s2 H2 hl hh
    exact (pss_one (ps_ret (pos := p3) hp)).run pins s1 σ1 H1 D I ⟨hs, h2, h3⟩
  · obtain ⟨hk, j, dd, rfl, h2⟩ := h1
    exact ((hsu s H ad oe cls dd pn j hk hz hf) No ⟨takes0, PassesOwn.never⟩).run pins s1 σ1 H1 D I h2
  · refine ⟨wHeard X.K T cx okc sM Q, fun cls d s2 H2 hl hw => ?_, rfl, hco, h⟩
    obtain ⟨b, e1, e2, e3⟩ := hw
    exact ⟨b, e1, fun hb ad ha => e2 hb _ s2 ad rfl hl ha, fun hb => (e3 hb).elim⟩
theorem View.ext {ps : Pl} {h : Hv} {H H1 : Hp} (v : View T ps h H) (e : LamX.ExtN H H1) (t : LamX.Tabs T.tb H1) : View T ps h H1 ∧ Step ps H ps H1 := by
  refine ⟨⟨v.len, v.nd, fun i a o h1 h2 => ?_, t, v.fact, fun a vs tt => e a _ (v.tup a vs tt) (fun z q => by cases q)⟩, ⟨Pl.Le.refl _, fun _ _ h n _ => absurd h n, fun a o h1 h2 _ => e a o h1 h2⟩⟩
  have q := v.ob i a o h1 h2
  obtain ⟨u, hu, ht⟩ := q.there
  exact q.put fun u' hu' => by
    rw [hu] at hu'
    cases hu'
    exact e a u hu ht
theorem heard_read {E : WX} {s : L2.St} {H : Hp} {Q : VK} {fb : Ws → Hv → Res W} (hexm : ∀ v b, exm v = some b → PySem.W.exmOne X.K (T.cv v) cx = some b) (hokc : ∀ v, exm v = some true → okc (T.cv v)) (hind : ∀ a j r h w h2, 1 < r.length → su j r h = .rt w h2 → sM a j (r.set 1 (some (.fix a))) h = .rt w h2)
    (h : tE T E (mHeard exm su fb) s H Q) : LamX.tLam T.tb (TTh X.K T cx okc sM) (fun E' => tE T (fun c d _ H' => E' c d H') fb) s H Q := by
  obtain ⟨ps, r, hv, es, vw, gd⟩ := h
  refine ⟨vw.tab, fun H1 eN tN => ?_⟩
  obtain ⟨vw1, st1⟩ := vw.ext eN tN
  have gd := Good.step gd st1
  refine ⟨ps, r, hv, es, vw1, ?_⟩
  unfold mHeard at gd
  cases q : fb r hv with
  | bad => rw [q] at gd; exact gd.elim
  | val w h1 => rw [q] at gd; exact gd
  | exc c d h1 =>
    rw [q] at gd
    cases d with
    | none => exact gd.elim
    | some j =>
      dsimp only at gd
      intro qs H' e st vw' dv
      obtain ⟨dd, ej, rfl⟩ := dv
      cases ex : exm c with
      | none => rw [ex] at gd; exact gd.elim
      | some b =>
        rw [ex] at gd
        cases b with
        | false => exact gd.elim
        | true =>
          dsimp only at gd
          cases z : su j [none, none] h1 with
          | nx _ _ => rw [z] at gd; exact gd.elim
          | bk _ _ => rw [z] at gd; exact gd.elim
          | ct _ _ => rw [z] at gd; exact gd.elim
          | exc _ _ _ _ => rw [z] at gd; exact gd.elim
          | bad => rw [z] at gd; exact gd.elim
          | rt w h2 =>
            rw [z] at gd
            refine ⟨true, hexm _ _ ex, fun _ D s2 a hD hl ha => ⟨hokc _ ex, j, dd, rfl, qs, [none, none].set 1 (some (.fix a)), h1, ?_, vw'.known ej, ?_⟩, fun z => by cases z⟩
            · have e0 : ES qs [none, none] s2 := ⟨by rw [hl]; rfl, fun i w e => by
                match i, e with
                | 0, e => cases e
                | 1, e => cases e
                | i + 2, e => simp at e⟩
              exact e0.set 1 rfl
            · rw [hind a j [none, none] h1 _ _ (by decide) z]
              intro rs H2 v st2 vw2 wv
              rw [hD]
              exact gd rs H2 v (st.trans st2) vw2.less wv
/-- heard(lambda: e) -/
theorem se_heard {k : Nat} {x a n e : Str} {g c P : Addr} {pg : Arguments} {sg : Scope} {dV kV doc pm cdv ct oc : Value} {an od : Option Addr} {osl : Array (Option Value)} {b0 : Stmt} {suite : List Stmt} {p1 p2 p3 p4 p7 p8 : Pos}
    {params : Arguments} {body : Expr} {scope : Scope} {fb : Ws → Hv → Res W} {p lpos pos : Pos}
    (hexm : ∀ v b, exm v = some b → PySem.W.exmOne X.K (T.cv v) cx = some b) (hokc : ∀ v, exm v = some true → okc (T.cv v)) (hind : ∀ a j r h w h2, 1 < r.length → su j r h = .rt w h2 → sM a j (r.set 1 (some (.fix a))) h = .rt w h2)
    (hm : X.mg x = some (.ref g)) (hk : PySem.W.keepIn X.K (.ref g) = true)
    (lk : X.K.lookup g = some ⟨oc, od, .func (PySem.W.fnOf x x pg [.Try [.Return (some (.Call (.Name a p1) [] [] p2)) p3] [.ExceptHandler (some (.Name e p4)) (some n) (b0 :: suite) p7] [] [] p8] sg dV kV doc pm an cdv ct), osl⟩) (hcg : PySem.W.codeIn X.K cdv x = true)
    (hb : L2.Binds X.K (PySem.W.fnOf x x pg [.Try [.Return (some (.Call (.Name a p1) [] [] p2)) p3] [.ExceptHandler (some (.Name e p4)) (some n) (b0 :: suite) p7] [] [] p8] sg dV kV doc pm an cdv ct) [a] []) (Sg : FnScope [a, n] [a] sg) (hva : Vis sg a)
    (hc : ∀ s H, Names (hCx X [a, n] x sg g cdv s H) e cx)
    (hsu : ∀ (s : Shared) (H : Hp) (ad : Addr) (oe : Obj) (cls : Value) (dd : Addr) (pn : List (Addr × Obj)) (j : Nat), okc cls → Zc cls (some dd) oe → (∃ vs, oe.data = .fields vs) → SSs (T.known j dd) ((hCx X [a, n] x sg g cdv s H).suite ad ((ad, oe) :: pn)) (b0 :: suite) (sM ad j))
    (hkn : sg.names.lookup n = some .local)
    (TB : LamX.TabB X.base X.mg c P) (hcode : X.env.code = .ref c) (hmT : (P, X.env.qual ++ "<lambda>") ∈ T.tb) (hu : ∀ p ∈ T.tb, p.1 = P → p.2 = X.env.qual ++ "<lambda>") (hr : Room (k + 2) X.A) (L : LamX.LamS X.env.scope scope) (hdef : defaultsOf params X.env = ([], [])) (hbind : ∀ (q : Str) (cl : List (Str × Addr)) (pm cv ctv : Value), bindArgs (PySem.W.kla_fn "<lambda>" q params body scope cl pm cv ctv) ⟨[], []⟩ = pure [])
    (hbody : ∀ (A : Around) (outer : List Env) (s : Shared) (H : Hp) (E : XK) (f c' : Addr), Room k (A.deeper (LamX.lamEnv X scope s.heap.objs.size f c')) → SE T (LamX.lamCx X A outer s H E scope f c') body fb)
    (hg : Gl X x := by rfl) (hdb : (x == ("__debug__" : Str)) = false := by decide) (hd : (a == ("__debug__" : Str)) = false := by decide) (hcd : (a == ("__classdict__" : Str)) = false := by decide) :
    SE T X (.Call (.Name x p) [.Lambda params body scope lpos] [] pos) (mHeard exm su fb) := fun E cn => by
  refine PEi (LamX.pe_lamcall (T := T.tb) (TT := TTh X.K T cx okc sM) (t := fun E' => tE T (fun c d _ H' => E' c d H') fb) hg hm hk lk hcg hb Sg rfl hva (heard_gives Sg.nd hc hsu hkn) TB hcode hmT hu hr L hdef hbind
    (fun A outer s H E' f c' hr' => hbody A outer s H E' f c' hr' _ ⟨takes_of rfl rfl rfl rfl, passes_of rfl⟩) hdb hd hcd) fun s H Q h => heard_read hexm hokc hind h
end
end VL
end
section
namespace VL
open PySem L2 PySem.Spec PyProof.Rows

/-! ### the end of a law -/
section
variable {P : Program} {w : World} {K : PySem.W.Frag} {mg mb : Str → Option Value} {k : Nat} {fa a : Addr} {cs : List (Addr × Addr)} {s1 : Shared} {vs : List Value} {ns : List Int} {T : Tx} {m : MFn}
theorem mem_lookup2 {l : List (Addr × Obj)} {b : Addr} {o : Obj} (h : l.lookup b = some o) : (b, o) ∈ l := by
  induction l with
  | nil => cases h
  | cons p r ih =>
    obtain ⟨c, u⟩ := p
    rw [List.lookup_cons] at h
    by_cases e : b = c
    · subst e
      simp at h
      rw [h]
      exact List.mem_cons_self
    · have e2 : (b == c) = false := by simpa using e
      rw [e2] at h
      exact .tail _ (ih h)
theorem paired_ints {ps : Pl} : ∀ l : List Int, Paired (WV ps) (l.map W.int) (l.map V.int)
  | [] => .nil
  | _ :: r => .cons rfl (paired_ints r)
/-- the abstract heap at the law's entry: the script, and the tables of code objects -/
def entryH (a : Addr) (o : Obj) (xs : List V) (ts : List Addr) : Hp := fun b => if b = a then some (.frz o (.lst xs)) else if b ∈ ts then some (.tbl #[]) else none
theorem entry_a {o : Obj} {xs : List V} {ts : List Addr} : entryH a o xs ts a = some (.frz o (.lst xs)) := if_pos rfl
theorem entry_t {o : Obj} {xs : List V} {ts : List Addr} {b : Addr} (hb : b ∈ ts) (hn : b ≠ a) : entryH a o xs ts b = some (.tbl #[]) := (if_neg hn).trans (if_pos hb)
theorem entry_n {o : Obj} {xs : List V} {ts : List Addr} {b : Addr} (hb : b ∉ ts) (hn : b ≠ a) : entryH a o xs ts b = none := (if_neg hn).trans (if_neg hb)
theorem entry_some {o : Obj} {xs : List V} {ts : List Addr} {b : Addr} {u : HO} (h : entryH a o xs ts b = some u) : (b = a ∧ u = .frz o (.lst xs)) ∨ (b ≠ a ∧ b ∈ ts ∧ u = .tbl #[]) := by
  by_cases hb : b = a
  · left
    subst hb
    rw [entry_a] at h
    exact ⟨rfl, (Option.some.inj h).symm⟩
  · right
    by_cases ht : b ∈ ts
    · rw [entry_t ht hb] at h
      exact ⟨hb, ht, (Option.some.inj h).symm⟩
    · rw [entry_n ht hb] at h
      cases h
abbrev scrO (vs : List Value) : Obj := { cls := .type "list", data := .seq vs.toArray }
abbrev tabO : Obj := { cls := .none, data := .fields #[] }
theorem law_callV (KX : K.In s1.heap) (gl : s1.heap.Ns mainGlobals mg) (bl : s1.heap.Ns builtinsNs mb) (blb : ∀ x : Str, x ≠ "__name__" → mb x = bootBuiltins x) (lim : s1.heap.NoLimit) (hgens : s1.gens = #[])
    (tabs : ∀ p ∈ cs, s1.heap.get? p.2 = some tabO) (noK : ∀ p ∈ cs, K.lookup p.2 = none) (heads : ∀ p ∈ cs, PySem.W.CodeHd s1.heap p.1 p.2)
    (bmod : ∃ (bm : Addr) (ob : Obj), mg "__builtins__" = some (.ref bm) ∧ bm ≠ builtinsNs ∧ s1.heap.get? bm = some ob ∧ ob.cls = .type "module" ∧ ob.dict = some builtinsNs ∧ ob.data = .plain)
    (scr : s1.heap.get? a = some (scrO vs)) (nis : IntsAre vs ns) (len : ns.length ≤ sizeLine) (room : Room k callerA) (Kl : K.all (fun p => !(p.2.cls == .type "list")) = true)
    (inT : ∀ p ∈ T.tb, p.1 ∈ cs.map (·.2)) (fact : T.C [a]) (F : ∀ base : Heap, K.In base → base.Ns mainGlobals mg → (∀ p ∈ cs, LamX.TabB base mg p.1 p.2) → FnG P w K mg base T k fa 1 m)
    (mir : ∃ h', m [.ref 0] [.rol (ns.map W.int)] = .val (.bl true) h') :
    codeAny (model P w) callerA (.call (.ref fa) ⟨[.ref a], []⟩) (fun r s' => r = .ok (.ret (.bool true)) ∧ OldK s1.heap s'.heap ∧ s'.os = s1.os ∧ AllBare s'.gens) s1 := by
  have rel := vals_ints nis
  have tabAt : ∀ b ∈ cs.map (·.2), s1.heap.get? b = some tabO := fun b hb => by
    obtain ⟨p, hp, rfl⟩ := List.mem_map.mp hb
    exact tabs p hp
  have neT : ∀ b ∈ cs.map (·.2), b ≠ a := fun b hb z => by
    have q := tabAt b hb
    rw [z, scr] at q
    have q2 := congrArg Obj.data (Option.some.inj q)
    cases q2
  have noKa : K.lookup a = none := by
    cases e : K.lookup a with
    | none => rfl
    | some o =>
      have q := KX a o e
      rw [scr] at q
      have mem := mem_lookup2 e
      have z := List.all_eq_true.mp Kl _ mem
      have c : o.cls = .type "list" := by rw [← Option.some.inj q]
      simp [c] at z
  let H : Hp := entryH a (scrO vs) (ns.map V.int) (cs.map (·.2))
  have hok : HOk P w H s1.heap := fun b u e => by
    rcases entry_some e with ⟨rfl, rfl⟩ | ⟨_, ht, rfl⟩
    · exact ⟨scr, by rw [List.length_map]; exact len, vs, _, rel, scr⟩
    · exact tabAt b ht
  -- what is not the script and no table is not tracked
  have free : ∀ {b : Addr} {o : Obj}, s1.heap.get? b = some o → (∀ z n, o.data ≠ .seq z n) → o.data ≠ .fields #[] → H b = none := fun {b o} e n1 n2 => by
    by_cases hb : b = a
    · subst hb
      rw [scr] at e
      cases e
      exact absurd rfl (n1 vs.toArray _)
    · by_cases ht : b ∈ cs.map (·.2)
      · rw [tabAt b ht] at e
        cases e
        exact absurd rfl n2
      · exact entry_n ht hb
  have nsFree : ∀ {b : Addr} {f : Str → Option Value}, s1.heap.Ns b f → (hidT s1.heap H).Ns b f := fun {b f} ⟨o, es, ep, e, d, r⟩ => by
    refine ⟨o, es, ep, hidT_get e (free e (fun z n q => ?_) fun q => ?_), d, r⟩
    · rw [d] at q; cases q
    · rw [d] at q; cases q
  have KB : K.In (hidT s1.heap H) := fun b o e => by
    have nb : b ≠ a := fun z => by rw [z, noKa] at e; cases e
    have nt : b ∉ cs.map (·.2) := fun z => by
      obtain ⟨p, hp, rfl⟩ := List.mem_map.mp z
      rw [noK p hp] at e; cases e
    exact hidT_get (KX b o e) (entry_n nt nb)
  have MD : L2.Mod K mg (hidT s1.heap H) := by
    obtain ⟨mc, l1, l2⟩ := lim
    exact ⟨KB, nsFree gl, ⟨mb, nsFree bl, blb⟩, mc, nsFree l1, l2⟩
  have TB : ∀ p ∈ cs, LamX.TabB (hidT s1.heap H) mg p.1 p.2 := fun p hp => by
    obtain ⟨og, eg, epg, hg0, dg, rg⟩ := id gl
    have tp := tabs p hp
    refine ⟨?_, ?_, fun z => ?_⟩
    · obtain ⟨o, us, file, tf, flags, tg, inF, text, tt, e1, q1, q2, q3, q4, q5, q6, q7, q8, hne⟩ := heads p hp
      refine ⟨o, us, file, tf, flags, tg, inF, text, tt, hidT_get e1 (free e1 (fun z n q => ?_) fun q => ?_), q1, q2, q3, q4, q5, q6, q7, q8, hne⟩
      · rw [q2] at q; cases q
      · rw [q2] at q; cases q; simp at q3
    · obtain ⟨bm, ob, e1, e2, e3, e4, e5, e6⟩ := bmod
      refine ⟨bm, ob, e1, e2, fun z => ?_, fun z => ?_, hidT_get e3 (free e3 (fun z n q => ?_) fun q => ?_), e4, e5, e6⟩
      · rw [z, hg0] at e3; cases e3; rw [dg] at e6; cases e6
      · rw [z, tp] at e3; cases e3; cases e6
      · rw [e6] at q; cases q
      · rw [e6] at q; cases q
    · rw [z, tp] at hg0; cases hg0; cases dg
  have E0 : Env0 P w K mg (hidT s1.heap H) callerA [] s1 H := ⟨rfl, MD, fun b o e => of_hidT e, Nat.le_of_eq (hidT_size _ _), trivial, (fun b hb => by cases hb), hok, .of_eq hgens⟩
  -- the view at the entry
  have view : View T (Pl.of [a]) [.rol (ns.map W.int)] H := by
    refine ⟨rfl, (show ([a] : List Addr).Nodup by simp), fun i b o e1 e2 => ?_, fun p hp => ?_, fact, fun _ _ z => z.elim⟩
    · have e1' : ([a] : List Addr)[i]? = some b := e1
      match i, e1', e2 with
      | 0, e1', e2 =>
        cases e1'; cases e2
        refine ⟨ns.map V.int, scrO vs, ?_, entry_a⟩
        exact paired_ints ns
      | i + 1, e1', e2 => simp at e1'
    · exact LamX.TabS.nil (entry_t (inT p hp) (neT _ (inT p hp)))
  obtain ⟨h', em⟩ := mir
  have prom : spV T 1 m [.ref a] H (fun v _ => v = .bl true) (fun _ _ _ => False) := ⟨rfl, Pl.of [a], _, [.ref 0], view, .cons ⟨a, rfl, rfl⟩ .nil, by
    rw [em]
    exact fun qs H' v _ _ wv => wv⟩
  refine codeAny_mono ((F _ KB (nsFree gl) TB).run callerA [] s1 H [.ref a] [.ref a] _ _ room rfl E0 (.cons rfl .nil) prom) fun fin s' hq => ?_
  match fin, hq with
  | .error e, hq =>
    obtain ⟨_, _, _, _, _, _, _, _, _, _, _, _, z⟩ := hq
    exact z.elim
  | .ok .next, hq => exact hq.elim
  | .ok .brk, hq => exact hq.elim
  | .ok .cont, hq => exact hq.elim
  | .ok (.ret u), hq =>
    obtain ⟨v, H2, e1, e2, un, hok2, rv, q⟩ := hq
    cases q
    cases rv
    have kept : ∀ b o, b ∉ cs.map (·.2) → s1.heap.get? b = some o → s'.heap.get? b = some o := fun b o nt e => by
      by_cases hb : b = a
      · subst hb
        have z2 := hok2 b _ (un.frzs b _ _ entry_a)
        rw [scr] at e
        cases e
        exact z2.1
      · exact un.keep b o e (entry_n nt hb) (fun z => by cases z) (fun z => by cases z)
    have grown : ∀ c ∈ cs, ∃ ys : Array Value, s'.heap.get? c.2 = some { cls := .none, data := .fields ys } := fun c hc => by
      have mc : c.2 ∈ cs.map (·.2) := List.mem_map.mpr ⟨c, hc, rfl⟩
      obtain ⟨ys, z⟩ := un.tbls c.2 #[] (entry_t mc (neT _ mc))
      exact ⟨_, hok2 c.2 _ z⟩
    have part : ∀ b, (∃ c, c ∈ cs ∧ c.2 = b) ∨ b ∉ cs.map (·.2) := fun b => (Classical.em (b ∈ cs.map (·.2))).imp List.mem_map.mp id
    refine ⟨rfl, ⟨fun b o e => ?_, fun b o e => ?_⟩, e1, e2⟩
    · rcases part b with ⟨c, hc, rfl⟩ | nb
      · obtain ⟨ys, hy⟩ := grown c hc
        rw [tabs c hc] at e; cases e
        exact .inr (.inl ⟨((heads c hc).tab (tabs c hc)).isCodeTable, rfl, #[], ys, rfl, by rw [Array.empty_append]; exact hy⟩)
      · exact .inl (kept b o nb e)
    · rcases part b with ⟨c, hc, rfl⟩ | nb
      · obtain ⟨ys, hy⟩ := grown c hc; exact ⟨_, hy⟩
      · exact ⟨o, kept b o nb e⟩
end
end VL
end
section
namespace VL
open PySem L2 PySem.Spec PyProof.Rows

/-! ### {} -/
section
variable {T : Tx} {X : Cx} {pos : Pos}
theorem se_dict0 : SE T X (.Dict [] [] pos) (fun _ h => mNew (.dic []) h) := fun E cn => PEi pe_dnewK fun s H Q ⟨ps, r, h, es, vw, gd⟩ p hp => good_new vw gd (fun H' p' e => ⟨[], .nil, e⟩) hp
/-! ### repr, {} too -/
def mReprE : MFn := fun ws h => match ws with
  | [.ref p] => (match h[p]? with
    | some (.dic []) => .val (.str ("{}" : Str)) h
    | _ => mRepr ws h)
  | _ => mRepr ws h
def rReprE (K : PySem.W.Frag) : List V → Hp → VK → Prop := fun xs H Q => (∃ a, xs = [.ref a] ∧ H a = some (.dK []) ∧ Q (.str ("{}" : Str)) H) ∨ rRepr K xs H Q
theorem rc_reprE : RC T (rReprE X.K) mReprE := by
  intro ps h H ws vs Q E vw wv gd
  unfold mReprE at gd
  split at gd
  · split at gd
    · rename_i e1
      obtain ⟨v, rfl, a, ea, rfl⟩ := one_of wv
      obtain ⟨kv, rr, eH⟩ := vw.ob _ a _ ea e1
      cases rr
      exact .inl ⟨a, rfl, eH, Good.now gd vw rfl⟩
    · exact .inr (rc_repr ps h H _ vs Q E vw wv gd)
  · exact .inr (rc_repr ps h H _ vs Q E vw wv gd)
theorem call_reprE (hg : X.A.guards = some []) (hu : X.A.units + 64 < cLine) : CallR X (.builtin "repr") (rReprE X.K) := by
  intro pins s σ H xs us Q I r h; rcases h with ⟨a, rfl, ea, q⟩ | h
  · obtain ⟨u, rfl, ru⟩ := vals1 r
    cases ru
    have hob : ObjOk X.prog X.w H s.heap a (.dK []) := I.hok a _ ea
    obtain ⟨_, hsm, kv, rkv, o, es, ep, h1, h2, h3, h4, h5, _⟩ := hob
    cases rkv
    have e0 : es.toList = [] := by
      cases q : es.toList with
      | nil => rfl
      | cons a b => rw [q] at h5; cases h5
    have rd : Reads s.heap (.ref a) (.dict []) ([a] ++ [] ++ []) := .dict (kvs := []) h1 h2.1 h3 (by rw [e0]; exact .nil) (by rw [e0]; exact .nil)
    have ns : sysModules ∉ ([a] ++ [] ++ [] : List Addr) := by
      have z : ¬ a = sysModules := by simpa using hsm
      simpa using fun q => z q.symm
    have sh : (PyData.dict []).shown = ("{}" : Str) := by decide +kernel
    have dp : (PyData.dict []).depth ≤ 60 := by decide +kernel
    have un : X.A.units + ((PyData.dict []).depth + 1) < cLine := by omega
    refine repr_of_reads' rd (by decide +kernel) (fun _ => ns) hg un (fun _ _ e => e) (fun h' u tk hk => ?_) (by rw [sh]; decide)
    rw [sh]
    exact ⟨.str _, H, I.kept hk, ⟨_, rfl⟩, q⟩
  · exact call_reprD hg hu pins s σ H xs us Q I r h
end

/-! ### a suite that returns an expression -/
theorem hind_ret {i : Nat} {fA : Addr → Nat → Ws → Hv → Res W} {f : Nat → Ws → Hv → Res W} (hf : ∀ a j r h, i < r.length → fA a j (r.set i (some (.fix a))) h = f j r h) (a : Addr) (j : Nat) (r : Ws) (h : Hv) (w : W) (h2 : Hv) (hl : i < r.length)
    (e : mRet (f j) r h = .rt w h2) : mRet (fA a j) (r.set i (some (.fix a))) h = .rt w h2 := by
  unfold mRet at e ⊢
  rw [hf a j r h hl]
  cases q : f j r h with
  | val w1 h1 => rw [q] at e; exact e
  | exc c d h1 => rw [q] at e; cases e
  | bad => rw [q] at e; cases e
theorem mXfA_at {i : Nat} {a : Addr} {j : Nat} {f : Str} {r : Ws} {h : Hv} (hl : i < r.length) : mXfA i a j f (r.set i (some (.fix a))) h = mXf j f r h := by
  unfold mXfA
  rw [List.getElem?_set_self hl]
  simp [mXf]
/-- the errors of these classes are taken -/
def exmC (cs : List String) : String → Option Bool := fun n => if cs.contains n then some true else none
theorem exmC_ok {K : PySem.W.Frag} {T : Tx} {n : String} {v : Value} (h : PySem.W.exmOne K (T.cv n) v = some true) : ∀ m b, exmC [n] m = some b → PySem.W.exmOne K (T.cv m) v = some b := fun m b e => by
  unfold exmC at e
  split at e
  · rename_i z
    have z2 : m = n := by simpa using z
    subst z2
    cases e
    exact h
  · cases e
theorem exmC_c {n m : String} (e : exmC [n] m = some true) : m = n := by
  unfold exmC at e
  split at e
  · rename_i z
    simpa using z
  · cases e
/-! ### a call that needs nothing of the view, and hands back a plain value -/
mutual
def plainW : W → Bool
  | .ref _ => false
  | .tup xs => plainWs xs
  | _ => true
def plainWs : List W → Bool
  | [] => true
  | x :: xs => plainW x && plainWs xs
end
theorem plainWs_all : ∀ xs : List W, plainWs xs = xs.all plainW
  | [] => rfl
  | x :: xs => by simp only [plainWs, List.all_cons, plainWs_all xs]
def mFresh (m : MFn) : Ws → Hv → Res W := fun _ h => match m [] [] with
  | .val w _ => if plainW w then .val w h else .bad
  | _ => .bad
mutual
theorem plainW_any {ps qs : Pl} (ht : ∀ a vs, ps.tu a vs → qs.tu a vs) : ∀ {w : W} {v : V}, plainW w = true → WV ps w v → WV qs w v
  | .ref i, _, hp, _ => by cases hp
  | .non, _, _, h => h
  | .bl b, _, _, h => h
  | .int b, _, _, h => h
  | .str b, _, _, h => h
  | .fix b, _, _, h => h
  | .ty b, _, _, h => h
  | .tup xs, _, hp, ⟨a, vs, e1, e2, e3⟩ => ⟨a, vs, e1, ht _ _ e2, plainWs_any ht (by unfold plainW at hp; exact hp) e3⟩
theorem plainWs_any {ps qs : Pl} (ht : ∀ a vs, ps.tu a vs → qs.tu a vs) : ∀ {ws : List W} {vs : List V}, plainWs ws = true → WVL ps ws vs → WVL qs ws vs
  | [], _, _, h => h
  | w :: ws, _, hp, ⟨v, us, e1, e2, e3⟩ => by
    unfold plainWs at hp
    rw [Bool.and_eq_true] at hp
    exact ⟨v, us, e1, plainW_any ht hp.1 e2, plainWs_any ht hp.2 e3⟩
end
theorem View.nil {T : Tx} {ps : Pl} {h : Hv} {H : Hp} (v : View T ps h H) (hC : T.C []) : View T (ps.off []) [] H := ⟨rfl, List.nodup_nil, fun i a o e _ => by
  have e' : ([] : List Addr)[i]? = some a := e
  simp at e', v.tab, hC, v.tup⟩
theorem View.over {T : Tx} {ps qs : Pl} {h h' : Hv} {H H1 : Hp} (v : View T ps h H) (s : Step (ps.off []) H qs H1) (v1 : View T qs h' H1) : View T (qs.off ps.l) h H1 ∧ Step ps H (qs.off ps.l) H1 := by
  have keep : ∀ a o, H a = some o → (∀ z, o ≠ .tbl z) → H1 a = some o := fun a o e ht => s.fr a o e ht (fun z => by
    have z' : a ∈ ([] : List Addr) := z
    simp at z')
  have le : Pl.Le ps (qs.off ps.l) := ⟨List.prefix_refl _, s.pre.2⟩
  refine ⟨⟨v.len, v.nd, fun i a o e1 e2 => ?_, v1.tab, v.fact, v1.tup⟩, ⟨le, fun _ _ h n _ => absurd h n, fun a o e ht _ => keep a o e ht⟩⟩
  have q := v.ob i a o e1 e2
  obtain ⟨u, hu, ht⟩ := q.there
  exact (q.put fun u' hu' => by
    rw [hu] at hu'
    cases hu'
    exact keep a u hu ht).mono le
section
variable {T : Tx} {X : Cx} {f : Addr} {m : MFn} {x : Str} {p pos : Pos}
theorem se_fresh (C : Can T X f 0 m) (hC : T.C []) (hg : Gl X x) (hm : X.mg x = some (.ref f)) (hk : PySem.W.keepIn X.K (.ref f) = true) (hdb : (x == ("__debug__" : Str)) = false := by decide) : SE T X (.Call (.Name x p) [] [] pos) (mFresh m) := fun E cn => ⟨fun pins s σ H Q I h => by
  refine wpAny_Call_Name_kw (ld_glob (X := X) I hg hm ?_ hdb)
  obtain ⟨ps, r, hv, es, vw, gd⟩ := h
  refine PySem.W.callWith_K0 I.kIn hk (C.wp (us := []) cn I .nil ⟨rfl, _, [], [], vw.nil hC, .nil, ?_⟩)
  unfold mFresh at gd
  cases q : m [] [] with
  | bad => rw [q] at gd; exact gd.elim
  | exc c d h1 => rw [q] at gd; exact gd.elim
  | val w h1 =>
    rw [q] at gd
    dsimp only at gd
    split at gd
    · rename_i hp
      intro qs H' v st vw' wv
      obtain ⟨v2, s2⟩ := vw.over st vw'
      exact gd _ H' v s2 v2 (plainW_any (ps := qs) (qs := qs.off ps.l) (fun _ _ z => z) hp wv)
    · exact gd.elim⟩
end

/-! ### the walk -/
/-- what is known of the law at the head's heap h -/
def LawV (l : PySem.W.OpenLaw) (w : World) (K : PySem.W.Frag) (k n : Nat) (mg : Str → Option Value) (fa : Addr) (h : Heap) : Prop :=
  ∃ (cs : List (Addr × Addr)) (T : Tx) (m : MFn), (∀ p ∈ cs, h.get? p.2 = some tabO) ∧ (∀ p ∈ cs, K.lookup p.2 = none) ∧ (∀ p ∈ cs, PySem.W.CodeHd h p.1 p.2) ∧ K.all (fun p => !(p.2.cls == .type "list")) = true ∧ (∀ p ∈ T.tb, p.1 ∈ cs.map (·.2)) ∧ (∀ a, T.C [a]) ∧
    (∀ base : Heap, K.In base → base.Ns mainGlobals mg → (∀ p ∈ cs, LamX.TabB base mg p.1 p.2) → FnG l.prog w K mg base T k fa 1 m) ∧
    ∀ ns : List Int, ns.length ≤ n → (∀ z ∈ ns, Builtin.Int.intBits z ≤ 1048576) → ∃ h', m [.ref 0] [.rol (ns.map W.int)] = .val (.bl true) h'
theorem walk_V {l : PySem.W.OpenLaw} {n k : Nat} {q : Program} {loose : List Str} {XP : (Str → Option Value) → Heap → Prop} {YP : World → Heap → Prop} {d : DefRec} {K : Params → PySem.W.Frag} (hn : l.most = some n) (hn2 : n ≤ sizeLine) (hdf : d.params.defaults = []) (hr : Room k callerA)
    (hY : ∀ (w : World) (h : Heap), YP w h → (K w.params).In h) (F : ∀ (w : World) (mg : Str → Option Value) (fa : Addr) (h : Heap), YP w h → (K w.params).In h → h.Ns mainGlobals mg → mg d.name = some (.ref fa) → LawV l w (K w.params) k n mg fa h) :
    PySem.W.WalkO q loose XP YP l.row.toRowW d [] (fun f vs => PySem.call f vs) := Att.attach_callB hn hdf fun w s0 s1 mg mb fa o pm cd doc a vs ns G Y ho hd hcd hmg hobj hints hlen hbits hg => by
  have KX := hY w _ Y
  obtain ⟨cs, T, m, h1, h2, h3, h4, h5, h6, h7, h8⟩ := F w mg fa _ Y KX G.T.g hmg
  exact law_callV KX G.T.g G.T.b G.T.builtins G.T.nolimit hg h1 h2 h3 G.T.bmain hobj hints (Nat.le_trans hlen hn2) hr h4 h5 (h6 a) h7 (h8 ns hlen hbits)
end VL
end
section
namespace VL
open PySem L2
/-! ### the mirrors' operations on known values -/
section
variable {i j : Int} {h : Hv}
@[simp] theorem mAdd_int : mAdd (.int i) (.int j) h = .val (.int (i + j)) h := rfl
@[simp] theorem mSub_int : mSub (.int i) (.int j) h = .val (.int (i - j)) h := rfl
theorem mMul_int (hb : i.natAbs.log2 + j.natAbs.log2 < 1000000) : mMul (.int i) (.int j) h = .val (.int (i * j)) h := by
  simp [mMul, mulB, hb]
theorem mDiv_int (h1 : j ≠ 0) (h2 : j.natAbs.log2 < 9000) : mDiv (.int i) (.int j) h = .val (.int (i.fdiv j)) h := by
  simp [mDiv, mI, divB, h1, h2]
theorem mMod_int (h1 : j ≠ 0) : mMod (.int i) (.int j) h = .val (.int (i.fmod j)) h := by
  simp [mMod, mI, h1]
theorem mPow_int (h1 : 0 ≤ j) (h2 : j ≤ 1000000) (h3 : i.natAbs < 2 ^ 64) : mPow (.int i) (.int j) h = .val (.int (i ^ j.toNat)) h := by
  have e : powB i j = true := by
    simp only [powB, Bool.and_eq_true, decide_eq_true_eq]
    exact ⟨h1, h2, h3⟩
  simp [mPow, mI, e]
@[simp] theorem mLt_int : mLt (.int i) (.int j) h = .val (.bl (decide (i < j))) h := rfl
@[simp] theorem mLe_int : mLe (.int i) (.int j) h = .val (.bl (decide (i ≤ j))) h := rfl
@[simp] theorem mGt_int : mGt (.int i) (.int j) h = .val (.bl (decide (j < i))) h := rfl
@[simp] theorem mGe_int : mGe (.int i) (.int j) h = .val (.bl (decide (j ≤ i))) h := rfl
@[simp] theorem mNeg_int : mNeg (.int i) h = .val (.int (-i)) h := rfl
@[simp] theorem mAbs_int : mAbs [.int i] h = .val (.int (i.natAbs : Int)) h := by
  have e : (if i < 0 then -i else i) = (i.natAbs : Int) := by split <;> omega
  simp [mAbs, e]
@[simp] theorem mMax_int : mMax [.int i, .int j] h = .val (.int (max i j)) h := by
  have e : (if j > i then j else i) = max i j := by split <;> omega
  simp [mMax, e]
@[simp] theorem mInt_int : mInt [.int i] h = .val (.int i) h := rfl
@[simp] theorem mInt_bl {b : Bool} : mInt [.bl b] h = .val (.int (if b then 1 else 0)) h := rfl
theorem shaped_int (i : Int) : SeqAt.shaped (.int i) = true := by
  simp [SeqAt.shaped, PyData.canLay0, PyData.depth]
theorem shaped_bool (b : Bool) : SeqAt.shaped (.bool b) = true := by
  simp [SeqAt.shaped, PyData.canLay0, PyData.depth]
@[simp] theorem mEq_int : mEq false (.int i) (.int j) h = .val (.bl (decide (i = j))) h := by
  have e1 : toD dF h (.int i) = some (.int i) := rfl
  have e2 : toD dF h (.int j) = some (.int j) := rfl
  simp [mEq, e1, e2, shaped_int, PyData.eqv, Bool.beq_eq_decide_eq]
@[simp] theorem mNe_int : mEq true (.int i) (.int j) h = .val (.bl (decide (i ≠ j))) h := by
  have e1 : toD dF h (.int i) = some (.int i) := rfl
  have e2 : toD dF h (.int j) = some (.int j) := rfl
  simp [mEq, e1, e2, shaped_int, PyData.eqv, Bool.beq_eq_decide_eq]
@[simp] theorem mNe_bl {a b : Bool} : mEq true (.bl a) (.bl b) h = .val (.bl (decide (a ≠ b))) h := by
  have e1 : toD dF h (.bl a) = some (.bool a) := rfl
  have e2 : toD dF h (.bl b) = some (.bool b) := rfl
  cases a <;> cases b <;> simp [mEq, e1, e2, shaped_bool, PyData.eqv]
end
/-! ### and of the pieces -/
section
variable {α β : Type} {a : α} {h : Hv} {k : α → Hv → Res β} {ks : α → Hv → ResS} {r : Ws} {c : String} {d : Option Nat}
@[simp] theorem bind_val : (Res.val a h).bind k = k a h := rfl
@[simp] theorem bind_exc : (Res.exc c d h : Res α).bind k = .exc c d h := rfl
@[simp] theorem andS_val : (Res.val a h).andS r ks = ks a h := rfl
@[simp] theorem andS_exc : (Res.exc c d h : Res α).andS r ks = .exc c d r h := rfl
@[simp] theorem asB_bl {b : Bool} : asB (.bl b) h = .val b h := rfl
@[simp] theorem mC_eq {w : W} : mC w r h = .val w h := rfl
@[simp] theorem mNil_eq : mNil r h = .val [] h := rfl
@[simp] theorem mNext_eq : mNext r h = .nx r h := rfl
@[simp] theorem m2_eq {g : MOp} {fa fb : Ws → Hv → Res W} : m2 g fa fb r h = (fa r h).bind fun x h1 => (fb r h1).bind fun y h2 => g x y h2 := rfl
@[simp] theorem m1_eq {g : W → Hv → Res W} {fa : Ws → Hv → Res W} : m1 g fa r h = (fa r h).bind g := rfl
@[simp] theorem mCons_eq {f : Ws → Hv → Res W} {g : Ws → Hv → Res (List W)} : mCons f g r h = (f r h).bind fun w h1 => (g r h1).bind fun ws h2 => .val (w :: ws) h2 := rfl
@[simp] theorem mB_eq {m : MFn} {g : Ws → Hv → Res (List W)} : mB m g r h = (g r h).bind m := rfl
@[simp] theorem mT_eq {f : Ws → Hv → Res W} : mT f r h = (f r h).bind asB := rfl
@[simp] theorem mNotT_eq {t : Ws → Hv → Res Bool} : mNotT t r h = (t r h).bind fun b h1 => .val (!b) h1 := rfl
@[simp] theorem mAndT_eq {t u : Ws → Hv → Res Bool} : mAndT t u r h = (t r h).bind fun b h1 => if b then u r h1 else .val false h1 := rfl
@[simp] theorem mOrT_eq {t u : Ws → Hv → Res Bool} : mOrT t u r h = (t r h).bind fun b h1 => if b then .val true h1 else u r h1 := rfl
@[simp] theorem mNotV_eq {f : Ws → Hv → Res W} : mNotV f r h = (mT f r h).bind fun b h1 => .val (.bl (!b)) h1 := rfl
@[simp] theorem mAndV_eq {f g : Ws → Hv → Res W} : mAndV f g r h = (mT f r h).bind fun b h1 => if b then g r h1 else .val (.bl false) h1 := rfl
@[simp] theorem mOrV_eq {f g : Ws → Hv → Res W} : mOrV f g r h = (mT f r h).bind fun b h1 => if b then .val (.bl true) h1 else g r h1 := rfl
@[simp] theorem mIf_eq {t : Ws → Hv → Res Bool} {f g : Ws → Hv → Res W} : mIf t f g r h = (t r h).bind fun b h1 => if b then f r h1 else g r h1 := rfl
@[simp] theorem mExpr_eq {f : Ws → Hv → Res W} : mExpr f r h = (f r h).andS r fun _ h1 => .nx r h1 := rfl
@[simp] theorem mRet_eq {f : Ws → Hv → Res W} : mRet f r h = (f r h).andS r fun w h1 => .rt w h1 := rfl
@[simp] theorem mSet_eq {i : Nat} {f : Ws → Hv → Res W} : mSet i f r h = (f r h).andS r fun w h1 => .nx (r.set i (some w)) h1 := rfl
@[simp] theorem mIfS_eq {t : Ws → Hv → Res Bool} {f g : MS} : mIfS t f g r h = (t r h).andS r fun b h1 => if b then f r h1 else g r h1 := rfl
@[simp] theorem mTup_eq {g : Ws → Hv → Res (List W)} : mTup g r h = (g r h).bind fun ws h1 => if ws.length ≤ 100000 then .val (.tup ws) h1 else .bad := rfl
@[simp] theorem mLst_eq {g : Ws → Hv → Res (List W)} : mLst g r h = (g r h).bind fun ws h1 => if ws.length ≤ 100000 then mNew (.lst ws) h1 else .bad := rfl
@[simp] theorem mCall_eq {n : Nat} {m : MFn} {g : Ws → Hv → Res (List W)} : mCall n m g r h = (g r h).bind fun ws h1 => if ws.length = n then m ws h1 else .bad := rfl
@[simp] theorem mNew_eq {o : O} : mNew o h = .val (.ref h.length) (h ++ [o]) := rfl
@[simp] theorem mGn_eq {i : Nat} {w : W} : mGn i w r h = .nx (r.set i (some w)) h := rfl
/-- one statement behind another -/
def thenS (x : ResS) (g : MS) : ResS := match x with
  | .nx r1 h1 => g r1 h1
  | y => y
@[simp] theorem mSeq_eq {f g : MS} : mSeq f g r h = thenS (f r h) g := rfl
@[simp] theorem thenS_nx {g : MS} : thenS (.nx r h) g = g r h := rfl
@[simp] theorem thenS_rt {g : MS} {w : W} : thenS (.rt w h) g = .rt w h := rfl
@[simp] theorem thenS_exc {g : MS} : thenS (.exc c d r h) g = .exc c d r h := rfl
/-- a def's end -/
def endS (x : ResS) : Res W := match x with
  | .rt w h1 => .val w h1
  | .nx _ h1 => .val .non h1
  | .exc c d _ h1 => .exc c d h1
  | _ => .bad
theorem mDef_eq {N : List Str} {b : MS} {ws : List W} : mDef N b ws h = endS (b (startW N ws) h) := by
  unfold mDef endS
  rfl
@[simp] theorem endS_rt {w : W} : endS (.rt w h) = .val w h := rfl
@[simp] theorem endS_nx : endS (.nx r h) = .val .non h := rfl
@[simp] theorem endS_exc : endS (.exc c d r h) = .exc c d h := rfl
end
@[simp] theorem mVar0 {w : W} {r : Ws} {h : Hv} : mVar 0 (some w :: r) h = .val w h := rfl
@[simp] theorem mVarS {i : Nat} {x : Option W} {r : Ws} {h : Hv} : mVar (i + 1) (x :: r) h = mVar i r h := rfl
/-! ### items -/
theorem mIx_tup {h : Hv} {xs : List W} {i : Int} : mIx (.tup xs) (.int i) h = ofO (atI xs i) h := rfl
@[simp] theorem ofO_some {α : Type} {a : α} {h : Hv} : ofO (some a) h = .val a h := rfl
theorem mIx_lst {p : Nat} {h : Hv} {xs : List W} {i : Int} {w : W} (e : h[p]? = some (.lst xs)) (ei : atI xs i = some w) : mIx (.ref p) (.int i) h = .val w h := by
  simp [mIx, e, ei, ofO]
@[simp] theorem atI0 {α : Type} {x : α} {xs : List α} : atI (x :: xs) 0 = some x := atI_nat (j := 0) rfl
@[simp] theorem atI1 {α : Type} {x y : α} {xs : List α} : atI (x :: y :: xs) 1 = some y := atI_nat (j := 1) rfl
theorem get_last {h : Hv} {o : O} : (h ++ [o])[h.length]? = some o := by simp
theorem get_old {h : Hv} {t : Hv} {p : Nat} {o : O} (e : h[p]? = some o) : (h ++ t)[p]? = some o := by
  rw [List.getElem?_append_left (List.getElem?_eq_some_iff.mp e).1]
  exact e
end VL
end
section
/-! ### isinstance of a caught error that bears fields -/
namespace VX
open PySem PySem.W PySem.Spec PySem.Calls PyProof.Rows
variable {prog : Program} {w : World} {A : Around} {E : Value → Shared → Prop} {s : Shared} {K : Frag} {x D : Addr} {ox : Obj} {od : Option Obj}
theorem found_cls (Z : L2.ExcC K D) : findObj K D od "__class__" = some (.bind (.builtin "getset_descriptor.__get__") (.builtin "object.__class__")) := by
  obtain ⟨cd, hc, _⟩ := any_some Z.hd
  simp only [findObj, hc, Z.ha, Z.hn, Z.ht, Option.bind_some]
theorem cls_of {Q : Option Value → Shared → Prop} (Z : L2.ExcC K D) (X : K.In s.heap) (I : W.InstAt s.heap x ox D od) (h : Q (some (.ref D)) { s with toks := s.toks + 1 }) : wpAny (model prog w) A (getAttr? (.ref x) "__class__") Q E s := by
  obtain ⟨hp, g, d, t, os⟩ := s
  have T0 := I.type (M := model prog w)
  have T1 := looks_findIn (M := model prog w) X Z.hg
  have T2 := looks_findIn (M := model prog w) X Z.hk
  have T3 := looks_find (M := model prog w) X I (found_cls (od := od) Z)
  have sb : Looks (model prog w) hp (isInstance (.ref x) (.type "BaseException")) true := T0.andThen (looks_subIn X Z.hs)
  have n0 : (false && onTheHeap (Value.builtin "BaseException.__getattribute__")) = false := rfl
  have n2 : (Value.builtin "BaseException.__getattribute__" == Value.builtin "object.__getattribute__") = false := by decide +kernel
  have n1 : (onTheHeap (Value.ref D) && Value.builtin "BaseException.__getattribute__" == Value.builtin "object.__getattribute__") = false := by rw [n2, Bool.and_false]
  unfold getAttr? getAttrBy? getAttrBy; refine wpAny_bind (wpAny_mkText (wpAny_bind (wpAny_attempt (wpAny_holding (wpAny_bind (T0.at (wpAny_bind (T1.at ?_))))))))
  show wpAny _ _ (if (onTheHeap (Value.ref D) && Value.builtin "BaseException.__getattribute__" == Value.builtin "object.__getattribute__") = true then _ else _) _ _ _; rw [n1, if_neg Bool.false_ne_true]
  unfold getAttrByItsOwn hookBefore; refine wpAny_bind ?_
  rw [if_pos (show onTheHeap (Value.ref D) = true from rfl)]; refine T2.at (wpAny_bind (wpAny_attempt (wpAny_holding ?_)))
  unfold callGetattribute; rw [n0, if_neg Bool.false_ne_true]
  unfold boundAndCalled; rw [PySem.F.excAttr_ValueError.ga.bind (.ref x)]
  refine wpAny_bind (wpAny_pure ?_); show wpAny _ _ (call (.builtin "BaseException.__getattribute__") [.ref x, .str "__class__" t]) _ _ _
  refine wpAny_call (codeAny_call_builtin PySem.F.excAttr_ValueError.ga.plain PySem.F.entry_bexc_ga ?_); refine @check_slot (model prog w) _ _ ⟨hp, g, d, t + 1, os⟩ "BaseException.__getattribute__" "BaseException" "__getattribute__" (.ref x) [.str "__class__" t] [] _ (by decide +kernel) (by decide +kernel) sb (PySem.F.args_bexc_ga (.ref x) (.str "__class__" t)) ?_
  unfold Builtin.«object.__getattribute__»; refine wpAny_bind (wpAny_of_eq (a := ((Value.ref x : Value), [Value.str "__class__" t])) (by first | rfl | (simp only [slotArgs]; rfl)) ?_)
  refine wpAny_bind (wpAny_pure (wpAny_bind (T0.at (wpAny_bind (T3.at ?_))))); show wpAny _ _ (holding [Value.builtin "object.__class__"] (call (.builtin "getset_descriptor.__get__") [.builtin "object.__class__", .ref x, .ref D]) >>= ret) _ _ _
  refine wpAny_bind (wpAny_holding (wpAny_call (class_get (s := ⟨hp, g, d, t + 1, os⟩) (ox := ox) (od := od) X I Z.hm ?_))); refine wpAny_pure ?_
  show wpAny _ _ (handedOut (.ref D)) _ _ _; rw [handedOut_of (v := .ref D) rfl]
  first | exact wpAny_pure (wpAny_pure h) | exact wpAny_pure h | exact wpAny_pure (wpAny_bind (wpAny_pure (wpAny_pure h)))
theorem kit_of (Z : L2.ExcC K D) : KitX K (.ref x) (.ref D) (fun h => ∃ od, W.InstAt h x ox D od) where
  ty := fun _ _ _ ⟨_, I⟩ => I.type
  it := fun M h X _ => by
    obtain ⟨cd, hc, _⟩ := any_some Z.hd
    unfold clsIn at hc; split at hc
    · rename_i c1 d1 cd1 sl1 ho; intro A1 Q1 E1 s1 k q; unfold isType loadHead; exact wpAny_bind (wpAny_loadPart (k _ _ (X _ _ ho)) (wpAny_pure q))
    · cases hc
  ne := fun h tp dd its n sl X htp => (W.handS_kitx_exc (x := x) (ox := ox) Z.hg Z.hk Z.hs Z.hd Z.ha Z.hn Z.ht Z.hm).ne h tp dd its n sl X htp
  ca := fun X ⟨od, I⟩ k => cls_of Z X I k
end VX
namespace VL
open PySem L2 PySem.Spec PyProof.Rows
/-- isinstance(e, c), e the caught error, its fields at dd -/
def rIsF (K : PySem.W.Frag) (D a dd : Addr) : List V → Hp → VK → Prop := fun xs H Q => ∃ (c : V) (cv : Value) (b : Bool) (fs : List (Str × V)), xs = [.ref a, c] ∧ (∀ u, RelV c u → u = cv) ∧ PySem.W.kitOne K (.ref D) cv = some b ∧ H dd = some (.xd fs) ∧ Q (.bl b) H
theorem call_isF {X : Cx} {a D dd : Addr} {oe : Obj} {pn : List (Addr × Obj)} (Z : ExcC X.K D) (hz : Zc (.ref D) (some dd) oe) (hf : ∃ vs, oe.data = .fields vs) : CallR (X.suite a ((a, oe) :: pn)) (.builtin "isinstance") (rIsF X.K D a dd) := by
  intro pins s σ H xs us Q I r h; obtain ⟨c, cv, b, fs, rfl, hcv, e, ea, q⟩ := h
  cases r with
  | cons rx rr => cases rr with
    | cons rt rr =>
      cases rr; cases rx; obtain rfl := hcv _ rt
      obtain ⟨hget, _⟩ := I.pin (a, oe) (List.mem_append_left _ List.mem_cons_self)
      obtain ⟨vs, hv⟩ := hf
      have hx : ObjOk X.prog X.w H s.heap dd (.xd fs) := I.hok dd _ ea
      obtain ⟨mA, hns, hr⟩ := hx
      obtain ⟨od, ho, hl⟩ := lookIn_ns hns; have J : PySem.W.InstAt s.heap a oe D (some od) := ⟨hget, hz.1, (by unfold PySem.W.notCls; rw [hv] <;> rfl), (by rw [hz.2]; exact ho)⟩
      exact PySem.W.kia_one (VX.kit_of (x := a) (ox := oe) Z) I.kIn ⟨_, J⟩ e (fun z => nomatch z) fun tk => ⟨.bl b, H, I.kept (t' := tk) fun _ _ z => z, rfl, q⟩
def mIsx (j : Nat) (b : Bool) : Ws → Hv → Res W := fun _ h => match h[j]? with
  | some (.xd _) => .val (.bl b) h
  | _ => .bad
def mIsxA (i : Nat) (a : Addr) (j : Nat) (b : Bool) : Ws → Hv → Res W := fun r h => match r[i]? with
  | some (some (.fix c)) => if c = a then mIsx j b r h else .bad
  | _ => .bad
section
variable {T : Tx} {X : Cx}
theorem mIsxA_at {i : Nat} {a : Addr} {j : Nat} {b : Bool} {r : Ws} {h : Hv} (hl : i < r.length) : mIsxA i a j b (r.set i (some (.fix a))) h = mIsx j b r h := by
  unfold mIsxA
  rw [List.getElem?_set_self hl]
  simp [mIsx]
theorem se_isx (i : Nat) {a dd C : Addr} {oe : Obj} {cls : Value} {pn : List (Addr × Obj)} {j : Nat} {b : Bool} {n : Str} {p pn1 pos : Pos} {ec : Expr} {c : V} {cv : Value} (Z : ExcC X.K C) (hz : Zc cls (some dd) oe) (hf : ∃ vs, oe.data = .fields vs) (hcls : cls = .ref C)
    (hgi : Gl (X.suite a ((a, oe) :: pn)) "isinstance") (hmi : X.mg "isinstance" = none) (hc : PE (X.suite a ((a, oe) :: pn)) ec (tC c)) (hcv : ∀ u, RelV c u → u = cv) (hk : PySem.W.kitOne X.K (.ref C) cv = some b)
    (hN : X.N[i]? = some n := by rfl) (hv : Vis X.env.scope n := by first | exact Or.inl rfl | exact Or.inr (Or.inl rfl) | exact Or.inr (Or.inr rfl)) (hd : (n == ("__debug__" : Str)) = false := by decide) (hcd : (n == ("__classdict__" : Str)) = false := by decide)
    (hs1 : starEach [.Name n pn1, ec] X.env = (false, eval (.Name n pn1) X.env) :: starEach [ec] X.env := by rfl) (hs2 : starEach [ec] X.env = (false, eval ec X.env) :: starEach [] X.env := by rfl) (hpl : (backTo pos (starEach [ec] X.env)).any (·.1) = false := by rfl) :
    SE (T.known j dd) (X.suite a ((a, oe) :: pn)) (.Call (.Name "isinstance" p) [.Name n pn1, ec] [] pos) (mIsxA i a j b) := fun E cn =>
  PEi (pe_callB (call_isF (pn := pn) (dd := dd) Z (hcls ▸ hz) hf) hgi hmi (by decide +kernel) (pa_cons (pe_var (X := X.suite a ((a, oe) :: pn)) (i := i) hN hv hd hcd) (pa_cons hc pa_nil hs2) hs1) (by decide) (by decide) hs1 hpl) fun s H Q ⟨ps, r, hv, es, vw, gd⟩ => by
    unfold mIsxA at gd
    split at gd
    · rename_i b2 eb
      split at gd
      · rename_i hba
        subst hba
        obtain ⟨v, e1, e2⟩ := es.2 i _ eb
        cases e2
        unfold mIsx at gd
        split at gd
        · rename_i fs ej
          have ed : ps[j]? = some dd := vw.fact.2
          obtain ⟨vs, rr, eH⟩ := vw.ob _ dd _ ed ej
          exact ⟨_, e1, c, cv, b, vs, rfl, hcv, hk, eH, Good.now gd vw rfl⟩
        · exact gd.elim
      · exact gd.elim
    · exact gd.elim
end
/-! ### xs[::-1] -/
def mRevO (w : W) (h : Hv) : Res W := match w with
  | .ref p => (match h[p]? with
    | some (.lst xs) => mNew (.lst xs.reverse) h
    | some (.rol xs) => mNew (.lst xs.reverse) h
    | _ => .bad)
  | _ => .bad
def mRev (f : Ws → Hv → Res W) : Ws → Hv → Res W := fun r h => (f r h).bind mRevO
section
variable {T : Tx} {X : Cx} {e : Expr} {f : Ws → Hv → Res W}
theorem paired_rev {ps : Pl} : ∀ {xs : List W} {ys : List V}, Paired (WV ps) xs ys → Paired (WV ps) xs.reverse ys.reverse
  | _, _, .nil => .nil
  | _, _, .cons r t => by
    simp only [List.reverse_cons]
    exact paired_app (paired_rev t) (.cons r .nil)
theorem se_rev {k : Nat} {p1 p2 p3 pos : Pos} (he : SE T X e f) : SE T X (.Subscript e (.Slice none none (some (.UnaryOp .USub (.Constant (.int 1) k p1) p2)) p3) pos) (mRev f) := fun E cn => PEi (pe_revL (he E cn)) fun s H Q ⟨ps, r, hv, es, vw, gd⟩ => by
  refine ⟨ps, r, hv, es, vw, (Good.bind (R := WV) (S := WV) gd).imp (fun v H1 q => ?_) fun _ _ _ z => z⟩
  obtain ⟨qs, w, h1, st, vw1, wv, g1⟩ := q
  unfold mRevO at g1
  split at g1
  · obtain ⟨a, ea, rfl⟩ := wv
    split at g1
    · rename_i xs e1
      obtain ⟨vs, rr, eH⟩ := vw1.ob _ a _ ea e1
      exact ⟨a, vs, rfl, SqL.of eH, fun p hp => good_new vw1 g1 (fun H' p' e => ⟨_, paired_rev rr, e⟩) hp⟩
    · rename_i xs e1
      obtain ⟨vs, ob, rr, eH⟩ := vw1.ob _ a _ ea e1
      exact ⟨a, vs, rfl, .inl (.inr ⟨ob, eH⟩), fun p hp => good_new vw1 g1 (fun H' p' e => ⟨_, paired_rev rr, e⟩) hp⟩
    · exact g1.elim
  · exact g1.elim
/-! ### str of a whole number -/
def mStrI : MFn := fun ws h => match ws with
  | [.int i] => if i.natAbs.log2 < 1920 then .val (.str (Str.ofString (toString i))) h else .bad
  | _ => .bad
theorem rc_strI : RC T (fun xs H Q => ∃ i, xs = [.int i] ∧ i.natAbs.log2 < 1920 ∧ Q (.str (toString i)) H) mStrI := by
  intro ps h H ws vs Q E vw wv gd
  unfold mStrI at gd
  split at gd
  · split at gd
    · rename_i hc
      obtain ⟨v, rfl, e⟩ := one_of wv
      cases e
      exact ⟨_, rfl, hc, Good.now gd vw rfl⟩
    · exact gd.elim
  · exact gd.elim
end
end VL
end
section
namespace VL
open PySem L2 PySem.Spec PyProof.Rows
/-! ### own error classes over any of Python's errors -/
structure OexG (K : PySem.W.Frag) (C : Addr) : Prop where
  wh : ∃ (B newId initId : String) (bmB : List Value), ExcBaseFacts B newId initId bmB ∧ StoreFacts B bmB "object.__setattr__" "object" ∧ ∃ nm q N bs bm sn sub ab col dd k0 k1 k2 k3 k5,
    K.lookup C = some (excClassObj nm q C N bs bm true sn sub ab col dd k0 k1 k2 k3 k5 newId) ∧ PySem.W.excTail bmB bm = true
  st : PySem.W.findIn K (.ref C) "__setattr__" = some (some (.builtin "object.__setattr__"))
  be : PySem.W.subIn K (.ref C) (.type "BaseException") = some true
  ty : PySem.W.typeIn K (.ref C) = some (.type "type")
  kp : PySem.W.keepIn K (Value.ref C) = true
section
open Builtin Builtin.ObjectAttr PySem.HandSPX
variable {prog : Program} {w : World} {A : Around} {R : Result → Shared → Prop} {hp : Heap} {g : Array GenState} {dr : Drawn} {t : Nat} {os : OsState} {K : PySem.W.Frag}
/-- the first field of an error -/
theorem osaG {name : Str} {tk : Tok} {v : Value} {x C : Addr} {fv : Array Value} {cd : ClassData} {B : String} {bmB : List Value} (SF : StoreFacts B bmB "object.__setattr__" "object") (X : K.In hp) (hx : hp.get? x = some { cls := .ref C, data := .fields fv })
    (hcd : PySem.W.clsIn K C = some cd) (hov : PySem.W.excOver K C bmB = true) (hd : cd.hasDict = true) (hn : PySem.W.findIn K (.ref C) name = some none)
    (hq : ∀ h2 t2 dx, (∀ b o, b ≠ x → hp.get? b = some o → h2.get? b = some o) → hp.objs.size ≤ dx → dx ≠ x → h2.get? x = some { cls := .ref C, dict := some dx, data := .fields fv } → h2.Ns1 dx (fun y => if y = name then some v else none) → R (.ok (.ret .none)) ⟨h2, g, dr, t2, os⟩) :
    codeAny (model prog w) A (.call (.builtin "object.__setattr__") ⟨[.ref x, .str name tk, v], []⟩) R ⟨hp, g, dr, t, os⟩ := by
  refine PySem.W.osa_openX SF X (od := none) (r := none) ⟨hx, rfl, rfl, trivial⟩ hov (by unfold PySem.W.takerIn; rw [hn]; rfl) fun b => ?_
  have xs : x ≠ hp.objs.size := Nat.ne_of_lt (Heap.lt_size hx)
  have lc : PySem.W.Looks (model prog w) hp (classData C) cd := PySem.W.looks_clsIn X hcd
  obtain ⟨nm, bs, mro, ns, qn, hd', sn, sb, ab, col, del⟩ := cd
  obtain rfl : hd' = true := hd
  dsimp only; unfold storeInOwnDict ownDictForStores
  repeat (first | with_reducible refine store_in_new ?_ ?_ | with_reducible refine wpAny_loadPart_at hx ?_ | with_reducible refine lc.at ?_ | wp_step)
  · exact ⟨_, #[], _, (Heap.get?_update_ne _ _ _ _ xs.symm).trans (Heap.get?_push_at rfl rfl), rfl, fun e he => absurd he (by simp), fun _ => rfl⟩
  · intro h2 t2 n2 sb2
    have px : (hp.push { cls := .type "dict", data := .dict #[] }).get? x = some { cls := .ref C, data := .fields fv } := Heap.get?_push_of_some _ hx
    exact hq h2 t2 hp.objs.size (fun b o nb ob => (sb2.2 b (Nat.ne_of_lt (Heap.lt_size ob))).trans ((Heap.get?_update_ne _ _ _ _ nb).trans (Heap.get?_push_of_some _ ob))) (Nat.le_refl _) xs.symm ((sb2.2 x xs).trans (Heap.get?_update_self _ px rfl)) n2
end
section
variable {X : Cx} {pins : List (Addr × Obj)} {z : L2.St} {H : Hp} {s : Shared} {a C : Addr} {f : Str} {y : V} {u : Value} {Q : Unit → Shared → Prop} {E : Value → Shared → Prop} {A : Around}
theorem ostG (T : OexG X.K C) (I : Inv X pins z H s) (e : H a = some (exo a C none)) (hno : PySem.W.findIn X.K (.ref C) f = some none) (ry : RelV y u)
    (k : ∀ dx s2, H dx = none → dx ≠ a → Inv X pins z (upd (upd H dx (exd dx [(f, y)])) a (exo a C (some dx))) s2 → Q () s2) : wpAny (model X.prog X.w) A (setAttr (.ref a) f u) Q E s := by
  obtain ⟨B, newId, initId, bmB, FB, SF, nm, q, N, bs, bm, sn, sub, ab, col, dd, k0, k1, k2, k3, k5, hC, hbm⟩ := T.wh
  have hcl : PySem.W.clsIn X.K C = some ⟨nm, bs, .ref C :: bm, N, q, true, sn, sub, ab, col, false⟩ := by
    unfold PySem.W.clsIn
    rw [hC] <;> rfl
  have hov : PySem.W.excOver X.K C bmB = true := by
    unfold PySem.W.excOver
    rw [hcl]
    simp [hbm]
  obtain ⟨t1, ho⟩ := exo_at I.hok e; obtain ⟨hp, g, d, t, os⟩ := s
  refine PySem.W.set_plain I.kIn (ox := { cls := .ref C, dict := none, data := .fields #[.ref t1, .none, .none, .none, .bool false, .none] }) (od := none) ⟨ho, rfl, rfl, trivial⟩ T.st (osaG SF I.kIn ho hcl hov rfl hno fun h2 t2 dx kk dn dne hx hn => ?_)
  have fr : H dx = none := I.hok.fresh dn
  have nd : ∀ b o, hp.get? b = some o → b ≠ dx := fun b o r => Nat.ne_of_lt (Nat.lt_of_lt_of_le (Heap.lt_size r) dn)
  have na : ∀ b, H b = none → b ≠ a := fun b r c => by rw [c, e] at r; cases r
  have ch : ∀ b o, H b = some o → b ≠ dx := fun b o r c => by rw [c, fr] at r; cases r
  refine k dx _ fr dne (I.un (t' := t2) ⟨fun b o r n _ _ => kk b o (na b n) r, fun b o r n _ _ => ⟨o.slots, kk b o (na b n) r⟩, fun b o r n _ => ?_, fun b o r _ => ?_, fun b xs r => ?_, fun b o v r => ?_, fun b ps r => ⟨#[], ?_⟩⟩ fun b o r => ?_)
  · rw [upd_ne (na b n), upd_ne (nd b o r), n]
  · by_cases c : b = a
    · subst c; exact ⟨_, hx⟩
    · exact ⟨o, kk b o c r⟩
  · rw [upd_ne (at_ne e r exo_tup), upd_ne (ch b _ r), r]
  · rw [upd_ne (at_ne e r exo_frz), upd_ne (ch b _ r), r]
  · rw [upd_ne (at_ne e r exo_tbl), upd_ne (ch b _ r), r]; simp
  · by_cases c : b = a
    · subst c
      rw [upd_same] at r
      cases r
      exact exo_ok hx
    · rw [upd_ne c] at r
      by_cases c2 : b = dx
      · subst c2
        rw [upd_same] at r
        cases r
        exact exd_ok hn (relO_put (fs := []) ry fun _ => trivial)
      · rw [upd_ne c2] at r
        refine (I.hok b o r).stay (fun m v hm z2 => kk m v ?_ z2) (fun m hm => ?_) fun m xs hm => ?_
        · rcases hm with hm | hm
          · exact hm ▸ c
          · exact at_ne e hm exo_own
        · rw [upd_ne (at_ne e hm exo_own), upd_ne (ch m _ hm), hm]
        · rw [upd_ne (at_ne e hm exo_tup), upd_ne (ch m _ hm), hm]
end
/-- self.f = e, of an error that has no field yet -/
def tOstG (K : PySem.W.Frag) (f : Str) (to te : TE) : TS := fun D z H => te z H fun y H1 => to z H1 fun x H2 => ∃ a C : Addr, x = .ref a ∧ OexG K C ∧ PySem.W.findIn K (.ref C) f = some none ∧ H2 a = some (exo a C none) ∧ ∀ dx, H2 dx = none → dx ≠ a → D.nx z (upd (upd H2 dx (exd dx [(f, y)])) a (exo a C (some dx)))
section
variable {X : Cx} {o e : Expr} {es : List Expr} {to te : TE} {ta : TA} {f : Str} {p p' pos : Pos}
theorem ps_ostG (ho : PE X o to) (he : PE X e te) (hs : swapsWith e (some (.Attribute o f p')) pos.line X.env = pure false := by rfl) : PS X (.Assign [.Attribute o f p'] e pos) (tOstG X.K f to te) :=
  ⟨fun pins s z H D I h => plainObj_wpAny_Assign_Attribute (thn (he.run pins s z H _ I h) fun v s1 ⟨y, H1, I1, r1, q1⟩ => thn (ho.run pins s1 z H1 _ I1 q1) fun u s2 ⟨x, H2, I2, r2, a, C, ex, T, hno, ea, q⟩ => by
    subst ex; obtain rfl : u = Value.ref a := r2
    exact ostG T I2 ea hno r1 fun dx s3 n ne J => ⟨z, _, J, q dx n ne⟩) hs⟩
theorem pmk_oexG {CX : CXT} {x : Str} {C fI : Addr} {k : Nat} {fd : FuncData} {ps : List Str} {sp : Sp} {ds : List Value} {dvs : List V} (T : OexG X.K C) (iC : PySem.W.findIn X.K (.ref C) "__init__" = some (some (.ref fI))) (tI : PySem.W.typeIn X.K (.ref fI) = some (.type "function"))
    (hr : Room (k + 1) X.A) (F1 : FnOk X.prog X.w X.K X.mg X.base CX k fI fd ps sp) (hb : Binds X.K fd ps ds) (hd : Vals dvs ds) (hx : Passes CX X (fun _ _ _ => False)) (hg : Gl X x) (hm : X.mg x = some (.ref C)) (ha : PA X (e :: es) ta)
    (hdb : (x == ("__debug__" : Str)) = false := by decide) (he : starEach (e :: es) X.env = (false, eval e X.env) :: starEach es X.env := by rfl) (hpl : (backTo pos (starEach es X.env)).any (·.1) = false := by rfl) : PMk X (.Call (.Name x p) (e :: es) [] pos) (tMkO C sp dvs ta) := fun pins s z H Q I h => by
  obtain ⟨B, newId, initId, bmB, FB, SF, nm, q, N, bs, bm, sn, sub, ab, col, dd, k0, k1, k2, k3, k5, hC, hbm⟩ := T.wh
  refine wpAny_Call_Name_kw (ld_glob I hg hm (PySem.W.callWith_K (h₀ := X.base) I.ok.mod.kin T.kp (thn (ha.run pos pins s z H _ I h) fun us s1 ⟨vs, H1, I1, r1, hz, q1⟩ => ⟨I1.kIn, ?_⟩) he hpl) hdb)
  show wpAny _ _ (call (.ref C) us) _ _ _; obtain ⟨hp, g, dr, tk, os⟩ := s1
  let b := hp.objs.size + 1
  let h2 := (hp.push (PySem.W.kdv_tup us)).push (PySem.HandSPX.excO C hp.objs.size)
  have le : hp.objs.size ≤ b := Nat.le_succ _
  have hq := q1 b (I1.hok.fresh le)
  have kk : ∀ c o, hp.get? c = some o → h2.get? c = some o := fun c o r => Heap.get?_push_of_some _ (Heap.get?_push_of_some _ r)
  have gb : h2.get? b = some (PySem.HandSPX.excO C hp.objs.size) := by
    show ((hp.push (PySem.W.kdv_tup us)).push (PySem.HandSPX.excO C hp.objs.size)).get? (hp.objs.size + 1) = _
    heap_get
  have I2 : Inv X pins z (upd H1 b (exo b C none)) ⟨h2, g, dr, tk, os⟩ := I1.laid (t' := tk) (a := b) (h' := h2) kk le (exo_ok gb)
  have r2 : Vals (V.ref b :: (vs ++ dvs)) (Value.ref b :: (us ++ ds)) := .cons rfl (r1.append hd)
  have ln : (Value.ref b :: us ++ ds).length = ps.length := r2.length.symm.trans (F1.len _ _ _ _ hq)
  have lu : us.length ≤ sizeLine := by rw [← Paired.length r1, sizeLine_eq]; omega
  refine wpAny_call (PySem.HandSPX.call_own FB (fun Y => PySem.W.excTail_contains Y bm hbm) (I1.kIn _ _ hC) (PySem.W.looks_findIn I1.kIn iC) (fun self => PySem.W.bind_fn I1.kIn self tI) lu (codeAny_mono (F1.run _ X.stack _ _ ⟨Value.ref b :: us, []⟩ (Value.ref b :: (us ++ ds)) _ _ (fun _ _ _ => False) (hr.make C us []) (I2.env0.make C us []) (hb _ (Value.ref b :: us) I2.kIn ln) r2 hq) fun r s2 hq2 => ?_))
  cases r with
  | error er => exact hx pins z _ _ er s2 I2 hq2
  | ok fl => cases fl with
    | ret u =>
      obtain ⟨v, H2, o2, br, un2, hok2, rv, ev, d, fs, ea, ed, hd1, q2⟩ := hq2
      subst ev; obtain ⟨h3, g2, d2, t2, o3⟩ := s2
      exact ⟨rv, mk_end (raises_own T.be T.ty) I1 le kk un2 hok2 o2 br ea ed hd1 q2⟩
    | next => exact hq2.elim
    | brk => exact hq2.elim
    | cont => exact hq2.elim
end
/-- what the text says of the error's class -/
structure ErrG (P : Program) (w : World) (K : PySem.W.Frag) (mg : Str → Option Value) (base : Heap) (x f : Str) (C : Addr) : Prop where
  oex : OexG K C
  mgC : mg x = some (.ref C)
  ini : ∃ fI fd, PySem.W.findIn K (.ref C) "__init__" = some (some (.ref fI)) ∧ PySem.W.typeIn K (.ref fI) = some (.type "function") ∧ FnOk P w K mg base CX0 1 fI fd ["self", f] (spInit K C f) ∧ Binds K fd ["self", f] []
section
variable {T : Tx} {X : Cx} {C : Addr} {cn9 : String} {x f : Str} {e : Expr} {g : Ws → Hv → Res (List W)} {p pos pos' : Pos}
theorem ss_raiseG (Z : ErrG X.prog X.w X.K X.mg X.base x f C) (hcv : T.cv cn9 = .ref C) (hr : Room 2 X.A) (hg : Gl X x) (ha : SA T X [e] g) (hc : X.calm = true := by rfl) (hdb : (x == ("__debug__" : Str)) = false := by decide)
    (he : starEach [e] X.env = (false, eval e X.env) :: starEach [] X.env := by rfl) (hpl : (backTo pos' (starEach [] X.env)).any (·.1) = false := by rfl) : SS T X (.Raise (some (.Call (.Name x p) [e] [] pos')) none pos) (mRaise cn9 f g) := fun E cn => by
  obtain ⟨fI, fd, h1, h2, h3, h4⟩ := Z.ini
  refine PSi (ps_raise hc cn.tk (pmk_oexG Z.oex h1 h2 hr h3 h4 .nil pass0 hg Z.mgC (ha E cn) hdb he hpl)) fun D s H ⟨ps, r, hv, es, vw, gd⟩ => ?_
  refine ⟨ps, r, hv, es, vw, (good_andS (R := WVs) es gd).imp (fun vs H1 q => ?_) fun _ _ _ z => z⟩
  obtain ⟨qs, ws, hh, st, vw1, wv, es1, g1⟩ := q
  split at g1
  · rename_i w
    obtain ⟨v, rfl, wv1⟩ := one_of wv
    refine ⟨by simp, fun a na => ⟨a, v, rfl, upd_same, fun dx hd ne => ⟨rfl, dx, [(f, v)], upd_same, by rw [upd_ne ne, upd_same], ?_, ?_⟩⟩⟩
    · rw [upd_ne ne] at hd
      exact hd
    · rw [upd_ne ne] at hd
      have eqH : upd (del (upd (upd (upd H1 a (exo a C none)) dx (exd dx [(f, v)])) a (exo a C (some dx))) a) dx (.xd [(f, v)]) = upd H1 dx (.xd [(f, v)]) := by
        funext b
        by_cases hb : b = dx
        · rw [hb, upd_same, upd_same]
        · rw [upd_ne hb, upd_ne hb]
          by_cases ha : b = a
          · rw [ha, del_same, na]
          · rw [del_ne ha, upd_ne ha, upd_ne hb, upd_ne ha]
      rw [eqH]
      obtain ⟨vw2, st2, e2⟩ := vw1.alloc hd (o := .xd [(f, w)]) (u := .xd [(f, v)]) ⟨_, .cons ⟨rfl, wv1⟩ .nil, upd_same⟩
      rw [← hcv]
      exact g1 _ _ s (some dx) st2 vw2 (es1.mono st2.pre) ⟨dx, e2, rfl⟩
  · exact g1.elim
end
end VL
end
section
namespace VL
open PySem L2 PySem.Spec PyProof.Rows
/-! ### several clauses 'except x as n' -/
abbrev Tsu := Addr → Value → Option Addr → TS
/-- the ends of a suite in which slot i is the error's name -/
abbrev offI (i : Nat) (D : Ends) : Ends := { nx := fun z H => D.nx (z.set i none) H, rt := D.rt, bk := fun z H => D.bk (z.set i none) H, ct := fun z H => D.ct (z.set i none) H }
def wAsM (K : PySem.W.Frag) (i : Nat) (Wo : WX) (D : Ends) : List (Value × Tsu) → WX
  | [] => Wo
  | (c, ts) :: r => fun cls d z H => ∃ b, PySem.W.exmOne K cls c = some b ∧ (b = true → ∀ a, H a = none → ts a cls d (offI i D) (z.set i (some (.ref a))) H) ∧ (b = false → wAsM K i Wo D r cls d z H)
inductive HdA (X : Cx) (n : Str) : List ExceptHandler → List (Value × Tsu) → Prop
  | nil : HdA X n [] []
  | cons {x : Str} {c : Value} {ts : Tsu} {b0 : Stmt} {su : List Stmt} {np p2 : Pos} {hds : List ExceptHandler} {l : List (Value × Tsu)} (hc : Names X x c)
      (hsu : ∀ (a : Addr) (oe : Obj) (cls : Value) (d : Option Addr) (pn : List (Addr × Obj)), Zc cls d oe → (∃ vs, oe.data = .fields vs) → PSs (X.suite a ((a, oe) :: pn)) (b0 :: su) (ts a cls d)) (r : HdA X n hds l) : HdA X n (.ExceptHandler (some (.Name x np)) (some n) (b0 :: su) p2 :: hds) ((c, ts) :: l)
section
variable {X : Cx} {n : Str} {i : Nat} {body : List Stmt} {h0 : ExceptHandler} {hds : List ExceptHandler} {l : List (Value × Tsu)} {pos : Pos} {tb : WX → TS} {Wo : WX}
theorem ps_try_asM (hs : X.stack = X.env :: X.outer) (hf : X.env.frame = some X.env.locals) (hN : X.N.Nodup) (hi : X.N[i]? = some n) (hln : X.env.kindOf n = some .local) (tk : Takes X Wo)
    (hb : ∀ (W : WX) (pn : List (Addr × Obj)) (xe : Value → Shared → Prop), Takes (X.tr pn xe) W → PassesOwn (model X.prog X.w) X.A X.env xe → PSs (X.tr pn xe) body (tb W)) (hh : HdA X n (h0 :: hds) l) :
    PS X (.Try body (h0 :: hds) [] [] pos) (fun D z H => tb (wAsM X.K i Wo D l) D z H) := ⟨fun pins s z H D I h => by
  have ok := I.ok
  have frm : X.A.frames = some (X.env :: X.outer) := ok.frames.trans (by rw [hs])
  refine wpAny_Try_except (wpAny_mono ((hb (wAsM X.K i Wo D l) (X.pn ++ pins) (fun e t1 => wpAny (model X.prog X.w) X.A (noteFrame e X.env) (fun _ t2 => wpAny (model X.prog X.w) X.A (setFlight e none) (fun _ t3 =>
    wpAny (model X.prog X.w) X.A (handleBy e X.env (h0 :: hds)) (SP X pins D) X.xe t3) X.xe t2) X.xe t1) (fun u s' xx => ?_) PassesOwn.looking).run [] s z H D (I.toTry _) h) (fun f s1 hsp => ?_) fun _ _ he => he)
  · obtain ⟨a, B, sI, pins', z', H', cls, d, rfl, J', nb, up, sky, na, os, ag, w⟩ := xx
    have J : Inv X pins z' H' sI := J'.ofTry ok; show wpAny (model X.prog X.w) X.A (noteFrame (.ref a) X.env) _ _ _
    refine Sky.land Zc.steady frm hf (show Sky B (X.env :: X.outer) a (Zc cls d) X.env.locals s'.heap from hs ▸ sky) fun h3 fl3 up3 => ?_
    have J3 : Inv X pins z' H' { s' with heap := h3 } := J.landed nb fl3.1 (up.trans up3) os ag
    obtain ⟨o3, w3, x3, y3, u3⟩ := fl3.there
    have nfr : a ∉ frs (X.env :: X.outer) := fun hm => by
      obtain ⟨_, o', e', hnf⟩ := fl3.2.2.1.mem hm
      cases x3.symm.trans e'; exact hnf _ u3
    have nL : a ≠ X.env.locals := fun c => nfr (List.mem_filterMap.mpr ⟨X.env, List.mem_cons_self, hf.trans (by rw [c])⟩)
    have nF : a ∉ X.fs := fun hm => by obtain ⟨e, he, q⟩ := List.mem_filterMap.mp hm; exact nfr (List.mem_filterMap.mpr ⟨e, List.mem_cons_of_mem _ he, q⟩)
    have S3 := J3.suite x3 u3 na nL nF
    have lt : PySem.W.Looks (model X.prog X.w) h3 (typeOf (.ref a)) cls := fun A Q E s k q => wpAny_typeOf_ref (k _ _ x3) (by rw [y3.1]; exact q)
    have go : ∀ {hs' : List ExceptHandler} {l' : List (Value × Tsu)}, HdA X n hs' l' → wAsM X.K i Wo D l' cls d z' H' → wpAny (model X.prog X.w) X.A (handleBy (.ref a) X.env hs') (SP X pins D) X.xe { s' with heap := h3 } := fun hk => by
      induction hk with
      | nil =>
        intro w
        refine wpAny_handleBy_nil ?_
        obtain ⟨_, _, _, oe, vs, T, oT, ts', he, hz, hd, h1, hr⟩ := id fl3
        have fin : wpAny (model X.prog X.w) X.A (setFlight (.ref a) X.env.frame) (fun _ s4 => wpAny (model X.prog X.w) X.A (throw (.ref a) : Sem Flow) (SP X pins D) X.xe s4) X.xe { s' with heap := h3 } :=
          hf.symm ▸ HandSPX.setFlight_upZ fl3 fun h4 hh4 up4 => wpAny_throw (tk _ _ ⟨a, B, sI, pins, z', H', cls, d, rfl, J, nb, (up.trans up3).trans up4, .inr (.inr (hs.symm ▸ hh4)), na, os, ag, w⟩)
        unfold PySem.passOn; refine wpAny_bind (wpAny_field he hd h1 ?_)
        rw [if_neg (show ¬ (Value.ref T == Value.none) = true from by simp)]
        first | exact wpAny_bind (wpAny_pure (wpAny_bind fin)) | exact wpAny_bind fin
      | @cons x c ts b0 su np p2 hds2 l2 hc hsu r ih =>
        rintro ⟨b, hb1, hyes, hno⟩
        have lm := PySem.W.exm_one (M := model X.prog X.w) J3.kIn lt hb1
        have test : ∀ {Q : Value → Shared → Prop} {E : Value → Shared → Prop}, Q c { s' with heap := h3 } → wpAny (model X.prog X.w) (X.A.mark (some (.ref a))) (eval (.Name x np) X.env) Q E { s' with heap := h3 } := fun q => by
          rcases hc with ⟨hg, hdbg, hm | ⟨hm, hv, hnn⟩⟩
          · exact ld_glob (X := X.suite a ((a, o3) :: (X.pn ++ pins))) S3 hg hm q hdbg
          · exact ld_blt (X := X.suite a ((a, o3) :: (X.pn ++ pins))) S3 hg hm hv q hnn hdbg
        refine wpAny_handleBy_cons (codeAny_handlers_test (test (lm.here ?_))) (fun q => by cases q)
        cases b with
        | true =>
          refine codeAny_handlers_suite_as (HandSPX.lands_againZ fl3 fun h4 fl4 up4 => ?_)
          have J4 : Inv X pins z' H' { s' with heap := h4 } := J.landed nb fl4.1 ((up.trans up3).trans up4) os ag
          obtain ⟨o4, w4, x4, y4, u4⟩ := fl4.there
          refine store_ok (X := X.suite a ((a, o4) :: (X.pn ++ pins))) (v := .ref a) (J4.suite x4 u4 na nL nF) hN hi (.inl hln) rfl (fun s5 S5 => wpAny_mono ((hsu a o4 cls d (X.pn ++ pins) y4 ⟨_, u4⟩).run [] s5 _ H' _ S5 (hyes rfl a na)) (fun f s6 hsp => ?_) fun _ _ q => q.elim) (.inr hln)
          have bye : ∀ {z6 : L2.St} {H6 : Hp} {Q : Shared → Prop}, Inv (X.suite a ((a, o4) :: (X.pn ++ pins))) [] z6 H6 s6 → (∀ s7, Inv X pins (z6.set i none) H6 s7 → Q s7) → wpAny (model X.prog X.w) X.A (do bindName X.env n .none; unbindBehindTheSuite X.env n p2) (fun _ s7 => Q s7) X.xe s6 := fun {z6 H6 Q} S6 hq => gone_ok (S6.unsuite ok) hN hi hln hq
          cases f with
          | ret u =>
            obtain ⟨v6, z6, H6, S6, r6, q6⟩ := hsp; exact bye S6 fun s7 J7 => ⟨_, _, _, J7, r6, q6⟩
          | next =>
            obtain ⟨z6, H6, S6, q6⟩ := hsp; exact bye S6 fun s7 J7 => ⟨_, _, J7, q6⟩
          | brk =>
            obtain ⟨z6, H6, S6, q6⟩ := hsp; exact bye S6 fun s7 J7 => ⟨_, _, J7, q6⟩
          | cont =>
            obtain ⟨z6, H6, S6, q6⟩ := hsp; exact bye S6 fun s7 J7 => ⟨_, _, J7, q6⟩
        | false =>
          show wpAny _ X.A (handleBy (.ref a) X.env hds2) _ _ _; exact ih (hno rfl)
    exact go hh w
  · cases f with
    | ret u => obtain ⟨v, z', H', J', r, q⟩ := hsp; exact ⟨v, z', H', J'.ofTry ok, r, q⟩
    | next => obtain ⟨z', H', J', q⟩ := hsp; exact wpAny_execs_nil ⟨z', H', J'.ofTry ok, q⟩
    | brk => obtain ⟨z', H', J', q⟩ := hsp; exact ⟨z', H', J'.ofTry ok, q⟩
    | cont => obtain ⟨z', H', J', q⟩ := hsp; exact ⟨z', H', J'.ofTry ok, q⟩⟩
end
end VL
end
section
namespace VL
open PySem L2 PySem.Spec PyProof.Rows
/-! ### heard(lambda: e) with several clauses -/
def mHeardM (sel : String → Option (Nat → MS)) (fb : Ws → Hv → Res W) : Ws → Hv → Res W := fun r h => match fb r h with
  | .val w h1 => .val w h1
  | .exc c (some j) h1 => (match sel c with
    | some su => (match su j [none, none] h1 with
      | .rt w h2 => .val w h2
      | _ => .bad)
    | none => .bad)
  | _ => .bad
/-- a clause: its class, the classes it takes, its suite -/
structure Cl where
  cx : Value
  ok : Value → Prop
  sM : Addr → Nat → MS
def Cl.ts (T : Tx) (c : Cl) : Value × Tsu := (c.cx, tSuite T c.ok c.sM)
def wHM (K : PySem.W.Frag) (T : Tx) : List Cl → VK → XK
  | [], _ => fun _ _ _ => False
  | c :: r, Q => fun cls d H => ∃ b, PySem.W.exmOne K cls c.cx = some b ∧ (b = true → ∀ (D : Ends) (s : L2.St) (a : Addr), D.rt = Q → s.length = 2 → H a = none → tSuite T c.ok c.sM a cls d D (s.set 1 (some (.ref a))) H) ∧ (b = false → wHM K T r Q cls d H)
theorem wHM_as {K : PySem.W.Frag} {T : Tx} {D : Ends} : ∀ {l : List Cl} {cls : Value} {d : Option Addr} {s : L2.St} {H : Hp}, s.length = 2 → wHM K T l D.rt cls d H → wAsM K 1 No D (l.map (Cl.ts T)) cls d s H
  | [], _, _, _, _, _, h => h.elim
  | c :: r, cls, d, s, H, hl, ⟨b, e1, e2, e3⟩ => ⟨b, e1, fun hb a ha => e2 hb _ s a rfl hl ha, fun hb => wHM_as hl (e3 hb)⟩
theorem wHM_mem {K : PySem.W.Frag} {T : Tx} {Q : VK} {c : Cl} {post : List Cl} {cls : Value} {d : Option Addr} {H : Hp} (h1 : PySem.W.exmOne K cls c.cx = some true) (h2 : ∀ (D : Ends) (s : L2.St) (a : Addr), D.rt = Q → s.length = 2 → H a = none → tSuite T c.ok c.sM a cls d D (s.set 1 (some (.ref a))) H) :
    ∀ {pre : List Cl}, (∀ p ∈ pre, PySem.W.exmOne K cls p.cx = some false) → wHM K T (pre ++ c :: post) Q cls d H
  | [], _ => ⟨true, h1, fun _ => h2, fun z => by cases z⟩
  | p :: pre, hp => ⟨false, hp p List.mem_cons_self, (fun z => by cases z), fun _ => wHM_mem h1 h2 fun q hq => hp q (List.mem_cons_of_mem _ hq)⟩
section
variable {X : Cx} {T : Tx} {l : List Cl}
abbrev TTm (K : PySem.W.Frag) (T : Tx) (l : List Cl) : (XK → Hp → VK → Prop) → Hp → VK → Prop := fun tl H Q => tl (wHM K T l Q) H Q
theorem hdA_cons {n x : Str} {c : Cl} {b0 : Stmt} {su : List Stmt} {np p2 : Pos} {hds : List ExceptHandler} (hc : Names X x c.cx)
    (hsu : ∀ (ad : Addr) (oe : Obj) (cls : Value) (dd : Addr) (pn : List (Addr × Obj)) (j : Nat), c.ok cls → Zc cls (some dd) oe → (∃ vs, oe.data = .fields vs) → SSs (T.known j dd) (X.suite ad ((ad, oe) :: pn)) (b0 :: su) (c.sM ad j)) (r : HdA X n hds (l.map (Cl.ts T))) :
    HdA X n (.ExceptHandler (some (.Name x np)) (some n) (b0 :: su) p2 :: hds) ((c :: l).map (Cl.ts T)) :=
  .cons hc (fun ad oe cls d pn hz hf => ⟨fun pins s1 z1 H1 D I h1 => by
    obtain ⟨hk, j, dd, rfl, h2⟩ := h1
    exact ((hsu ad oe cls dd pn j hk hz hf) No ⟨takes0, PassesOwn.never⟩).run pins s1 z1 H1 D I h2⟩) r
theorem heard_givesM {x a n q : Str} {sg : Scope} {g : Addr} {cdg : Value} {h0 : ExceptHandler} {hds : List ExceptHandler} {p1 p2 p3 p8 : Pos} (hnd : ([a, n] : List Str).Nodup)
    (hh : ∀ s H, HdA (hCx X [a, n] x sg g cdg s H) n (h0 :: hds) (l.map (Cl.ts T))) (hkn : sg.names.lookup n = some .local) :
    LamX.GivesTo X [a, n] x sg g cdg [.Try [.Return (some (.Call (.Name a p1) [] [] p2)) p3] (h0 :: hds) [] [] p8] a q (TTm X.K T l) := by
  intro f c' s H Q tl act hco h
  refine ⟨_, pss_one (ps_try_asM (X := hCx X [a, n] x sg g cdg s H) (i := 1) (Wo := No)
    (tb := fun Wx D s' H' => ∃ Ec : XK, (∀ cls d (s2 : L2.St) H2, s2.length = 2 → Ec cls d H2 → Wx cls d s2 H2) ∧ s'[0]? = some (some (.ref f)) ∧ H' c' = some (LamX.CodeO c' q) ∧ tl Ec H' D.rt) rfl rfl hnd rfl hkn takes0 (fun Wx pn xe tk _ => ⟨fun pins s1 z1 H1 D I h1 => ?_⟩) (hh s H)), ?_⟩
  · obtain ⟨Ec, hW, hs, h2, h3⟩ := h1
    have tk2 : Takes ((cxOf C8.CX0 X.prog X.w X.K X.mg X.base [a, n] x sg g cdg X.A X.stack s H C8.E0).tr pn xe) (fun cls d s2 H2 => s2.length = 2 → Wx cls d s2 H2) := fun u s' xx => by
      obtain ⟨ad, B, sI, pins', s3, H3, cls, d, e1, J, e2, e3, e4, e5, e6, e7, wz⟩ := xx
      exact tk u s' ⟨ad, B, sI, pins', s3, H3, cls, d, e1, J, e2, e3, e4, e5, e6, e7, wz J.len⟩
    have hp := act _ pn xe Ec p1 p2 tk2 fun cls d s2 H2 hh hl => hW cls d s2 H2 hl hh
    exact (pss_one (ps_ret (pos := p3) hp)).run pins s1 z1 H1 D I ⟨hs, h2, h3⟩
  · exact ⟨wHM X.K T l Q, fun cls d s2 H2 hl hw => wHM_as hl hw, rfl, hco, h⟩
/-- which clause takes the errors of the class c -/
def Sels (K : PySem.W.Frag) (T : Tx) (l : List Cl) (sel : String → Option (Nat → MS)) : Prop := ∀ c su, sel c = some su → ∃ pre cl post, l = pre ++ cl :: post ∧ (∀ p ∈ pre, PySem.W.exmOne K (T.cv c) p.cx = some false) ∧ PySem.W.exmOne K (T.cv c) cl.cx = some true ∧ cl.ok (T.cv c) ∧
  ∀ a j r h w h2, 1 < r.length → su j r h = .rt w h2 → cl.sM a j (r.set 1 (some (.fix a))) h = .rt w h2
theorem heard_readM {sel : String → Option (Nat → MS)} {E : WX} {s : L2.St} {H : Hp} {Q : VK} {fb : Ws → Hv → Res W} (hsel : Sels X.K T l sel)
    (h : tE T E (mHeardM sel fb) s H Q) : LamX.tLam T.tb (TTm X.K T l) (fun E' => tE T (fun c d _ H' => E' c d H') fb) s H Q := by
  obtain ⟨ps, r, hv, es, vw, gd⟩ := h
  refine ⟨vw.tab, fun H1 eN tN => ?_⟩
  obtain ⟨vw1, st1⟩ := vw.ext eN tN
  have gd := Good.step gd st1
  refine ⟨ps, r, hv, es, vw1, ?_⟩
  unfold mHeardM at gd
  cases q : fb r hv with
  | bad => rw [q] at gd; exact gd.elim
  | val w h1 => rw [q] at gd; exact gd
  | exc c d h1 =>
    rw [q] at gd
    cases d with
    | none => exact gd.elim
    | some j =>
      dsimp only at gd
      intro qs H' e st vw' dv
      obtain ⟨dd, ej, rfl⟩ := dv
      cases ex : sel c with
      | none => rw [ex] at gd; exact gd.elim
      | some su =>
        rw [ex] at gd
        dsimp only at gd
        obtain ⟨pre, cl, post, rfl, hp, ht, hok, hind⟩ := hsel c su ex
        cases z : su j [none, none] h1 with
        | nx _ _ => rw [z] at gd; exact gd.elim
        | bk _ _ => rw [z] at gd; exact gd.elim
        | ct _ _ => rw [z] at gd; exact gd.elim
        | exc _ _ _ _ => rw [z] at gd; exact gd.elim
        | bad => rw [z] at gd; exact gd.elim
        | rt w h2 =>
          rw [z] at gd
          refine wHM_mem ht (fun D s2 a hD hl ha => ⟨hok, j, dd, rfl, qs, [none, none].set 1 (some (.fix a)), h1, ?_, vw'.known ej, ?_⟩) hp
          · have e0 : ES qs [none, none] s2 := ⟨by rw [hl]; rfl, fun i w e => by
              match i, e with
              | 0, e => cases e
              | 1, e => cases e
              | i + 2, e => simp at e⟩
            exact e0.set 1 rfl
          · rw [hind a j [none, none] h1 _ _ (by decide) z]
            intro rs H2 v st2 vw2 wv
            rw [hD]
            exact gd rs H2 v (st.trans st2) vw2.less wv
theorem se_heardM {sel : String → Option (Nat → MS)} {k : Nat} {x a n : Str} {g c P : Addr} {pg : Arguments} {sg : Scope} {dV kV doc pm cdv ct oc : Value} {an od : Option Addr} {osl : Array (Option Value)} {h0 : ExceptHandler} {hds : List ExceptHandler} {p1 p2 p3 p8 : Pos}
    {params : Arguments} {body : Expr} {scope : Scope} {fb : Ws → Hv → Res W} {p lpos pos : Pos}
    (hsel : Sels X.K T l sel) (hm : X.mg x = some (.ref g)) (hk : PySem.W.keepIn X.K (.ref g) = true)
    (lk : X.K.lookup g = some ⟨oc, od, .func (PySem.W.fnOf x x pg [.Try [.Return (some (.Call (.Name a p1) [] [] p2)) p3] (h0 :: hds) [] [] p8] sg dV kV doc pm an cdv ct), osl⟩) (hcg : PySem.W.codeIn X.K cdv x = true)
    (hb : L2.Binds X.K (PySem.W.fnOf x x pg [.Try [.Return (some (.Call (.Name a p1) [] [] p2)) p3] (h0 :: hds) [] [] p8] sg dV kV doc pm an cdv ct) [a] []) (Sg : FnScope [a, n] [a] sg) (hva : Vis sg a)
    (hh : ∀ s H, HdA (hCx X [a, n] x sg g cdv s H) n (h0 :: hds) (l.map (Cl.ts T))) (hkn : sg.names.lookup n = some .local)
    (TB : LamX.TabB X.base X.mg c P) (hcode : X.env.code = .ref c) (hmT : (P, X.env.qual ++ "<lambda>") ∈ T.tb) (hu : ∀ p ∈ T.tb, p.1 = P → p.2 = X.env.qual ++ "<lambda>") (hr : Room (k + 2) X.A) (L : LamX.LamS X.env.scope scope) (hdef : defaultsOf params X.env = ([], [])) (hbind : ∀ (q : Str) (cl : List (Str × Addr)) (pm cv ctv : Value), bindArgs (PySem.W.kla_fn "<lambda>" q params body scope cl pm cv ctv) ⟨[], []⟩ = pure [])
    (hbody : ∀ (A : Around) (outer : List Env) (s : Shared) (H : Hp) (E : XK) (f c' : Addr), Room k (A.deeper (LamX.lamEnv X scope s.heap.objs.size f c')) → SE T (LamX.lamCx X A outer s H E scope f c') body fb)
    (hg : Gl X x := by rfl) (hdb : (x == ("__debug__" : Str)) = false := by decide) (hd : (a == ("__debug__" : Str)) = false := by decide) (hcd : (a == ("__classdict__" : Str)) = false := by decide) :
    SE T X (.Call (.Name x p) [.Lambda params body scope lpos] [] pos) (mHeardM sel fb) := fun E cn => by
  refine PEi (LamX.pe_lamcall (T := T.tb) (TT := TTm X.K T l) (t := fun E' => tE T (fun c d _ H' => E' c d H') fb) hg hm hk lk hcg hb Sg rfl hva (heard_givesM Sg.nd hh hkn) TB hcode hmT hu hr L hdef hbind
    (fun A outer s H E' f c' hr' => hbody A outer s H E' f c' hr' _ ⟨takes_of rfl rfl rfl rfl, passes_of rfl⟩) hdb hd hcd) fun s H Q h => heard_readM hsel h
end
end VL
end
section
namespace VL
open PySem L2
/-! ### a, b, .. = a tuple or a list -/
def mGs (n : Nat) (k : List W → MS) : MG := fun w r h => match w with
  | .tup ws => if ws.length = n then k ws r h else .bad
  | .ref p => match h[p]? with
    | some (.lst ws) => if ws.length = n then k ws r h else .bad
    | _ => .bad
  | _ => .bad
section
variable {T : Tx} {X : Cx} {es : List Expr} {k : List W → MS} {pos : Pos}
theorem PG_or {e : Expr} {t u : TG} (a : PG X e t) (b : PG X e u) : PG X e (fun v s H Q => t v s H Q ∨ u v s H Q) := ⟨fun pins s z H v w Q I r h => h.elim (a.run pins s z H v w Q I r) (b.run pins s z H v w Q I r)⟩
theorem sg_seq {kk n : Nat} (h : SGs T X es k) (hc : X.calm = true := by rfl) (hn : (assignEach es X.env).length = n := by rfl) (hst : (assignEach es X.env).findIdx? (·.1) = none := by rfl) : SG T X (.Tuple es kk pos) (mGs n k) := fun E cn =>
  PGi (PG_or (pg_tup hc (h E cn) hn hst) (pg_lst hc (h E cn) hn hst)) fun v s H Q ⟨ps, r, h, w, es, vw, wv, gd⟩ => by
    unfold mGs at gd
    split at gd
    · rename_i ws
      split at gd
      · rename_i hl
        obtain ⟨a, vs, rfl, ht, rr⟩ := wv.tup_of
        have l1 : ws.length = vs.length := rr.length
        exact .inl ⟨a, vs, rfl, SqT.of (vw.tup a vs ht), by rw [← l1]; exact hl, ps, r, h, ws, es, vw, rr, gd⟩
      · exact gd.elim
    · rename_i p
      obtain ⟨a, ea, rfl⟩ := wv
      split at gd
      · rename_i ws e1
        split at gd
        · rename_i hl
          obtain ⟨vs, rr, eH⟩ := vw.ob _ a _ ea e1
          have l1 : ws.length = vs.length := rr.length
          exact .inr ⟨a, vs, rfl, SqL.of eH, by rw [← l1]; exact hl, ps, r, h, ws, es, vw, rr, gd⟩
        · exact gd.elim
      · exact gd.elim
    · exact gd.elim
end
/-! ### sorted of whole numbers -/
def insI (a : Int) : List Int → List Int
  | [] => [a]
  | b :: l => if a ≤ b then a :: b :: l else b :: insI a l
def sortI : List Int → List Int
  | [] => []
  | a :: l => insI a (sortI l)
theorem insI_perm (a : Int) : ∀ l, (insI a l).Perm (a :: l)
  | [] => List.Perm.refl _
  | b :: l => by
    unfold insI
    split
    · exact List.Perm.refl _
    · exact ((insI_perm a l).cons b).trans (List.Perm.swap a b l)
theorem sortI_perm : ∀ l, (sortI l).Perm l
  | [] => List.Perm.refl _
  | a :: l => (insI_perm a (sortI l)).trans ((sortI_perm l).cons a)
theorem insI_sorted (a : Int) : ∀ l : List Int, l.Pairwise (· ≤ ·) → (insI a l).Pairwise (· ≤ ·)
  | [], _ => List.pairwise_singleton _ _
  | b :: l, h => by
    unfold insI
    obtain ⟨hb1, h2⟩ := List.pairwise_cons.mp h; have h1 := hb1
    split
    · rename_i ab
      refine List.pairwise_cons.mpr ⟨fun c hc => ?_, h⟩
      rcases List.mem_cons.mp hc with rfl | q
      · exact ab
      · exact Int.le_trans ab (h1 c q)
    · rename_i ab
      refine List.pairwise_cons.mpr ⟨fun c hc => ?_, insI_sorted a l h2⟩
      rcases List.mem_cons.mp ((insI_perm a l).mem_iff.mp hc) with rfl | q
      · omega
      · exact h1 c q
theorem sortI_sorted : ∀ l : List Int, (sortI l).Pairwise (· ≤ ·)
  | [] => List.Pairwise.nil
  | a :: l => insI_sorted a _ (sortI_sorted l)
theorem sorted_one : ∀ (l m : List Int), l.Perm m → l.Pairwise (· ≤ ·) → m.Pairwise (· ≤ ·) → l = m
  | [], m, p, _, _ => p.nil_eq
  | a :: l, [], p, _, _ => by have := p.length_eq; simp at this
  | a :: l, b :: m, p, hl, hm => by
    obtain ⟨l1, l2⟩ := List.pairwise_cons.mp hl
    obtain ⟨m1, m2⟩ := List.pairwise_cons.mp hm
    have ha : a ∈ b :: m := p.mem_iff.mp List.mem_cons_self
    have hb : b ∈ a :: l := p.mem_iff.mpr List.mem_cons_self
    have e : a = b := by
      rcases List.mem_cons.mp ha with q | q
      · exact q
      · rcases List.mem_cons.mp hb with q2 | q2
        · exact q2.symm
        · have := l1 b q2
          have := m1 a q
          omega
    subst e
    rw [sorted_one l m (List.Perm.cons_inv p) l2 m2]
def intsOf : List W → Option (List Int)
  | [] => some []
  | .int i :: l => (intsOf l).map (i :: ·)
  | _ => none
theorem intsOf_eq : ∀ {l : List W} {ns : List Int}, intsOf l = some ns → l = ns.map W.int
  | [], ns, e => by cases e; rfl
  | .int i :: l, ns, e => by
    unfold intsOf at e
    cases q : intsOf l with
    | none => rw [q] at e; exact nomatch e
    | some ms =>
      rw [q] at e
      cases e
      rw [List.map_cons, ← intsOf_eq q]
  | .non :: l, ns, e => by cases e
  | .bl _ :: l, ns, e => by cases e
  | .str _ :: l, ns, e => by cases e
  | .ref _ :: l, ns, e => by cases e
  | .fix _ :: l, ns, e => by cases e
  | .ty _ :: l, ns, e => by cases e
def mSorted : MFn := fun ws h => match ws with
  | [.ref p] => match h[p]? with
    | some (.lst xs) => match intsOf xs with
      | some ns => if ns.length < 64 then mNew (.lst ((sortI ns).map W.int)) h else .bad
      | none => .bad
    | _ => .bad
  | _ => .bad
theorem pair_ints {ps : Pl} : ∀ {ns : List Int} {vs : List V}, Paired (WV ps) (ns.map W.int) vs → vs = ns.map V.int
  | [], _, .nil => rfl
  | i :: ns, _, .cons r t => by
    cases r
    rw [List.map_cons, pair_ints t]
theorem ints_pair {ps : Pl} : ∀ {ns : List Int}, Paired (WV ps) (ns.map W.int) (ns.map V.int)
  | [] => .nil
  | i :: ns => .cons rfl ints_pair
section
variable {T : Tx} {X : Cx}
theorem rc_sorted : RC T (rSorted X.K) mSorted := by
  intro ps h H ws vs Q E vw wv gd
  unfold mSorted at gd
  split at gd
  · obtain ⟨v, rfl, a, ea, rfl⟩ := one_of wv
    split at gd
    · rename_i xs e1
      split at gd
      · rename_i ns en
        split at gd
        · rename_i hl
          obtain ⟨us, rr, eH⟩ := vw.ob _ a _ ea e1
          have el := intsOf_eq en
          subst el
          have eu := pair_ints rr
          subst eu
          refine ⟨a, ns, rfl, SqL.of eH, hl, fun ms p pm st hp => ?_⟩
          have em : ms = sortI ns := sorted_one _ _ (pm.trans (sortI_perm ns).symm) st (sortI_sorted ns)
          subst em
          exact good_new vw gd (fun H' p' e => ⟨_, ints_pair, e⟩) hp
        · exact gd.elim
      · exact gd.elim
    · exact gd.elim
  · exact gd.elim
end
end VL
end
section
/-! ### KeyError: stores -/
namespace VX
open PySem PySem.F
abbrev keyM : List Value := [.type "KeyError", .type "LookupError", .type "Exception", .type "BaseException", .type "object"]
theorem keyStore : StoreFacts "KeyError" keyM "object.__setattr__" "object" := {
  mro := by kernel_rfl, entry := entry_object_sa, kind := by decide +kernel, split := by decide +kernel, hasOwner := by decide +kernel, args := fun a b c => by { unfold argsOk; kernel_rfl }, passes := fun self => by kernel_rfl,
  slot := .of (owner := "object") (n := "__setattr__") (by rw [typeLookup_type, builtinLookup_eq_fast]; kernel_rfl) (by decide +kernel) (by decide +kernel) (by decide +kernel) (by first | exact .inl (by decide +kernel) | exact .inr (by decide +kernel)) (by rw [isSubtype_type]; kernel_rfl) }
end VX
/-! ### an own error class called, with keywords or without -/
namespace PySem.HandSPX
open PyProof.Rows PySem.Spec PySem
section
variable {prog : Program} {w : World} {A : Around} {E : Value → Shared → Prop} {R : Result → Shared → Prop} {hp : Heap} {g : Array GenState} {dr : Drawn} {tk : Nat} {os : OsState}
variable {nm q : Str} {C N : Addr} {bs bm bmB : List Value} {hdct : Bool} {sn : List Str} {sub : List Value} {ab : Bool} {col : Option Bool} {dd : Option Addr} {k0 k1 k2 k3 k5 : Option Value} {B newId initId : String} {kw : List (Str × Value)} {rest : List Value}
theorem check_newK (FB : ExcBaseFacts B newId initId bmB) (c0 : bm.contains (.type B) = true) {Q : Unit → Shared → Prop} (hC : hp.get? C = some (excClassObj nm q C N bs bm hdct sn sub ab col dd k0 k1 k2 k3 k5 newId)) (hq : Q () ⟨hp, g, dr, tk, os⟩) :
    wpAny (model prog w) A (checkBuiltinCall newId ⟨.ref C :: rest, kw⟩) Q E ⟨hp, g, dr, tk, os⟩ := by
  have c1 : (Value.ref C :: bm).contains (.type B) = true := by rw [List.contains_cons, c0, Bool.or_true]
  have st := FB.noStar
  simp only [checkBuiltinCall, FB.newKind, FB.newSplit, FB.newRow]
  repeat (first | refine wpAny_loadPart_at hC ?_ | (refine wpAny_isSubtype_exc hC ?_; rw [c1]) | refine wpAny_staticBase_exc hC ?_ | refine wpAny_madeBy_exc hC ?_ | simp only [bne_self_eq_false, Bool.false_eq_true, if_false] | wp_step)
  exact hq
theorem newK (FB : ExcBaseFacts B newId initId bmB) (c0 : bm.contains (.type B) = true) (cA : bm.contains (.type "AttributeError") = false) (cN : bm.contains (.type "NameError") = false) (hC : hp.get? C = some (excClassObj nm q C N bs bm hdct sn sub ab col dd k0 k1 k2 k3 k5 newId))
    (hq : R (.ok (.ret (.ref (hp.objs.size + 1)))) ⟨(hp.push (W.kdv_tup rest)).push (excO C hp.objs.size), g, dr, tk, os⟩) (hrest : rest.length ≤ sizeLine) : codeAny (model prog w) A (.builtin newId ⟨.ref C :: rest, kw⟩) R ⟨hp, g, dr, tk, os⟩ := by
  have en := FB.ends
  have c1 : (Value.ref C :: bm).contains (.type B) = true := by rw [List.contains_cons, c0, Bool.or_true]
  have c2 : (Value.ref C :: bm).contains (.type "AttributeError") = false := by rw [List.contains_cons, cA]; rfl
  have c3 : (Value.ref C :: bm).contains (.type "NameError") = false := by rw [List.contains_cons, cN]; rfl
  refine codeAny_builtinAt FB.entry ?_
  unfold Builtin.«BaseException.__new__»; refine wpAt_bind ?_; show wpAt _ _ _ (stack >>= _) _ _ _
  refine wpAt_bind (wpAt_stack fun p9 below9 => wpAt_of_wpAny ?_); wp_walk
  refine wpAt_of_wpAny ?_
  rw [FB.owner]
  repeat (first | with_reducible refine wpAny_madeHere_exc FB.canon hC ?_ | with_reducible refine wpAny_loadPart_at hC ?_ | (with_reducible refine wpAny_isSubtype_exc hC ?_; first | rw [c1] | rw [c2] | rw [c3]) | wp_step)
  show R _ _; rw [Heap.size_push]
  exact hq
theorem type_callK (FB : ExcBaseFacts B newId initId bmB) (c0 : bm.contains (.type B) = true) (cA : bm.contains (.type "AttributeError") = false) (cN : bm.contains (.type "NameError") = false) {fI : Addr} {Q : Fin → Shared → Prop} (hC : hp.get? C = some (excClassObj nm q C N bs bm hdct sn sub ab col dd k0 k1 k2 k3 k5 newId))
    (hi : W.Looks (model prog w) hp (typeLookup (.ref C) "__init__") (some (.ref fI))) (hb : ∀ self, W.Looks (model prog w) hp (bindSpecial (.ref fI) self) (.ref fI, [self])) (hrest : rest.length ≤ sizeLine)
    (hq : codeAny (model prog w) A (.call (.ref fI) ⟨.ref (hp.objs.size + 1) :: rest, kw⟩) (fun r s' => match r with | .ok (.ret v) => v = .none ∧ Q (.done (.ret (.ref (hp.objs.size + 1)))) s' | .ok _ => False | .error e => E e s') ⟨(hp.push (W.kdv_tup rest)).push (excO C hp.objs.size), g, dr, tk, os⟩) :
    wpAny (model prog w) A (Builtin.«type.__call__» ⟨.ref C :: rest, kw⟩) Q E ⟨hp, g, dr, tk, os⟩ := by
  (repeat (first | with_reducible refine wpAny_loadPart_at hC ?_ | with_reducible refine wpAny_madeBy_exc hC ?_ | wp_step)); refine codeAny_call_builtin_code (Code.quiet_builtin _ FB.quiet) (check_newK FB c0 hC ?_); refine newK FB c0 cA cN hC ?_ hrest
  show wpAny _ _ _ _ _ _
  have kk : ∀ b o, hp.get? b = some o → ((hp.push (W.kdv_tup rest)).push (excO C hp.objs.size)).get? b = some o := fun b o e => Heap.get?_push_of_some _ (Heap.get?_push_of_some _ e)
  have gC := kk _ _ hC
  have ge : ((hp.push (W.kdv_tup rest)).push (excO C hp.objs.size)).get? (hp.objs.size + 1) = some (excO C hp.objs.size) := by heap_get
  have cC : (Value.ref C :: bm).contains (.ref C) = true := by simp
  have i1 := hi.keeps kk
  have b1 := (hb (.ref (hp.objs.size + 1))).keeps kk
  unfold isInstance; repeat (first | with_reducible refine wpAny_loadPart_at ge ?_ | (with_reducible refine wpAny_isSubtype_exc gC ?_; rw [cC]) | wp_step)
  show wpAny _ _ (typeLookup (.ref C) _) _ _ _; refine i1.at ?_
  refine wpAny_holding (wpAny_bind (b1.at ?_)); refine wpAny_bind (wpAny_call (codeAny_mono hq fun r s' z => ?_))
  rcases r with e9 | (v9 | _ | _ | _) <;> first | exact z | exact z.elim | skip
  obtain ⟨rfl, z⟩ := z
  first | exact wpAny_pure (wpAny_pure z) | (wp_walk; exact z)
theorem call_ownK (FB : ExcBaseFacts B newId initId bmB) (c0 : bm.contains (.type B) = true) (cA : bm.contains (.type "AttributeError") = false) (cN : bm.contains (.type "NameError") = false) {fI : Addr} (hC : hp.get? C = some (excClassObj nm q C N bs bm hdct sn sub ab col dd k0 k1 k2 k3 k5 newId))
    (hi : W.Looks (model prog w) hp (typeLookup (.ref C) "__init__") (some (.ref fI))) (hb : ∀ self, W.Looks (model prog w) hp (bindSpecial (.ref fI) self) (.ref fI, [self])) (hrest : rest.length ≤ sizeLine)
    (hq : codeAny (model prog w) (A.under (.builtin "type.__call__" ⟨.ref C :: rest, kw⟩)) (.call (.ref fI) ⟨.ref (hp.objs.size + 1) :: rest, kw⟩) (W.InitBack (hp.objs.size + 1) R) ⟨(hp.push (W.kdv_tup rest)).push (excO C hp.objs.size), g, dr, tk, os⟩) :
    codeAny (model prog w) A (.call (.ref C) ⟨rest, kw⟩) R ⟨hp, g, dr, tk, os⟩ := by
  have f1 := tc_lookup
  have f2 := tc_bind (.ref C)
  have hTy : (⟨hp, g, dr, tk, os⟩ : Shared).TypeIs (.ref C) "type" := ⟨_, hC, rfl⟩
  refine codeAny_of_tree ?_; show wpAny _ _ (callAny (.ref C) _) _ _ _
  (repeat (any_goals (first | assumption | with_reducible refine wpAny_loadPart_at hC ?_ | wp_step))); refine ⟨rfl, ?_⟩; refine codeAny_call_builtin_at (Code.quiet_builtin _ (by decide +kernel)) entry_typeCall ?_
  refine wpAny_check_type_call_sub hC (type_callK FB c0 cA cN hC hi hb hrest ?_)
  refine codeAny_mono hq fun r9 s9 z => ?_
  rcases r9 with e9 | (v9 | _ | _ | _) <;> exact z
end
end PySem.HandSPX
end
section
namespace VL
open PySem L2 PySem.Spec PyProof.Rows
/-! ### own error classes over any of Python's errors, KeyError too: the class that makes and the class that stores may differ -/
structure OexH (K : PySem.W.Frag) (C : Addr) : Prop where
  wh : ∃ (B newId initId : String) (bmN : List Value) (B2 : String) (bmS : List Value), ExcBaseFacts B newId initId bmN ∧ StoreFacts B2 bmS "object.__setattr__" "object" ∧ ∃ nm q N bs bm sn sub ab col dd k0 k1 k2 k3 k5,
    K.lookup C = some (excClassObj nm q C N bs bm true sn sub ab col dd k0 k1 k2 k3 k5 newId) ∧ PySem.W.excTail bmS bm = true ∧ bm.contains (.type B) = true ∧ bm.contains (.type "AttributeError") = false ∧ bm.contains (.type "NameError") = false
  st : PySem.W.findIn K (.ref C) "__setattr__" = some (some (.builtin "object.__setattr__"))
  be : PySem.W.subIn K (.ref C) (.type "BaseException") = some true
  ty : PySem.W.typeIn K (.ref C) = some (.type "type")
  kp : PySem.W.keepIn K (Value.ref C) = true
section
variable {X : Cx} {pins : List (Addr × Obj)} {z : L2.St} {H : Hp} {s : Shared} {a C : Addr} {f : Str} {y : V} {u : Value} {Q : Unit → Shared → Prop} {E : Value → Shared → Prop} {A : Around}
theorem ostH (T : OexH X.K C) (I : Inv X pins z H s) (e : H a = some (exo a C none)) (hno : PySem.W.findIn X.K (.ref C) f = some none) (ry : RelV y u)
    (k : ∀ dx s2, H dx = none → dx ≠ a → Inv X pins z (upd (upd H dx (exd dx [(f, y)])) a (exo a C (some dx))) s2 → Q () s2) : wpAny (model X.prog X.w) A (setAttr (.ref a) f u) Q E s := by
  obtain ⟨B, newId, initId, bmB0, B2, bmB, FB, SF, nm, q, N, bs, bm, sn, sub, ab, col, dd, k0, k1, k2, k3, k5, hC, hbm, c0, cA, cN⟩ := T.wh
  have hcl : PySem.W.clsIn X.K C = some ⟨nm, bs, .ref C :: bm, N, q, true, sn, sub, ab, col, false⟩ := by
    unfold PySem.W.clsIn
    rw [hC] <;> rfl
  have hov : PySem.W.excOver X.K C bmB = true := by
    unfold PySem.W.excOver
    rw [hcl]
    simp [hbm]
  obtain ⟨t1, ho⟩ := exo_at I.hok e; obtain ⟨hp, g, d, t, os⟩ := s
  refine PySem.W.set_plain I.kIn (ox := { cls := .ref C, dict := none, data := .fields #[.ref t1, .none, .none, .none, .bool false, .none] }) (od := none) ⟨ho, rfl, rfl, trivial⟩ T.st (osaG SF I.kIn ho hcl hov rfl hno fun h2 t2 dx kk dn dne hx hn => ?_)
  have fr : H dx = none := I.hok.fresh dn
  have nd : ∀ b o, hp.get? b = some o → b ≠ dx := fun b o r => Nat.ne_of_lt (Nat.lt_of_lt_of_le (Heap.lt_size r) dn)
  have na : ∀ b, H b = none → b ≠ a := fun b r c => by rw [c, e] at r; cases r
  have ch : ∀ b o, H b = some o → b ≠ dx := fun b o r c => by rw [c, fr] at r; cases r
  refine k dx _ fr dne (I.un (t' := t2) ⟨fun b o r n _ _ => kk b o (na b n) r, fun b o r n _ _ => ⟨o.slots, kk b o (na b n) r⟩, fun b o r n _ => ?_, fun b o r _ => ?_, fun b xs r => ?_, fun b o v r => ?_, fun b ps r => ⟨#[], ?_⟩⟩ fun b o r => ?_)
  · rw [upd_ne (na b n), upd_ne (nd b o r), n]
  · by_cases c : b = a
    · subst c; exact ⟨_, hx⟩
    · exact ⟨o, kk b o c r⟩
  · rw [upd_ne (at_ne e r exo_tup), upd_ne (ch b _ r), r]
  · rw [upd_ne (at_ne e r exo_frz), upd_ne (ch b _ r), r]
  · rw [upd_ne (at_ne e r exo_tbl), upd_ne (ch b _ r), r]; simp
  · by_cases c : b = a
    · subst c
      rw [upd_same] at r
      cases r
      exact exo_ok hx
    · rw [upd_ne c] at r
      by_cases c2 : b = dx
      · subst c2
        rw [upd_same] at r
        cases r
        exact exd_ok hn (relO_put (fs := []) ry fun _ => trivial)
      · rw [upd_ne c2] at r
        refine (I.hok b o r).stay (fun m v hm z2 => kk m v ?_ z2) (fun m hm => ?_) fun m xs hm => ?_
        · rcases hm with hm | hm
          · exact hm ▸ c
          · exact at_ne e hm exo_own
        · rw [upd_ne (at_ne e hm exo_own), upd_ne (ch m _ hm), hm]
        · rw [upd_ne (at_ne e hm exo_tup), upd_ne (ch m _ hm), hm]
end
/-- self.f = e, of an error that has no field yet -/
def tOstH (K : PySem.W.Frag) (f : Str) (to te : TE) : TS := fun D z H => te z H fun y H1 => to z H1 fun x H2 => ∃ a C : Addr, x = .ref a ∧ OexH K C ∧ PySem.W.findIn K (.ref C) f = some none ∧ H2 a = some (exo a C none) ∧ ∀ dx, H2 dx = none → dx ≠ a → D.nx z (upd (upd H2 dx (exd dx [(f, y)])) a (exo a C (some dx)))
section
variable {X : Cx} {o e : Expr} {es : List Expr} {to te : TE} {ta : TA} {f : Str} {p p' pos : Pos}
theorem ps_ostH (ho : PE X o to) (he : PE X e te) (hs : swapsWith e (some (.Attribute o f p')) pos.line X.env = pure false := by rfl) : PS X (.Assign [.Attribute o f p'] e pos) (tOstH X.K f to te) :=
  ⟨fun pins s z H D I h => plainObj_wpAny_Assign_Attribute (thn (he.run pins s z H _ I h) fun v s1 ⟨y, H1, I1, r1, q1⟩ => thn (ho.run pins s1 z H1 _ I1 q1) fun u s2 ⟨x, H2, I2, r2, a, C, ex, T, hno, ea, q⟩ => by
    subst ex; obtain rfl : u = Value.ref a := r2
    exact ostH T I2 ea hno r1 fun dx s3 n ne J => ⟨z, _, J, q dx n ne⟩) hs⟩
theorem pmk_oexH {CX : CXT} {x : Str} {C fI : Addr} {k : Nat} {fd : FuncData} {ps : List Str} {sp : Sp} {ds : List Value} {dvs : List V} (T : OexH X.K C) (iC : PySem.W.findIn X.K (.ref C) "__init__" = some (some (.ref fI))) (tI : PySem.W.typeIn X.K (.ref fI) = some (.type "function"))
    (hr : Room (k + 1) X.A) (F1 : FnOk X.prog X.w X.K X.mg X.base CX k fI fd ps sp) (hb : Binds X.K fd ps ds) (hd : Vals dvs ds) (hx : Passes CX X (fun _ _ _ => False)) (hg : Gl X x) (hm : X.mg x = some (.ref C)) (ha : PA X (e :: es) ta)
    (hdb : (x == ("__debug__" : Str)) = false := by decide) (he : starEach (e :: es) X.env = (false, eval e X.env) :: starEach es X.env := by rfl) (hpl : (backTo pos (starEach es X.env)).any (·.1) = false := by rfl) : PMk X (.Call (.Name x p) (e :: es) [] pos) (tMkO C sp dvs ta) := fun pins s z H Q I h => by
  obtain ⟨B, newId, initId, bmB0, B2, bmB, FB, SF, nm, q, N, bs, bm, sn, sub, ab, col, dd, k0, k1, k2, k3, k5, hC, hbm, c0, cA, cN⟩ := T.wh
  refine wpAny_Call_Name_kw (ld_glob I hg hm (PySem.W.callWith_K (h₀ := X.base) I.ok.mod.kin T.kp (thn (ha.run pos pins s z H _ I h) fun us s1 ⟨vs, H1, I1, r1, hz, q1⟩ => ⟨I1.kIn, ?_⟩) he hpl) hdb)
  show wpAny _ _ (call (.ref C) us) _ _ _; obtain ⟨hp, g, dr, tk, os⟩ := s1
  let b := hp.objs.size + 1
  let h2 := (hp.push (PySem.W.kdv_tup us)).push (PySem.HandSPX.excO C hp.objs.size)
  have le : hp.objs.size ≤ b := Nat.le_succ _
  have hq := q1 b (I1.hok.fresh le)
  have kk : ∀ c o, hp.get? c = some o → h2.get? c = some o := fun c o r => Heap.get?_push_of_some _ (Heap.get?_push_of_some _ r)
  have gb : h2.get? b = some (PySem.HandSPX.excO C hp.objs.size) := by
    show ((hp.push (PySem.W.kdv_tup us)).push (PySem.HandSPX.excO C hp.objs.size)).get? (hp.objs.size + 1) = _
    heap_get
  have I2 : Inv X pins z (upd H1 b (exo b C none)) ⟨h2, g, dr, tk, os⟩ := I1.laid (t' := tk) (a := b) (h' := h2) kk le (exo_ok gb)
  have r2 : Vals (V.ref b :: (vs ++ dvs)) (Value.ref b :: (us ++ ds)) := .cons rfl (r1.append hd)
  have ln : (Value.ref b :: us ++ ds).length = ps.length := r2.length.symm.trans (F1.len _ _ _ _ hq)
  have lu : us.length ≤ sizeLine := by rw [← Paired.length r1, sizeLine_eq]; omega
  refine wpAny_call (PySem.HandSPX.call_ownK FB c0 cA cN (I1.kIn _ _ hC) (PySem.W.looks_findIn I1.kIn iC) (fun self => PySem.W.bind_fn I1.kIn self tI) lu (codeAny_mono (F1.run _ X.stack _ _ ⟨Value.ref b :: us, []⟩ (Value.ref b :: (us ++ ds)) _ _ (fun _ _ _ => False) (hr.make C us []) (I2.env0.make C us []) (hb _ (Value.ref b :: us) I2.kIn ln) r2 hq) fun r s2 hq2 => ?_))
  cases r with
  | error er => exact hx pins z _ _ er s2 I2 hq2
  | ok fl => cases fl with
    | ret u =>
      obtain ⟨v, H2, o2, br, un2, hok2, rv, ev, d, fs, ea, ed, hd1, q2⟩ := hq2
      subst ev; obtain ⟨h3, g2, d2, t2, o3⟩ := s2
      exact ⟨rv, mk_end (raises_own T.be T.ty) I1 le kk un2 hok2 o2 br ea ed hd1 q2⟩
    | next => exact hq2.elim
    | brk => exact hq2.elim
    | cont => exact hq2.elim
end
/-- what the text says of the error's class -/
structure ErrH (P : Program) (w : World) (K : PySem.W.Frag) (mg : Str → Option Value) (base : Heap) (x f : Str) (C : Addr) : Prop where
  oex : OexH K C
  mgC : mg x = some (.ref C)
  ini : ∃ fI fd, PySem.W.findIn K (.ref C) "__init__" = some (some (.ref fI)) ∧ PySem.W.typeIn K (.ref fI) = some (.type "function") ∧ FnOk P w K mg base CX0 1 fI fd ["self", f] (spInit K C f) ∧ Binds K fd ["self", f] [] ∧ ∀ (s : Shared) (y u : Value), BindsTo s fd ⟨[y], [(f, u)]⟩ ((["self", f] : List Str).zip [y, u])
section
variable {T : Tx} {X : Cx} {C : Addr} {cn9 : String} {x f : Str} {e : Expr} {g : Ws → Hv → Res (List W)} {p pos pos' : Pos}
theorem ss_raiseH (Z : ErrH X.prog X.w X.K X.mg X.base x f C) (hcv : T.cv cn9 = .ref C) (hr : Room 2 X.A) (hg : Gl X x) (ha : SA T X [e] g) (hc : X.calm = true := by rfl) (hdb : (x == ("__debug__" : Str)) = false := by decide)
    (he : starEach [e] X.env = (false, eval e X.env) :: starEach [] X.env := by rfl) (hpl : (backTo pos' (starEach [] X.env)).any (·.1) = false := by rfl) : SS T X (.Raise (some (.Call (.Name x p) [e] [] pos')) none pos) (mRaise cn9 f g) := fun E cn => by
  obtain ⟨fI, fd, h1, h2, h3, h4, _⟩ := Z.ini
  refine PSi (ps_raise hc cn.tk (pmk_oexH Z.oex h1 h2 hr h3 h4 .nil pass0 hg Z.mgC (ha E cn) hdb he hpl)) fun D s H ⟨ps, r, hv, es, vw, gd⟩ => ?_
  refine ⟨ps, r, hv, es, vw, (good_andS (R := WVs) es gd).imp (fun vs H1 q => ?_) fun _ _ _ z => z⟩
  obtain ⟨qs, ws, hh, st, vw1, wv, es1, g1⟩ := q
  split at g1
  · rename_i w
    obtain ⟨v, rfl, wv1⟩ := one_of wv
    refine ⟨by simp, fun a na => ⟨a, v, rfl, upd_same, fun dx hd ne => ⟨rfl, dx, [(f, v)], upd_same, by rw [upd_ne ne, upd_same], ?_, ?_⟩⟩⟩
    · rw [upd_ne ne] at hd
      exact hd
    · rw [upd_ne ne] at hd
      have eqH : upd (del (upd (upd (upd H1 a (exo a C none)) dx (exd dx [(f, v)])) a (exo a C (some dx))) a) dx (.xd [(f, v)]) = upd H1 dx (.xd [(f, v)]) := by
        funext b
        by_cases hb : b = dx
        · rw [hb, upd_same, upd_same]
        · rw [upd_ne hb, upd_ne hb]
          by_cases ha : b = a
          · rw [ha, del_same, na]
          · rw [del_ne ha, upd_ne ha, upd_ne hb, upd_ne ha]
      rw [eqH]
      obtain ⟨vw2, st2, e2⟩ := vw1.alloc hd (o := .xd [(f, w)]) (u := .xd [(f, v)]) ⟨_, .cons ⟨rfl, wv1⟩ .nil, upd_same⟩
      rw [← hcv]
      exact g1 _ _ s (some dx) st2 vw2 (es1.mono st2.pre) ⟨dx, e2, rfl⟩
  · exact g1.elim
end

/-! ### an error as a value -/
theorem kbind1 {K : PySem.W.Frag} {x qual fl : Str} {st : Stmt} {f : Addr} {fd : FuncData} {ps : List Str} (F : Fun K x qual st f fd)
    (h : ∀ (kV doc pm : Value) (an : Option Addr) (cdv ct u v : Value), bindArgs (PySem.W.fnOf x qual (defArgs st) (defBody st) (defScope st) .none kV doc pm an cdv ct) ⟨[u], [(fl, v)]⟩ = pure (ps.zip [u, v])) (s : Shared) (u v : Value) : BindsTo s fd ⟨[u], [(fl, v)]⟩ (ps.zip [u, v]) := by
  obtain ⟨oc, od, kV, doc, pm, an, cdv, ct, osl, e, l, c⟩ := F.ex
  subst e
  exact .of_eq (h kV doc pm an cdv ct u v)
section
variable {X : Cx} {C : Addr} {f x : Str} {e : Expr} {ta : TA} {p pos : Pos}
theorem run_mkV (Z : ErrH X.prog X.w X.K X.mg X.base x f C) (hr : Room 2 X.A) {pins : List (Addr × Obj)} {z : L2.St} {H1 : Hp} {s1 : Shared} {Q : VK} {v : V} {u : Value} {rest : List Value} {kw : List (Str × Value)} (hrk : (rest = [u] ∧ kw = []) ∨ (rest = [] ∧ kw = [(f, u)])) (I1 : Inv X pins z H1 s1) (ru : RelV v u)
    (h : ∀ a dx, H1 a = none → H1 dx = none → dx ≠ a → Q (.ref a) (upd (upd H1 dx (exd dx [(f, v)])) a (exo a C (some dx)))) : wpAny (model X.prog X.w) X.A (call (.ref C) rest kw) (EP X pins z Q) X.xe s1 := by
  obtain ⟨fI, fd, iC, tI, F1, b1, b2⟩ := Z.ini
  obtain ⟨B, newId, initId, bmB0, B2, bmB, FB, SF, nm, q, N, bs, bm, sn, sub, ab, col, dd, k0, k1, k2, k3, k5, hC, hbm, c0, cA, cN⟩ := Z.oex.wh
  rcases s1 with ⟨hp, g, dr, tk, os⟩
  let b := hp.objs.size + 1
  let h2 := (hp.push (PySem.W.kdv_tup rest)).push (PySem.HandSPX.excO C hp.objs.size)
  have le : hp.objs.size ≤ b := Nat.le_succ _
  have nb : H1 b = none := I1.hok.fresh le
  have kk : ∀ c o, hp.get? c = some o → h2.get? c = some o := fun c o r => Heap.get?_push_of_some _ (Heap.get?_push_of_some _ r)
  have gb : h2.get? b = some (PySem.HandSPX.excO C hp.objs.size) := by
    show ((hp.push (PySem.W.kdv_tup rest)).push (PySem.HandSPX.excO C hp.objs.size)).get? (hp.objs.size + 1) = _
    heap_get
  have I2 : Inv X pins z (upd H1 b (exo b C none)) ⟨h2, g, dr, tk, os⟩ := I1.laid (t' := tk) (a := b) (h' := h2) kk le (exo_ok gb)
  have hq : spInit X.K C f [.ref b, v] (upd H1 b (exo b C none)) (fun y H' => y = .non ∧ Q (.ref b) H') (fun _ _ _ => False) := ⟨b, v, rfl, upd_same, fun dx hd ne => ⟨rfl, by
    rw [upd_ne ne] at hd
    have eqH : upd (upd (upd H1 b (exo b C none)) dx (exd dx [(f, v)])) b (exo b C (some dx)) = upd (upd H1 dx (exd dx [(f, v)])) b (exo b C (some dx)) := by
      funext c
      by_cases hb : c = b
      · rw [hb, upd_same, upd_same]
      · rw [upd_ne hb, upd_ne hb]
        by_cases hd2 : c = dx
        · rw [hd2, upd_same, upd_same]
        · rw [upd_ne hd2, upd_ne hd2, upd_ne hb]
    rw [eqH]
    exact h b dx nb hd ne⟩⟩
  have bt : BindsTo (⟨h2, g, dr, tk, os⟩ : Shared) fd ⟨.ref b :: rest, kw⟩ ((["self", f] : List Str).zip [.ref b, u]) := by
    rcases hrk with ⟨rfl, rfl⟩ | ⟨rfl, rfl⟩
    · exact b1 _ [.ref b, u] I2.kIn rfl
    · exact b2 _ _ _
  have lr : rest.length ≤ sizeLine := by
    rcases hrk with ⟨rfl, rfl⟩ | ⟨rfl, rfl⟩ <;> simp [sizeLine_eq]
  refine wpAny_call (PySem.HandSPX.call_ownK FB c0 cA cN (I1.kIn _ _ hC) (PySem.W.looks_findIn I1.kIn iC) (fun self => PySem.W.bind_fn I1.kIn self tI) lr (codeAny_mono (F1.run _ X.stack _ _ ⟨.ref b :: rest, kw⟩ [.ref b, u] [.ref b, v] _ (fun _ _ _ => False) (hr.make C rest kw) (I2.env0.make C rest kw) bt (.cons rfl (.cons ru .nil)) hq) fun r s2 hq2 => ?_))
  cases r with
  | error er => exact pass0 pins z _ _ er s2 I2 hq2
  | ok fl => cases fl with
    | ret w =>
      obtain ⟨y, H', I3, rv, ev, q3⟩ := I2.after hq2
      subst ev
      exact ⟨rv, .ref b, H', I3, rfl, q3⟩
    | next => exact hq2.elim
    | brk => exact hq2.elim
    | cont => exact hq2.elim
def tMkV (C : Addr) (f : Str) (ta : TA) : TE := fun z H Q => ta z H fun vs H1 => ∃ v, vs = [v] ∧ ∀ a dx, H1 a = none → H1 dx = none → dx ≠ a → Q (.ref a) (upd (upd H1 dx (exd dx [(f, v)])) a (exo a C (some dx)))
theorem pe_mkV (Z : ErrH X.prog X.w X.K X.mg X.base x f C) (hr : Room 2 X.A) (hg : Gl X x) (ha : PA X [e] ta) (hdb : (x == ("__debug__" : Str)) = false := by decide)
    (he : starEach [e] X.env = (false, eval e X.env) :: starEach [] X.env := by rfl) (hpl : (backTo pos (starEach [] X.env)).any (·.1) = false := by rfl) : PE X (.Call (.Name x p) [e] [] pos) (tMkV C f ta) := ⟨fun pins s z H Q I h => by
  refine wpAny_Call_Name_kw (ld_glob I hg Z.mgC (PySem.W.callWith_K (h₀ := X.base) I.ok.mod.kin Z.oex.kp (thn (ha.run pos pins s z H _ I h) fun us s1 ⟨vs, H1, I1, r1, v, ev, q1⟩ => ⟨I1.kIn, ?_⟩) he hpl) hdb)
  subst ev
  obtain ⟨u9, rfl, ru⟩ := vals1 r1
  exact run_mkV Z hr (.inl ⟨rfl, rfl⟩) I1 ru q1⟩
theorem pe_mkVK {kws : List Keyword} (Z : ErrH X.prog X.w X.K X.mg X.base x f C) (hr : Room 2 X.A) (hg : Gl X x) (hkw : PK X kws ta) (hall : (backToKw pos (keywordEach kws X.env)).all (·.1.isSome) = true := by rfl) (hks : (backToKw pos (keywordEach kws X.env)).filterMap (·.1) = [f] := by rfl)
    (hdb : (x == ("__debug__" : Str)) = false := by decide) (hpl : ((backTo pos (starEach [] X.env)).any (·.1) || (backToKw pos (keywordEach kws X.env)).any (·.1.isNone)) = false := by rfl) : PE X (.Call (.Name x p) [] kws pos) (tMkV C f ta) := ⟨fun pins s z H Q I h => by
  refine wpAny_Call_Name_kw (ld_glob I hg Z.mgC (PySem.W.callWith_KW0 (h₀ := X.base) I.ok.mod.kin Z.oex.kp hall (thn (hkw.run pos pins s z H _ I h) fun us s1 ⟨vs, H1, I1, r1, v, ev, q1⟩ => ⟨I1.kIn, ?_⟩) hpl) hdb)
  subst ev
  obtain ⟨u9, rfl, ru⟩ := vals1 r1
  rw [hks]
  exact run_mkV Z hr (.inr ⟨rfl, rfl⟩) I1 ru q1⟩
/-- e.n, e an error -/
theorem pe_erf {te : TE} {n : Str} (Y : XfC X.K C) (hno : PySem.W.findIn X.K (.ref C) n = some none) (he : PE X e te) (hb : attributeBase e n X.env (eval e X.env) = eval e X.env := by rfl) :
    PE X (.Attribute e n pos) (fun z H Q => te z H fun y H1 => ∃ a dd fs v, y = .ref a ∧ H1 a = some (exo a C (some dd)) ∧ H1 dd = some (exd dd fs) ∧ fs.lookup n = some v ∧ Q v H1) := ⟨fun pins s z H Q I h => attr_of hb (thn (he.run pins s z H _ I h) fun u s1 hh => by
  obtain ⟨y, H1, I1, rx, a, dd, fs, v, ex, ea, ed, l, q⟩ := hh
  subst ex
  have eu : u = Value.ref a := rx
  subst eu
  obtain ⟨t1, ho⟩ := exo_at I1.hok ea
  obtain ⟨mA, hns, hr⟩ := exd_at I1.hok ed
  obtain ⟨od, hod, hl⟩ := lookIn_ns hns
  obtain ⟨u9, hu, ru⟩ := RelO.some_of (v := v) (o := mA n) (by rw [← l]; exact hr n)
  exact HandSPX.exc_get I1.kIn (ox := { cls := .ref C, dict := some dd, data := .fields #[.ref t1, .none, .none, .none, .bool false, .none] }) (od := some od) ⟨ho, rfl, rfl, hod⟩ Y.ga Y.gg Y.exC (PySem.W.findObj_own Y.hdC hno rfl (by rw [hl, hu])) (handed_of ru) ⟨v, H1, I1.tok _, ru, q⟩)⟩
/-- isinstance(e, c), e an error -/
def rIsV (K : PySem.W.Frag) (cv : Value) : List V → Hp → VK → Prop := fun xs H Q => ∃ (a D dd : Addr) (fs : List (Str × V)) (c : V) (b : Bool), xs = [.ref a, c] ∧ ExcC K D ∧ H a = some (exo a D (some dd)) ∧ H dd = some (exd dd fs) ∧ (∀ u, RelV c u → u = cv) ∧ PySem.W.kitOne K (.ref D) cv = some b ∧ Q (.bl b) H
theorem call_isV {cv : Value} : CallR X (.builtin "isinstance") (rIsV X.K cv) := by
  intro pins s σ H xs us Q I r h; obtain ⟨a, D, dd, fs, c, b, rfl, Z, ea, ed, hcv, e, q⟩ := h
  cases r with
  | cons rx rr => cases rr with
    | cons rt rr =>
      cases rr; cases rx; obtain rfl := hcv _ rt
      obtain ⟨t1, ho⟩ := exo_at I.hok ea
      obtain ⟨mA, hns, hr⟩ := exd_at I.hok ed
      obtain ⟨od, hod, hl⟩ := lookIn_ns hns
      exact PySem.W.kia_one (VX.kit_of (x := a) (ox := { cls := .ref D, dict := some dd, data := .fields #[.ref t1, .none, .none, .none, .bool false, .none] }) Z) I.kIn ⟨some od, ho, rfl, rfl, hod⟩ e (fun z => nomatch z) fun tk => ⟨.bl b, H, I.kept (t' := tk) fun _ _ z => z, rfl, q⟩
end
/-! ### the mirrors -/
def mMkO (c : String) (f : Str) (ws : List W) (h : Hv) : Res W := match ws with
  | [w] => .val (.ref (h.length + 1)) (h ++ [.xdd [(f, w)]] ++ [.err c h.length])
  | _ => .bad
def mMkV (c : String) (f : Str) (g : Ws → Hv → Res (List W)) : Ws → Hv → Res W := fun r h => (g r h).bind (mMkO c f)
def mErO (c : String) (f : Str) (w : W) (h : Hv) : Res W := match w with
  | .ref p => (match h[p]? with
    | some (.err d j) => if d = c then (match h[j]? with
      | some (.xdd fs) => ofO (fs.lookup f) h
      | _ => .bad) else .bad
    | _ => .bad)
  | _ => .bad
def mEr (c : String) (f : Str) (g : Ws → Hv → Res W) : Ws → Hv → Res W := fun r h => (g r h).bind (mErO c f)
def mIvO (tb : List (String × Bool)) (w : W) (h : Hv) : Res W := match w with
  | .ref p => (match h[p]? with
    | some (.err d j) => (match h[j]?, tb.lookup d with
      | some (.xdd _), some b => .val (.bl b) h
      | _, _ => .bad)
    | _ => .bad)
  | _ => .bad
def mIv (tb : List (String × Bool)) (g : Ws → Hv → Res W) : Ws → Hv → Res W := fun r h => (g r h).bind (mIvO tb)
section
variable {T : Tx} {X : Cx} {C : Addr} {cn9 : String} {x f : Str} {e : Expr} {g : Ws → Hv → Res (List W)} {fe : Ws → Hv → Res W} {p pos : Pos}
theorem mk_read {ta : TA} {E : WX} (hcv : T.cv cn9 = .ref C) {s : L2.St} {H : Hp} {Q : VK} (h : tE T E (mMkV cn9 f g) s H Q) : tMkV C f (tA T E g) s H Q := by
  obtain ⟨ps, r, hv, es, vw, gd⟩ := h
  refine ⟨ps, r, hv, es, vw, (Good.bind (R := WVs) (S := WV) gd).imp (fun v H1 q => ?_) fun _ _ _ z => z⟩
  obtain ⟨qs, ws, h1, st, vw1, wv, g1⟩ := q
  unfold mMkO at g1
  split at g1
  · rename_i w
    obtain ⟨v, rfl, wv1⟩ := one_of wv
    refine ⟨v, rfl, fun a dx na nd ne => ?_⟩
    obtain ⟨vw2, st2, e2⟩ := vw1.alloc nd (o := .xdd [(f, w)]) (u := exd dx [(f, v)]) ⟨_, .cons ⟨rfl, wv1⟩ .nil, upd_same⟩
    have na2 : upd H1 dx (exd dx [(f, v)]) a = none := by rw [upd_ne (Ne.symm ne)]; exact na
    obtain ⟨vw3, st3, e3⟩ := vw2.alloc na2 (o := .err cn9 h1.length) (u := exo a C (some dx)) ⟨C, dx, hcv, e2, upd_same⟩
    have ln : (h1 ++ [O.xdd [(f, w)]]).length = h1.length + 1 := by simp
    rw [ln] at e3
    exact g1 _ _ _ (st2.trans st3) vw3 ⟨a, e3, rfl⟩
  · exact g1.elim
theorem se_mkV (Z : ErrH X.prog X.w X.K X.mg X.base x f C) (hcv : T.cv cn9 = .ref C) (hr : Room 2 X.A) (hg : Gl X x) (ha : SA T X [e] g) (hdb : (x == ("__debug__" : Str)) = false := by decide)
    (he : starEach [e] X.env = (false, eval e X.env) :: starEach [] X.env := by rfl) (hpl : (backTo pos (starEach [] X.env)).any (·.1) = false := by rfl) : SE T X (.Call (.Name x p) [e] [] pos) (mMkV cn9 f g) := fun E cn => PEi (pe_mkV Z hr hg (ha E cn) hdb he hpl) fun s H Q h => mk_read (ta := tA T E g) hcv h
theorem kw_read {E : WX} {s : L2.St} {H : Hp} {Q : List V → Hp → Prop} (h : tA T E (mCons fe mNil) s H Q) : tCons (tE T E fe) tNil s H Q := by
  obtain ⟨ps, r, hv, es, vw, gd⟩ := h
  refine ⟨ps, r, hv, es, vw, (Good.bind (R := WV) (S := WVs) gd).imp (fun v H1 q => ?_) fun _ _ _ z => z⟩
  obtain ⟨qs, w, h1, st, vw1, wv, g1⟩ := q
  exact Good.now (R := WVs) g1 vw1 (.cons wv .nil)
theorem PKi {kws : List Keyword} {t t' : TA} (h : PK X kws t) (k : ∀ s H Q, t' s H Q → t s H Q) : PK X kws t' := ⟨fun pos pins s σ H Q I hw => h.run pos pins s σ H Q I (k _ _ _ hw)⟩
theorem se_mkVK {nm : Option Str} {kpos : Pos} (Z : ErrH X.prog X.w X.K X.mg X.base x f C) (hcv : T.cv cn9 = .ref C) (hr : Room 2 X.A) (hg : Gl X x) (he : SE T X e fe) (hall : (backToKw pos (keywordEach [⟨nm, e, kpos⟩] X.env)).all (·.1.isSome) = true := by rfl) (hks : (backToKw pos (keywordEach [⟨nm, e, kpos⟩] X.env)).filterMap (·.1) = [f] := by rfl)
    (hdb : (x == ("__debug__" : Str)) = false := by decide) (hpl : ((backTo pos (starEach [] X.env)).any (·.1) || (backToKw pos (keywordEach [⟨nm, e, kpos⟩] X.env)).any (·.1.isNone)) = false := by rfl) : SE T X (.Call (.Name x p) [] [⟨nm, e, kpos⟩] pos) (mMkV cn9 f (mCons fe mNil)) := fun E cn =>
  PEi (pe_mkVK Z hr hg (PKi (pk_cons (he E cn) pk_nil) fun s H Q h => kw_read h) hall hks hdb hpl) fun s H Q h => mk_read (ta := tA T E (mCons fe mNil)) hcv h
theorem se_er {n : Str} (Y : XfC X.K C) (hno : PySem.W.findIn X.K (.ref C) n = some none) (hcv : T.cv cn9 = .ref C) (he : SE T X e fe) (hb : attributeBase e n X.env (eval e X.env) = eval e X.env := by rfl) : SE T X (.Attribute e n pos) (mEr cn9 n fe) := fun E cn => PEi (pe_erf Y hno (he E cn) hb) fun s H Q ⟨ps, r, hv, es, vw, gd⟩ => by
  refine ⟨ps, r, hv, es, vw, (Good.bind (R := WV) (S := WV) gd).imp (fun v H1 q => ?_) fun _ _ _ z => z⟩
  obtain ⟨qs, w, h1, st, vw1, wv, g1⟩ := q
  unfold mErO at g1
  split at g1
  · obtain ⟨a, ea, rfl⟩ := wv
    split at g1
    · rename_i d j e1
      split at g1
      · rename_i hd
        subst hd
        split at g1
        · rename_i fs e2
          obtain ⟨w, ew, g2⟩ := ofO_of g1
          obtain ⟨C', dx, hc, ej, eH⟩ := vw1.ob _ a _ ea e1
          rw [hcv] at hc
          cases hc
          obtain ⟨vs, rr, eX⟩ := vw1.ob _ dx _ ej e2
          obtain ⟨v, ev, wv⟩ := paired_lookup rr ew
          exact ⟨a, dx, vs, v, rfl, eH, eX, ev, Good.now g2 vw1 wv⟩
        · exact g1.elim
      · exact g1.elim
    · exact g1.elim
  · exact g1.elim
theorem se_iv {ec : Expr} {c : V} {cv : Value} {tb : List (String × Bool)} (htb : ∀ d b, tb.lookup d = some b → ∃ D, T.cv d = .ref D ∧ ExcC X.K D ∧ PySem.W.kitOne X.K (.ref D) cv = some b) (hgi : Gl X "isinstance") (hmi : X.mg "isinstance" = none) (he : SE T X e fe) (hc : PE X ec (tC c)) (hcv : ∀ u, RelV c u → u = cv)
    (hs1 : starEach [e, ec] X.env = (false, eval e X.env) :: starEach [ec] X.env := by rfl) (hs2 : starEach [ec] X.env = (false, eval ec X.env) :: starEach [] X.env := by rfl) (hpl : (backTo pos (starEach [ec] X.env)).any (·.1) = false := by rfl) :
    SE T X (.Call (.Name "isinstance" p) [e, ec] [] pos) (mIv tb fe) := fun E cn =>
  PEi (pe_callB (call_isV (cv := cv)) hgi hmi (by decide +kernel) (pa_cons (he E cn) (pa_cons hc pa_nil hs2) hs1) (by decide) (by decide) hs1 hpl) fun s H Q ⟨ps, r, hv, es, vw, gd⟩ => by
    refine ⟨ps, r, hv, es, vw, (Good.bind (R := WV) (S := WV) gd).imp (fun v H1 q => ?_) fun _ _ _ z => z⟩
    obtain ⟨qs, w, h1, st, vw1, wv, g1⟩ := q
    unfold mIvO at g1
    split at g1
    · obtain ⟨a, ea, rfl⟩ := wv
      split at g1
      · rename_i d j e1
        split at g1
        · rename_i fs b e2 e3
          obtain ⟨C', dx, hc', ej, eH⟩ := vw1.ob _ a _ ea e1
          obtain ⟨D, h2, h3, h4⟩ := htb d b e3
          rw [hc'] at h2
          cases h2
          obtain ⟨vs, rr, eX⟩ := vw1.ob _ dx _ ej e2
          exact ⟨a, C', dx, vs, c, b, rfl, h3, eH, eX, hcv, h4, Good.now g1 vw1 rfl⟩
        · exact g1.elim
      · exact g1.elim
    · exact g1.elim
end
end VL
end
section
namespace VL
open PySem L2 PySem.Spec PyProof.Rows
/-! ### a piece that needs little of the view: some plain names, and at most one flat object -/
def plainO : Option W → Option W
  | some w => if plainW w then some w else none
  | none => none
def keepR (ks : List Nat) : Nat → Ws → Ws
  | _, [] => []
  | i, o :: r => (if ks.contains i then plainO o else none) :: keepR ks (i + 1) r
def offR (r : Ws) : Ws := r.map fun _ => none
theorem keepR_len {ks : List Nat} : ∀ (i : Nat) (r : Ws), (keepR ks i r).length = r.length
  | _, [] => rfl
  | i, o :: r => by simp [keepR, keepR_len (i + 1) r]
theorem keepR_at {ks : List Nat} : ∀ (i : Nat) (r : Ws) (j : Nat) (w : W), (keepR ks i r)[j]? = some (some w) → r[j]? = some (some w) ∧ plainW w = true
  | _, [], j, w, h => by simp [keepR] at h
  | i, o :: r, 0, w, h => by
    simp only [keepR, List.getElem?_cons_zero, Option.some.injEq] at h
    split at h
    · cases o with
      | none => cases h
      | some u =>
        simp only [plainO] at h
        split at h
        · rename_i hp
          cases h
          exact ⟨rfl, hp⟩
        · cases h
    · cases h
  | i, o :: r, j + 1, w, h => by
    simp only [keepR, List.getElem?_cons_succ] at h ⊢
    exact keepR_at (i + 1) r j w h
theorem es_keep {ps qs : Pl} (ht : ∀ a vs, ps.tu a vs → qs.tu a vs) {ks : List Nat} {r : Ws} {s : L2.St} (e : ES ps r s) : ES qs (keepR ks 0 r) s := ⟨by rw [keepR_len]; exact e.1, fun i w h => by
  obtain ⟨h1, h2⟩ := keepR_at 0 r i w h
  obtain ⟨v, a, b⟩ := e.2 i w h1
  exact ⟨v, a, plainW_any ht h2 b⟩⟩
theorem es_off {ps qs : Pl} {r : Ws} {s : L2.St} (e : ES ps r s) : ES qs (offR r) s := ⟨by simp [offR, e.1], fun i w h => by
  unfold offR at h
  rw [List.getElem?_map] at h
  cases q : r[i]? with
  | none => rw [q] at h; cases h
  | some o => rw [q] at h; cases h⟩
def mLocal (ks : List Nat) (b : MS) : MS := fun r h => match b (keepR ks 0 r) [] with
  | .nx r1 _ => .nx (offR r1) h
  | .rt w _ => if plainW w then .rt w h else .bad
  | _ => .bad
theorem sss_local_read {T : Tx} {ks : List Nat} {b : MS} {E : WX} {D : Ends} {s : L2.St} {H : Hp} (hC : T.C []) (h : tS T E (mLocal ks b) D s H) : tS T E b D s H := by
  obtain ⟨ps, r, hv, es, vw, gd⟩ := h
  refine ⟨ps.off [], keepR ks 0 r, [], es_keep (ps := ps) (qs := ps.off []) (fun _ _ z => z) es, vw.nil hC, ?_⟩
  unfold mLocal at gd
  cases q : b (keepR ks 0 r) [] with
  | nx r1 h1 =>
    rw [q] at gd
    intro qs H' s' st vw' es'
    obtain ⟨v2, s2⟩ := vw.over st vw'
    exact gd _ H' s' s2 v2 (es_off es')
  | rt w h1 =>
    rw [q] at gd
    dsimp only at gd
    split at gd
    · rename_i hp
      intro qs H' v st vw' wv
      obtain ⟨v2, s2⟩ := vw.over st vw'
      exact gd _ H' v s2 v2 (plainW_any (ps := qs) (qs := qs.off ps.l) (fun _ _ z => z) hp wv)
    · exact gd.elim
  | bk r1 h1 => rw [q] at gd; exact gd.elim
  | ct r1 h1 => rw [q] at gd; exact gd.elim
  | exc c d r1 h1 => rw [q] at gd; exact gd.elim
  | bad => rw [q] at gd; exact gd.elim
theorem sss_local {T : Tx} {X : Cx} {sts : List Stmt} {b : MS} (ks : List Nat) (hC : T.C []) (h : SSs T X sts b) : SSs T X sts (mLocal ks b) := fun E cn => PSsi (h E cn) fun D s H h9 => sss_local_read hC h9
/-! ### what a piece has made is let go -/
mutual
def refLt (n : Nat) : W → Bool
  | .ref i => decide (i < n)
  | .tup xs => refLts n xs
  | _ => true
def refLts (n : Nat) : List W → Bool
  | [] => true
  | x :: xs => refLt n x && refLts n xs
end
def closedO (n : Nat) : O → Bool
  | .lst xs => xs.all (refLt n)
  | .rol xs => xs.all (refLt n)
  | .dic kvs => kvs.all fun p => refLt n p.2
  | .ins _ fs => fs.all fun p => refLt n p.2
  | .xd fs => fs.all fun p => refLt n p.2
  | .err _ j => decide (j < n)
  | .xdd fs => fs.all fun p => refLt n p.2
def dropR (n : Nat) (r : Ws) : Ws := r.map fun o => match o with
  | some w => if refLt n w then some w else none
  | none => none
def mGc (b : MS) : MS := fun r h => match b r h with
  | .nx r1 h1 => if (h1.take h.length).all (closedO h.length) then .nx (dropR h.length r1) (h1.take h.length) else .bad
  | x => x
section
variable {T : Tx} {ps qs : Pl} {n : Nat}
theorem pre_at (hp : Pl.Le ps qs) {i : Nat} {a : Addr} (hi : i < ps.l.length) (e : qs[i]? = some a) : ps[i]? = some a := by
  obtain ⟨⟨r, hr⟩, _⟩ := hp
  have e2 : qs.l[i]? = some a := e
  rw [← hr, List.getElem?_append_left hi] at e2
  exact e2
mutual
theorem wv_cut (hp : Pl.Le ps qs) (hn : ps.l.length = n) : ∀ {w : W} {v : V}, refLt n w = true → WV qs w v → WV (qs.off ps.l) w v
  | .non, _, _, e => e
  | .bl _, _, _, e => e
  | .int _, _, _, e => e
  | .str _, _, _, e => e
  | .ty _, _, _, e => e
  | .fix _, _, _, e => e
  | .ref i, _, h, ⟨a, e1, e2⟩ => ⟨a, pre_at hp (by rw [hn]; exact of_decide_eq_true h) e1, e2⟩
  | .tup xs, _, h, ⟨a, vs, e1, e2, e3⟩ => ⟨a, vs, e1, e2, wvl_cut hp hn (by unfold refLt at h; exact h) e3⟩
theorem wvl_cut (hp : Pl.Le ps qs) (hn : ps.l.length = n) : ∀ {ws : List W} {vs : List V}, refLts n ws = true → WVL qs ws vs → WVL (qs.off ps.l) ws vs
  | [], _, _, e => e
  | w :: ws, _, h, ⟨v, us, e1, e2, e3⟩ => by
    unfold refLts at h
    rw [Bool.and_eq_true] at h
    exact ⟨v, us, e1, wv_cut hp hn h.1 e2, wvl_cut hp hn h.2 e3⟩
end
theorem pair_cut (hp : Pl.Le ps qs) (hn : ps.l.length = n) : ∀ {xs : List W} {vs : List V}, xs.all (refLt n) = true → Paired (WV qs) xs vs → Paired (WV (qs.off ps.l)) xs vs
  | [], _, _, .nil => .nil
  | x :: xs, _, h, .cons r t => by
    simp only [Bool.and_eq_true, List.all_cons] at h
    exact .cons (wv_cut hp hn h.1 r) (pair_cut hp hn h.2 t)
theorem pair2_cut {k : Type} (hp : Pl.Le ps qs) (hn : ps.l.length = n) : ∀ {xs : List (k × W)} {vs : List (k × V)}, (xs.all fun p => refLt n p.2) = true → Paired (PW2 qs) xs vs → Paired (PW2 (qs.off ps.l)) xs vs
  | [], _, _, .nil => .nil
  | x :: xs, _, h, .cons r t => by
    simp only [Bool.and_eq_true, List.all_cons] at h
    exact .cons ⟨r.1, wv_cut hp hn h.1 r.2⟩ (pair2_cut hp hn h.2 t)
theorem oat_cut {H : Hp} {a : Addr} (hp : Pl.Le ps qs) (hn : ps.l.length = n) : ∀ {o : O}, closedO n o = true → OAt T qs H a o → OAt T (qs.off ps.l) H a o
  | .lst _, h, ⟨vs, r, e⟩ => ⟨vs, pair_cut hp hn h r, e⟩
  | .rol _, h, ⟨vs, ob, r, e⟩ => ⟨vs, ob, pair_cut hp hn h r, e⟩
  | .dic _, h, ⟨vs, r, e⟩ => ⟨vs, pair2_cut hp hn h r, e⟩
  | .ins _ _, h, ⟨vs, dx, C, q, r, e⟩ => ⟨vs, dx, C, q, pair2_cut hp hn h r, e⟩
  | .xd _, h, ⟨vs, r, e⟩ => ⟨vs, pair2_cut hp hn h r, e⟩
  | .err _ j, h, ⟨C, dx, e1, e2, e3⟩ => ⟨C, dx, e1, pre_at hp (by rw [hn]; exact of_decide_eq_true h) e2, e3⟩
  | .xdd _, h, ⟨vs, r, e⟩ => ⟨vs, pair2_cut hp hn h r, e⟩
theorem es_cut {r : Ws} {s : L2.St} (hp : Pl.Le ps qs) (hn : ps.l.length = n) (e : ES qs r s) : ES (qs.off ps.l) (dropR n r) s := ⟨by simp [dropR, e.1], fun i w h => by
  unfold dropR at h
  rw [List.getElem?_map] at h
  cases q : r[i]? with
  | none => rw [q] at h; cases h
  | some o =>
    rw [q] at h
    cases o with
    | none => cases h
    | some u =>
      simp only [Option.map] at h
      split at h
      · rename_i hl
        cases h
        obtain ⟨v, a, b⟩ := e.2 i _ q
        exact ⟨v, a, wv_cut hp hn hl b⟩
      · cases h⟩
theorem gc_read {b : MS} {E : WX} {D : Ends} {s : L2.St} {H : Hp} (h9 : tS T E (mGc b) D s H) : tS T E b D s H := by
  obtain ⟨ps, r, hv, es, vw, gd⟩ := h9
  refine ⟨ps, r, hv, es, vw, ?_⟩
  unfold mGc at gd
  cases q : b r hv with
  | nx r1 h1 =>
    rw [q] at gd
    dsimp only at gd
    split at gd
    · rename_i hc
      intro qs H' s' st vw' es'
      have hn : ps.l.length = hv.length := vw.len
      have hle : ps.l.length ≤ qs.l.length := st.pre.1.length_le
      have hl1 : h1.length = qs.l.length := vw'.len.symm
      have le : Pl.Le ps (qs.off ps.l) := ⟨List.prefix_refl _, st.pre.2⟩
      refine gd (qs.off ps.l) H' s' ⟨le, fun _ _ z n _ => absurd z n, st.fr⟩ ⟨?_, vw.nd, fun i a o e1 e2 => ?_, vw'.tab, vw.fact, vw'.tup⟩ (es_cut st.pre hn es')
      · show ps.l.length = (h1.take hv.length).length
        rw [List.length_take]; omega
      · have e1' : ps.l[i]? = some a := e1
        have hi : i < ps.l.length := (List.getElem?_eq_some_iff.mp e1').1
        have e3 : h1[i]? = some o := by
          rw [List.getElem?_take_of_lt (by omega)] at e2
          exact e2
        have co : closedO hv.length o = true := List.all_eq_true.mp hc o (List.mem_of_getElem? e2)
        exact oat_cut st.pre hn co (vw'.ob i a o (at_pre st.pre e1) e3)
    · exact gd.elim
  | rt w h1 => rw [q] at gd; exact gd
  | bk r1 h1 => rw [q] at gd; exact gd
  | ct r1 h1 => rw [q] at gd; exact gd
  | exc c d r1 h1 => rw [q] at gd; exact gd
  | bad => rw [q] at gd; exact gd
theorem sss_gc {X : Cx} {sts : List Stmt} {b : MS} (h : SSs T X sts b) : SSs T X sts (mGc b) := fun E cn => PSsi (h E cn) fun D s H h9 => gc_read h9
theorem ss_gc {X : Cx} {st : Stmt} {b : MS} (h : SS T X st b) : SS T X st (mGc b) := fun E cn => PSi (h E cn) fun D s H h9 => gc_read h9
end
end VL
end
section
namespace VL
open PySem L2 PySem.Spec PyProof.Rows
/-! ### a op b op' c -/
def mChain (g g' : MOp) (fa fb fc : Ws → Hv → Res W) : Ws → Hv → Res W := fun r h => (fa r h).bind fun x h1 => (fb r h1).bind fun y h2 => (g x y h2).bind fun z h3 => match z with
  | .bl true => (fc r h3).bind fun w h4 => g' y w h4
  | .bl false => .val (.bl false) h3
  | _ => .bad
/-- an operator that leaves the view as it is -/
def Calm (g : MOp) : Prop := ∀ x y h z h', g x y h = .val z h' → h' = h
section
variable {T : Tx} {X : Cx} {a b c : Expr} {fa fb fc : Ws → Hv → Res W} {pos : Pos} {op op' : CmpOp} {r r' : R2} {g g' : MOp}
theorem chain_of {E : WX} (ho : RO T r g) (ho' : RO T r' g') {s : L2.St} {H : Hp} {Q : VK} (h : tE T E (mChain g g' fa fb fc) s H Q) : tChain r r' (tE T E fa) (tE T E fb) (tE T E fc) s H Q := by
  obtain ⟨ps, q, hv, es, vw, gd⟩ := h
  refine ⟨ps, q, hv, es, vw, (Good.bind (R := WV) (S := WV) gd).imp (fun v H1 z1 => ?_) fun _ _ _ z => z⟩
  obtain ⟨qs, w, h1, st, vw1, wv, g1⟩ := z1
  refine ⟨qs, q, h1, es.mono st.pre, vw1, (Good.bind (R := WV) (S := WV) g1).imp (fun u H2 z2 => ?_) fun _ _ _ z => z⟩
  obtain ⟨rs, w2, h2, st2, vw2, wv2, g2⟩ := z2
  refine ho rs h2 H2 w w2 v u _ (fun c d H' => E c d s H') vw2 (wv.mono st2.pre) wv2 ((Good.bind (R := WV) (S := WV) g2).imp (fun k H3 z3 => ?_) fun _ _ _ z => z)
  obtain ⟨ts, w3, h3, st3, vw3, wv3, g3⟩ := z3
  dsimp only at g3
  split at g3
  · cases wv3
    refine ⟨true, rfl, iteT ⟨ts, q, h3, ((es.mono st.pre).mono st2.pre).mono st3.pre, vw3, (Good.bind (R := WV) (S := WV) g3).imp (fun y H4 z4 => ?_) fun _ _ _ z => z⟩⟩
    obtain ⟨us, w4, h4, st4, vw4, wv4, g4⟩ := z4
    exact ho' us h4 H4 w2 w4 u y Q _ vw4 ((wv2.mono st3.pre).mono st4.pre) wv4 g4
  · cases wv3
    exact ⟨false, rfl, iteF (Good.now g3 vw3 rfl)⟩
  · exact g3.elim
theorem se_chain (ho : OpR X (compareOp op) r) (ho' : OpR X (compareOp op') r') (hg : RO T r g) (hg' : RO T r' g') (ha : SE T X a fa) (hb : SE T X b fb) (hc : SE T X c fc) (hm : lastMarks [op, op'] [b, c] = false := by with_unfolding_all rfl) :
    SE T X (.Compare a [op, op'] [b, c] pos) (mChain g g' fa fb fc) := fun E cn => PEi (pe_chain ho ho' (ha E cn) (hb E cn) (hc E cn) hm) fun s H Q h => chain_of hg hg' h
theorem st_chain (ho : OpR X (compareOp op) r) (ho' : OpR X (compareOp op') r') (hg : RO T r g) (hg' : RO T r' g') (ha : SE T X a fa) (hb : SE T X b fb) (hc : SE T X c fc) (hm : lastMarks [op, op'] [b, c] = false := by with_unfolding_all rfl) :
    STt T X (.Compare a [op, op'] [b, c] pos) (mT (mChain g g' fa fb fc)) := fun E cn => PTi (pt_chain ho ho' (ha E cn) (hb E cn) (hc E cn) hm) fun s H Q h => chain_of hg hg' (test_of h)
end
/-! ### x.isascii() and the like -/
def mSm (f : Str → Bool) (fo : Ws → Hv → Res W) : Ws → Hv → Res W := fun r h => (fo r h).bind fun w h1 => match w with
  | .str x => .val (.bl (f x)) h1
  | _ => .bad
section
variable {T : Tx} {X : Cx} {o : Expr} {fo : Ws → Hv → Res W} {name : Str} {apos cpos : Pos} {f : Str → Bool}
theorem se_sm (hp : ∀ {to : TE}, PE X o to → PE X (.Call (.Attribute o name apos) [] [] cpos) (tBM0 X.K "str" (fun x xs H Q => ∃ a, x = .str a ∧ xs = [] ∧ True ∧ Q (.bl (f a)) H) to)) (ho : SE T X o fo) : SE T X (.Call (.Attribute o name apos) [] [] cpos) (mSm f fo) := fun E cn => PEi (hp (ho E cn)) fun s H Q ⟨ps, r, hv, es, vw, gd⟩ => by
  refine ⟨ps, r, hv, es, vw, (Good.bind (R := WV) (S := WV) gd).imp (fun v H1 q => ?_) fun _ _ _ z => z⟩
  obtain ⟨qs, w, h1, st, vw1, wv, g1⟩ := q
  dsimp only at g1
  split at g1
  · cases wv
    exact ⟨by first | exact ⟨_, rfl⟩ | exact .inr ⟨rfl, _, rfl⟩ | trivial | simp [tyV], _, rfl, rfl, trivial, Good.now g1 vw1 rfl⟩
  · exact g1.elim
end
/-! ### own classes -/
def putW (f : Str) (w : W) : List (Str × W) → List (Str × W)
  | [] => [(f, w)]
  | (g, x) :: r => if g = f then (g, w) :: r else (g, x) :: putW f w r
theorem put_pair {ps : Pl} {f : Str} {w : W} {v : V} (wv : WV ps w v) : ∀ {fs : List (Str × W)} {vs : List (Str × V)}, Paired (PW2 ps) fs vs → Paired (PW2 ps) (putW f w fs) (putF f v vs)
  | [], _, .nil => .cons ⟨rfl, wv⟩ .nil
  | (k, u) :: fs, (k', u') :: vs, .cons r t => by
    obtain ⟨rk, r⟩ := r
    dsimp only at rk r
    subst rk
    unfold putW putF
    split
    · exact .cons ⟨rfl, wv⟩ t
    · exact .cons ⟨rfl, r⟩ (put_pair wv t)
theorem look_none {ps : Pl} {f : Str} : ∀ {fs : List (Str × W)} {vs : List (Str × V)}, Paired (PW2 ps) fs vs → fs.lookup f = none → vs.lookup f = none
  | [], _, .nil, _ => rfl
  | (k, u) :: fs, (k', u') :: vs, .cons r t, e => by
    obtain ⟨rk, r⟩ := r
    dsimp only at rk
    subst rk
    rw [List.lookup_cons] at e ⊢
    cases q : f == k with
    | true => rw [q] at e; cases e
    | false =>
      rw [q] at e
      exact look_none t e
theorem pair_len {ps : Pl} {k : Type} : ∀ {fs : List (k × W)} {vs : List (k × V)}, Paired (PW2 ps) fs vs → fs.length = vs.length := fun r => r.length
/-- e.f -/
def mFldO (c : String) (f : Str) (w : W) (h : Hv) : Res W := match w with
  | .ref p => (match h[p]? with
    | some (.ins d fs) => if d = c then ofO (fs.lookup f) h else .bad
    | _ => .bad)
  | _ => .bad
def mFld (c : String) (f : Str) (fo : Ws → Hv → Res W) : Ws → Hv → Res W := fun r h => (fo r h).bind (mFldO c f)
/-- o.f = e -/
def mPutF (c : String) (f : Str) (fo fe : Ws → Hv → Res W) : MS := fun r h => (fe r h).andS r fun w h1 => (fo r h1).andS r fun o h2 => match o with
  | .ref p => (match h2[p]? with
    | some (.ins d fs) => if d = c ∧ fs.length < 1000 then .nx r (h2.set p (.ins d (putW f w fs))) else .bad
    | _ => .bad)
  | _ => .bad
/-- o.m(..) -/
def mMethO (c : String) (m : Str) (n : Nat) (mf : MFn) (g : Ws → Hv → Res (List W)) (r : Ws) (w : W) (h : Hv) : Res W := match w with
  | .ref p => (match h[p]? with
    | some (.ins d fs) => if d = c ∧ fs.lookup m = none then (g r h).bind fun ws h2 => if ws.length = n then mf (w :: ws) h2 else .bad else .bad
    | _ => .bad)
  | _ => .bad
def mMeth (c : String) (m : Str) (n : Nat) (mf : MFn) (fo : Ws → Hv → Res W) (g : Ws → Hv → Res (List W)) : Ws → Hv → Res W := fun r h => (fo r h).bind (mMethO c m n mf g r)
/-- C(..) -/
def mMake (c : String) (n : Nat) (mf : MFn) (g : Ws → Hv → Res (List W)) : Ws → Hv → Res W := fun r h => (g r h).bind fun ws h1 => if ws.length = n then (mf (.ref h1.length :: ws) (h1 ++ [.ins c []])).bind fun v h2 => (match v with
  | .non => .val (.ref h1.length) h2
  | _ => .bad) else .bad
theorem notI {H : Hp} {a C dx : Addr} {fs : List (Str × V)} (e : H a = some (.ins C dx fs)) : ∀ u0, H a = some u0 → ∀ f, u0 ≠ .ext f := fun u0 h f z => by
  rw [e] at h
  cases h
  cases z
section
variable {T : Tx} {X : Cx} {C : Addr} {c : String} {f m x : Str} {o e : Expr} {es : List Expr} {fo fe : Ws → Hv → Res W} {g : Ws → Hv → Res (List W)} {p pos pos' apos : Pos} {n : Nat} {mf : MFn} {fa : Addr}
theorem se_fld (hcv : T.cv c = .ref C) (hc : Cls X.K C) (hn : NoAttr X.K C f) (ho : SE T X o fo) (hb : attributeBase o f X.env (eval o X.env) = eval o X.env := by rfl) : SE T X (.Attribute o f pos) (mFld c f fo) := fun E cn => PEi (pe_fld (ho E cn) hb) fun s H Q ⟨ps, r, hv, es, vw, gd⟩ => by
  refine ⟨ps, r, hv, es, vw, (Good.bind (R := WV) (S := WV) gd).imp (fun v H1 q => ?_) fun _ _ _ z => z⟩
  obtain ⟨qs, w, h1, st, vw1, wv, g1⟩ := q
  unfold mFldO at g1
  split at g1
  · obtain ⟨a, ea, rfl⟩ := wv
    split at g1
    · rename_i d fs e1
      split at g1
      · rename_i hd
        subst hd
        obtain ⟨w, ew, g2⟩ := ofO_of g1
        obtain ⟨vs, dx, C', hc', rr, eH⟩ := vw1.ob _ a _ ea e1
        rw [hcv] at hc'
        cases hc'
        obtain ⟨v, ev, wv⟩ := paired_lookup rr ew
        exact ⟨a, C, dx, vs, v, rfl, eH, hc, hn, ev, Good.now g2 vw1 wv⟩
      · exact g1.elim
    · exact g1.elim
  · exact g1.elim
theorem ss_putF (hcv : T.cv c = .ref C) (hc : Cls X.K C) (hn : NoAttr X.K C f) (ho : SE T X o fo) (he : SE T X e fe) (hs : swapsWith e (some (.Attribute o f pos')) pos.line X.env = pure false := by rfl) : SS T X (.Assign [.Attribute o f pos'] e pos) (mPutF c f fo fe) := fun E cn => PSi (ps_fld (ho E cn) (he E cn) hs) fun D s H ⟨ps, r, hv, es, vw, gd⟩ => by
  refine ⟨ps, r, hv, es, vw, (good_andS (R := WV) es gd).imp (fun v H1 q => ?_) fun _ _ _ z => z⟩
  obtain ⟨qs, w, h1, st, vw1, wv, es1, g1⟩ := q
  refine ⟨qs, r, h1, es1, vw1, (good_andS (R := WV) es1 g1).imp (fun y H2 q2 => ?_) fun _ _ _ z => z⟩
  obtain ⟨rs, w2, h2, st2, vw2, wv2, es2, g2⟩ := q2
  try dsimp only at g2
  split at g2
  · obtain ⟨a, ea, rfl⟩ := wv2
    split at g2
    · rename_i d fs e1
      split at g2
      · rename_i hd
        obtain ⟨rfl, hl⟩ := hd
        obtain ⟨vs, dx, C', hc', rr, eH⟩ := vw2.ob _ a _ ea e1
        have hcc := hc'
        rw [hcv] at hcc
        cases hcc
        obtain ⟨vw3, st3⟩ := vw2.put ea (o := .ins d (putW f w fs)) (u := .ins C dx (putF f v vs)) ⟨_, dx, C, hcv, put_pair (wv.mono st2.pre) rr, upd_same⟩ (notI eH)
        exact ⟨a, C, dx, vs, rfl, eH, hc, hn, by rw [← pair_len rr]; exact hl, g2 _ _ s st3 vw3 es2⟩
      · exact g2.elim
    · exact g2.elim
  · exact g2.elim
theorem se_meth {pl : Sem Bool} (Cn9 : Can T X fa (n + 1) mf) (hcv : T.cv c = .ref C) (hc : Cls X.K C) (hm : Meth X.K C m fa) (ho : SE T X o fo) (ha : SA T X (e :: es) g) (hst : starEach (e :: es) X.env = (false, eval e X.env) :: starEach es X.env := by rfl) (hpl : (backTo pos (starEach es X.env)).any (·.1) = false := by rfl)
    (ht : eval
      (.Call (.Attribute o m apos) (e :: es) [] pos) X.env = (do
      let ov ← eval o X.env; standAt apos.atName
      let (f, first) ← holding [ov] (getMethod ov m pl); callWith pos f first (backTo pos (starEach (e :: es) X.env)) (backToKw pos (keywordEach [] X.env))) := by rfl) :
    SE T X (.Call (.Attribute o m apos) (e :: es) [] pos) (mMeth c m n mf fo g) := fun E cn => ⟨fun pins s σ H Q I h => by
  obtain ⟨ps, r, hv, es0, vw, gd⟩ := h
  refine PySem.W.methodCall_KW (pl := pl) (thn ((ho E cn).run pins s σ H _ I ⟨ps, r, hv, es0, vw, Good.bind (R := WV) (S := WV) gd⟩) fun u s1 hh => ?_) ht
  obtain ⟨y, H1, I1, rx, qs, w, h1, st, vw1, wv, g1⟩ := hh
  unfold mMethO at g1
  split at g1
  · rename_i p0
    obtain ⟨a, ea, rfl⟩ := wv
    split at g1
    · rename_i d fs e1
      split at g1
      · rename_i hd
        obtain ⟨rfl, hl⟩ := hd
        obtain ⟨vs, dx, C', hc', rr, eH⟩ := vw1.ob _ a _ ea e1
        rw [hcv] at hc'
        cases hc'
        have eu : u = Value.ref a := rx
        subst eu
        refine getmeth_ok I1 eH hc hm (look_none rr hl) ?_
        refine PySem.W.callWith_K (first := [.ref a]) (h₀ := X.base) I.ok.mod.kin hm.kp (thn ((ha E cn).run pos pins s1 σ H1 _ I1 ⟨qs, r, h1, es0.mono st.pre, vw1, Good.bind (R := WVs) (S := WV) g1⟩) fun us s2 h9 => ?_) hst hpl
        obtain ⟨zs, H2, I2, r2, ts, ws, h2, st2, vw2, wv2, g2⟩ := h9
        refine ⟨I2.kIn, ?_⟩
        dsimp only at g2
        split at g2
        · rename_i hn
          have ea2 := at_pre st2.pre ea
          exact Cn9.wp cn (us := .ref a :: us) (vs := .ref a :: zs) I2 (.cons rfl r2) ⟨by have := wv2.length; simp only [List.length_cons]; omega, ts, h2, .ref p0 :: ws, vw2, .cons ⟨a, ea2, rfl⟩ wv2, g2⟩
        · exact g2.elim
      · exact g1.elim
    · exact g1.elim
  · exact g1.elim⟩
theorem se_meth0 {pl : Sem Bool} (Cn9 : Can T X fa 1 mf) (hcv : T.cv c = .ref C) (hc : Cls X.K C) (hm : Meth X.K C m fa) (ho : SE T X o fo)
    (ht : eval
      (.Call (.Attribute o m apos) [] [] pos) X.env = (do
      let ov ← eval o X.env; standAt apos.atName
      let (f, first) ← holding [ov] (getMethod ov m pl); callWith pos f first (backTo pos (starEach [] X.env)) (backToKw pos (keywordEach [] X.env))) := by rfl) :
    SE T X (.Call (.Attribute o m apos) [] [] pos) (mMeth c m 0 mf fo mNil) := fun E cn => ⟨fun pins s σ H Q I h => by
  obtain ⟨ps, r, hv, es0, vw, gd⟩ := h
  refine PySem.W.methodCall_KW (pl := pl) (thn ((ho E cn).run pins s σ H _ I ⟨ps, r, hv, es0, vw, Good.bind (R := WV) (S := WV) gd⟩) fun u s1 hh => ?_) ht
  obtain ⟨y, H1, I1, rx, qs, w, h1, st, vw1, wv, g1⟩ := hh
  unfold mMethO at g1
  split at g1
  · rename_i p0
    obtain ⟨a, ea, rfl⟩ := wv
    split at g1
    · rename_i d fs e1
      split at g1
      · rename_i hd
        obtain ⟨rfl, hl⟩ := hd
        obtain ⟨vs, dx, C', hc', rr, eH⟩ := vw1.ob _ a _ ea e1
        rw [hcv] at hc'
        cases hc'
        have eu : u = Value.ref a := rx
        subst eu
        refine getmeth_ok I1 eH hc hm (look_none rr hl) ?_
        exact PySem.W.callWith_K0 (first := [.ref a]) I1.kIn hm.kp (Cn9.wp cn (us := [.ref a]) (vs := [.ref a]) I1 (.cons rfl .nil) ⟨rfl, qs, h1, [.ref p0], vw1, .cons ⟨a, ea, rfl⟩ .nil, g1⟩)
      · exact g1.elim
    · exact g1.elim
  · exact g1.elim⟩
/-- what the text says of a class that is made -/
structure MkV (T : Tx) (P : Program) (w : World) (K : PySem.W.Frag) (mg : Str → Option Value) (base : Heap) (k : Nat) (x : Str) (c : String) (C : Addr) (n : Nat) (mf : MFn) : Prop where
  cv : T.cv c = .ref C
  mgC : mg x = some (.ref C)
  ini : ∃ fI fd qs, Mk K C fI ∧ qs.length = n + 1 ∧ FnOk P w K mg base (L2.CX P w) k fI fd qs (spV T (n + 1) mf) ∧ Binds K fd qs []
theorem make_run {k : Nat} (M : MkV T X.prog X.w X.K X.mg X.base k x c C n mf) (hr : Room (k + 1) X.A) {E : WX} (cn : Cn X E) {pins : List (Addr × Obj)} {s : Shared} {σ : L2.St} {H : Hp} {us : List Value} {vs : List V} {Q : VK} {ps : Pl} {h1 : Hv} {ws : List W} (I : Inv X pins σ H s) (r : Vals vs us) (vw : View T ps h1 H) (wv : Paired (WV ps) ws vs) (hl : ws.length = n)
    (gd : Good T WV ps H ((mf (.ref h1.length :: ws) (h1 ++ [.ins c []])).bind fun v h2 => (match v with | .non => .val (.ref h1.length) h2 | _ => .bad)) Q (WE E σ)) : wpAny (model X.prog X.w) X.A (call (.ref C) us) (EP X pins σ Q) X.xe s := by
  obtain ⟨fI, fd, qs0, mk, ql, F, hb⟩ := M.ini
  obtain ⟨hp, gs, dr, tk, os⟩ := s
  let dx := hp.objs.size
  let y := hp.objs.size + 1
  have nd : H dx = none := I.hok.fresh (Nat.le_refl _)
  have ny : H y = none := I.hok.fresh (Nat.le_succ _)
  have ne : dx ≠ y := Nat.ne_of_lt (Nat.lt_succ_self _)
  have I2 := Inv.made I (C := C)
  have r2 : Vals (V.ref y :: vs) (Value.ref y :: us) := .cons rfl r
  have lu : (Value.ref y :: us).length = qs0.length := by
    have a := r.length
    have b := wv.length
    simp only [List.length_cons]
    omega
  -- the view with the new object
  have vw0 : View T ps h1 (upd H dx (.own y)) := ⟨vw.len, vw.nd, fun i b o e1 e2 => (vw.ob i b o e1 e2).put fun u hu => by rw [upd_ne (ne_of_none hu nd)]; exact hu, tabs_new vw.tab nd _, vw.fact, fun a vs t => by
    have z := vw.tup a vs t
    rw [upd_ne (ne_of_none z nd)]
    exact z⟩
  have st0 : Step ps H ps (upd H dx (.own y)) := ⟨Pl.Le.refl _, fun _ _ z n _ => absurd z n, fun b u e _ _ => by rw [upd_ne (ne_of_none e nd)]; exact e⟩
  have ny2 : upd H dx (.own y) y = none := by rw [upd_ne (Ne.symm ne)]; exact ny
  obtain ⟨vw1, st1, e1⟩ := vw0.alloc ny2 (o := .ins c []) (u := .ins C dx []) ⟨[], dx, C, M.cv, .nil, upd_same⟩
  have prom : spV T (n + 1) mf (V.ref y :: vs) (upd (upd H dx (.own y)) y (.ins C dx [])) (fun v H2 => v = .non ∧ Q (.ref y) H2) (WE E σ) := by
    refine ⟨by have b := wv.length; simp only [List.length_cons]; omega, ps ++ [y], h1 ++ [.ins c []], .ref h1.length :: ws, vw1, .cons ⟨y, e1, rfl⟩ (WVs.mono st1.pre wv), ?_⟩
    have g0 := gd.step (st0.trans st1)
    refine (Good.bind (R := WV) (S := WV) g0).imp (fun v H2 q => ?_) fun _ _ _ z => z
    obtain ⟨ts, w2, h2, st2, vw2, wv2, gg⟩ := q
    dsimp only at gg
    split at gg
    · cases wv2
      exact ⟨rfl, gg.now (R := WV) vw2 ⟨y, at_pre st2.pre e1, rfl⟩⟩
    · exact gg.elim
  have bt := hb _ (Value.ref y :: us) I2.kIn (by simpa using lu)
  rw [List.append_nil] at bt
  refine wpAny_call (make_map (f := fI) I.kIn mk.makes mk.init (beq_iff_eq.mp mk.fn) (codeAny_mono (F.run _ X.stack _ _ ⟨Value.ref y :: us, []⟩ (Value.ref y :: us) _ _ (WE E σ) (hr.make C us []) (I2.env0.make C us []) bt r2 prom) fun fin s9 hq => ?_))
  match fin, hq with
  | .error er, hq => exact passAt cn.tk σ pins _ _ er s9 I2 hq
  | .ok (.ret u), hq =>
    obtain ⟨v, H', I3, rv, ev, q3⟩ := I2.after hq
    subst ev
    exact ⟨rv, V.ref y, H', I3, rfl, q3⟩
  | .ok .next, hq => exact hq.elim
  | .ok .brk, hq => exact hq.elim
  | .ok .cont, hq => exact hq.elim
theorem se_make {k : Nat} (M : MkV T X.prog X.w X.K X.mg X.base k x c C n mf) (hr : Room (k + 1) X.A) (hg : Gl X x) (ha : SA T X (e :: es) g) (hdb : (x == ("__debug__" : Str)) = false := by decide) (he : starEach (e :: es) X.env = (false, eval e X.env) :: starEach es X.env := by rfl) (hpl : (backTo pos (starEach es X.env)).any (·.1) = false := by rfl) :
    SE T X (.Call (.Name x p) (e :: es) [] pos) (mMake c n mf g) := fun E cn => ⟨fun pins s σ H Q I h => by
  obtain ⟨ps, r, hv, es0, vw, gd⟩ := h
  obtain ⟨fI, fd, qs0, mk, ql, F, hb⟩ := M.ini
  refine wpAny_Call_Name_kw (ld_glob I hg M.mgC ?_ hdb)
  refine PySem.W.callWith_K (h₀ := X.base) I.ok.mod.kin mk.kp (thn ((ha E cn).run pos pins s σ H _ I ⟨ps, r, hv, es0, vw, Good.bind (R := WVs) (S := WV) gd⟩) fun us s1 hh => ?_) he hpl
  obtain ⟨zs, H1, I1, r1, qs, ws, h1, st, vw1, wv, g1⟩ := hh
  refine ⟨I1.kIn, ?_⟩
  dsimp only at g1
  split at g1
  · rename_i hn
    exact make_run M hr cn I1 r1 vw1 wv hn g1
  · exact g1.elim⟩
end
end VL
end
section
namespace VL
open PySem L2 PySem.Spec PyProof.Rows
/-! ### xs.pop(), xs.clear(), xs.extend(ys), list(xs) -/
def mPopO (w : W) (h : Hv) : Res W := match w with
  | .ref p => (match h[p]? with
    | some (.lst xs) => (match xs[xs.length - 1]? with
      | some y => .val y (h.set p (.lst xs.dropLast))
      | none => .bad)
    | _ => .bad)
  | _ => .bad
def mPop (fo : Ws → Hv → Res W) : Ws → Hv → Res W := fun r h => (fo r h).bind mPopO
def mClearO (w : W) (h : Hv) : Res W := match w with
  | .ref p => (match h[p]? with
    | some (.lst _) => .val .non (h.set p (.lst []))
    | _ => .bad)
  | _ => .bad
def mClear (fo : Ws → Hv → Res W) : Ws → Hv → Res W := fun r h => (fo r h).bind mClearO
def mExt (fo fe : Ws → Hv → Res W) : Ws → Hv → Res W := fun r h => (fo r h).bind fun o h1 => match o with
  | .ref p => (match h1[p]? with
    | some (.lst _) => (fe r h1).bind fun w h2 => (match w with
      | .ref q => (match h2[p]?, h2[q]? with
        | some (.lst xs), some (.lst zs) => if xs.length + zs.length ≤ 100000 then .val .non (h2.set p (.lst (xs ++ zs))) else .bad
        | _, _ => .bad)
      | _ => .bad)
    | _ => .bad)
  | _ => .bad
def mListOf : MFn := fun ws h => match ws with
  | [.ref p] => (match h[p]? with
    | some (.lst xs) => mNew (.lst xs) h
    | some (.rol xs) => mNew (.lst xs) h
    | _ => .bad)
  | [.tup xs] => mNew (.lst xs) h
  | _ => .bad
section
variable {T : Tx} {X : Cx} {o e : Expr} {fo fe : Ws → Hv → Res W} {apos cpos : Pos}
theorem paired_last {ps : Pl} : ∀ {xs : List W} {vs : List V}, Paired (WV ps) xs vs → Paired (WV ps) xs.dropLast vs.dropLast := fun {xs vs} r => by
  have l : xs.length = vs.length := r.length
  rw [List.dropLast_eq_take, List.dropLast_eq_take, l]
  exact paired_take r _
theorem se_pop (ho : SE T X o fo) (hp : ∀ {to : TE}, PE X o to → PE X (.Call (.Attribute o "pop" apos) [] [] cpos) (tBM0 X.K "list" rPop to) := by exact fun a => pe_bm0 PySem.F.plainAttrs_list PySem.F.slot_list_pop PySem.F.type_list_pop mt_pop a) : SE T X (.Call (.Attribute o "pop" apos) [] [] cpos) (mPop fo) := fun E cn => PEi (hp (ho E cn)) fun s H Q ⟨ps, r, hv, es, vw, gd⟩ => by
  refine ⟨ps, r, hv, es, vw, (Good.bind (R := WV) (S := WV) gd).imp (fun v H1 q => ?_) fun _ _ _ z => z⟩
  obtain ⟨qs, w, h1, st, vw1, wv, g1⟩ := q
  unfold mPopO at g1
  split at g1
  · obtain ⟨a, ea, rfl⟩ := wv
    split at g1
    · rename_i xs e1
      split at g1
      · rename_i y ey
        obtain ⟨vs, rr, eH⟩ := vw1.ob _ a _ ea e1
        have l1 : xs.length = vs.length := rr.length
        obtain ⟨u, eu, wu⟩ := paired_get rr ey
        obtain ⟨vw3, st3⟩ := vw1.put ea (o := .lst xs.dropLast) (u := .lst vs.dropLast) ⟨_, paired_last rr, upd_same⟩ (notX eH)
        exact ⟨.inl ⟨rfl, vs, SqL.of eH⟩, a, vs, u, rfl, rfl, eH, by rw [← l1]; exact eu, g1 _ _ _ st3 vw3 wu⟩
      · exact g1.elim
    · exact g1.elim
  · exact g1.elim
theorem se_clear (ho : SE T X o fo) (hp : ∀ {to : TE}, PE X o to → PE X (.Call (.Attribute o "clear" apos) [] [] cpos) (tBM0 X.K "list" rClear to) := by exact fun a => pe_bm0 PySem.F.plainAttrs_list PySem.F.slot_list_clear PySem.F.type_list_clear mt_clear a) : SE T X (.Call (.Attribute o "clear" apos) [] [] cpos) (mClear fo) := fun E cn => PEi (hp (ho E cn)) fun s H Q ⟨ps, r, hv, es, vw, gd⟩ => by
  refine ⟨ps, r, hv, es, vw, (Good.bind (R := WV) (S := WV) gd).imp (fun v H1 q => ?_) fun _ _ _ z => z⟩
  obtain ⟨qs, w, h1, st, vw1, wv, g1⟩ := q
  unfold mClearO at g1
  split at g1
  · obtain ⟨a, ea, rfl⟩ := wv
    split at g1
    · rename_i xs e1
      obtain ⟨vs, rr, eH⟩ := vw1.ob _ a _ ea e1
      obtain ⟨vw3, st3⟩ := vw1.put ea (o := .lst []) (u := .lst []) ⟨_, .nil, upd_same⟩ (notX eH)
      exact ⟨.inl ⟨rfl, vs, SqL.of eH⟩, a, vs, rfl, rfl, eH, g1 _ _ _ st3 vw3 rfl⟩
    · exact g1.elim
  · exact g1.elim
theorem se_extend (ho : SE T X o fo) (he : SE T X e fe) (hs : starEach [e] X.env = (false, eval e X.env) :: starEach [] X.env := by rfl)
    (hp : ∀ {to : TE} {t : TA}, PE X o to → PA X [e] t → PE X (.Call (.Attribute o "extend" apos) [e] [] cpos) (tBM X.K "list" rExtend to t) := by exact fun a b => pe_bm PySem.F.plainAttrs_list PySem.F.slot_list_extend PySem.F.type_list_extend mt_extend a b) :
    SE T X (.Call (.Attribute o "extend" apos) [e] [] cpos) (mExt fo fe) := fun E cn => PEi (hp (ho E cn) (pa_cons (he E cn) pa_nil hs)) fun s H Q ⟨ps, r, hv, es, vw, gd⟩ => by
  refine ⟨ps, r, hv, es, vw, (Good.bind (R := WV) (S := WV) gd).imp (fun v H1 q => ?_) fun _ _ _ z => z⟩
  obtain ⟨qs, w, h1, st, vw1, wv, g1⟩ := q
  dsimp only at g1
  split at g1
  · rename_i p
    obtain ⟨a, ea, rfl⟩ := wv
    split at g1
    · rename_i ys e1
      obtain ⟨vs, rr, eH⟩ := vw1.ob _ a _ ea e1
      refine ⟨.inl ⟨rfl, vs, SqL.of eH⟩, qs, r, h1, es.mono st.pre, vw1, (Good.bind (R := WV) (S := WV) g1).imp (fun y H2 q2 => ?_) fun _ _ _ z => z⟩
      obtain ⟨rs, wy, h2, st2, vw2, wvy, g2⟩ := q2
      dsimp only at g2
      split at g2
      · rename_i q0
        obtain ⟨b, eb, rfl⟩ := wvy
        split at g2
        · rename_i xs zs e2 e3
          split at g2
          · rename_i hl
            have ea2 := at_pre st2.pre ea
            obtain ⟨us, r2, eH2⟩ := vw2.ob _ a _ ea2 e2
            obtain ⟨us3, r3, eH3⟩ := vw2.ob _ b _ eb e3
            have l1 : xs.length = us.length := r2.length
            have l3 : zs.length = us3.length := r3.length
            obtain ⟨vw3, st3⟩ := vw2.put ea2 (o := .lst (xs ++ zs)) (u := .lst (us ++ us3)) ⟨_, paired_app r2 r3, upd_same⟩ (notX eH2)
            exact ⟨a, b, us, us3, rfl, rfl, eH2, eH3, sz_ok (by omega), g2 _ _ _ st3 vw3 rfl⟩
          · exact g2.elim
        · exact g2.elim
      · exact g2.elim
    · exact g1.elim
  · exact g1.elim
theorem rc_listOf : RC T (fun xs H Q => ∃ p ys, xs = [.ref p] ∧ (SqL X.K H p ys ∨ SqT X.K H p ys) ∧ ∀ l, H l = none → Q (.ref l) (upd H l (.lst ys))) mListOf := by
  intro ps h H ws vs Q E vw wv gd
  unfold mListOf at gd
  split at gd
  · obtain ⟨v, rfl, a, ea, rfl⟩ := one_of wv
    split at gd
    · rename_i xs e1
      obtain ⟨us, rr, eH⟩ := vw.ob _ a _ ea e1
      exact ⟨a, us, rfl, .inl (SqL.of eH), fun l hl => good_new vw gd (fun H' p' e => ⟨_, rr, e⟩) hl⟩
    · rename_i xs e1
      obtain ⟨us, ob, rr, eH⟩ := vw.ob _ a _ ea e1
      exact ⟨a, us, rfl, .inl (.inl (.inr ⟨ob, eH⟩)), fun l hl => good_new vw gd (fun H' p' e => ⟨_, rr, e⟩) hl⟩
    · exact gd.elim
  · obtain ⟨v, rfl, wv1⟩ := one_of wv
    obtain ⟨a, us, rfl, ht, rr⟩ := wv1.tup_of
    exact ⟨a, us, rfl, .inr (SqT.of (vw.tup a us ht)), fun l hl => good_new vw gd (fun H' p' e => ⟨_, rr, e⟩) hl⟩
  · exact gd.elim
end
/-! ### properties that raise nothing -/
def mPropO (c : String) (mf : MFn) (w : W) (h : Hv) : Res W := match w with
  | .ref p => (match h[p]? with
    | some (.ins d _) => if d = c then noX (mf [w] h) else .bad
    | _ => .bad)
  | _ => .bad
def mProp (c : String) (mf : MFn) (fo : Ws → Hv → Res W) : Ws → Hv → Res W := fun r h => (fo r h).bind (mPropO c mf)
section
variable {T : Tx} {X : Cx} {C pa fa : Addr} {c : String} {f : Str} {o : Expr} {fo : Ws → Hv → Res W} {pos : Pos} {mf : MFn} {k : Nat} {fd : FuncData} {qs0 : List Str}
theorem se_prop (hcv : T.cv c = .ref C) (hc : Cls X.K C) (hp : PropOf X.K C f pa fa) (F : FnOk X.prog X.w X.K X.mg X.base (L2.CX X.prog X.w) k fa fd qs0 (spV T 1 mf)) (hr : Room (k + 1) X.A) (hb : Binds X.K fd qs0 []) (hx : Passes (L2.CX X.prog X.w) X.nox (fun _ _ _ => False)) (ho : SE T X o fo)
    (hab : attributeBase o f X.env (eval o X.env) = eval o X.env := by rfl) : SE T X (.Attribute o f pos) (mProp c mf fo) := fun E cn => PEi (pe_prop (ho E cn) hc hp F hr hb .nil hx hab) fun s H Q ⟨ps, r, hv, es, vw, gd⟩ => by
  refine ⟨ps, r, hv, es, vw, (Good.bind (R := WV) (S := WV) gd).imp (fun v H1 q => ?_) fun _ _ _ z => z⟩
  obtain ⟨qs, w, h1, st, vw1, wv, g1⟩ := q
  unfold mPropO at g1
  split at g1
  · rename_i p
    obtain ⟨a, ea, rfl⟩ := wv
    split at g1
    · rename_i d fs e1
      split at g1
      · rename_i hd
        subst hd
        obtain ⟨vs, dx, C', hc', rr, eH⟩ := vw1.ob _ a _ ea e1
        rw [hcv] at hc'
        cases hc'
        refine ⟨a, dx, vs, rfl, eH, rfl, qs, h1, [.ref p], vw1, .cons ⟨a, ea, rfl⟩ .nil, ?_⟩
        cases q : mf [.ref p] h1 with
        | val w2 h2 => rw [q] at g1; exact g1
        | exc c2 d2 h2 => rw [q] at g1; exact g1.elim
        | bad => rw [q] at g1; exact g1.elim
      · exact g1.elim
    · exact g1.elim
  · exact g1.elim
end
/-! ### isinstance(e, C), C an own class -/
def tyO (h : Hv) (w : W) : Option String := match w with
  | .ref p => (match h[p]? with
    | some (.ins c _) => some c
    | _ => none)
  | _ => none
def mIso (tb : List (String × Bool)) (w : W) (h : Hv) : Res W := match tyO h w with
  | some c => (match tb.lookup c with
    | some b => .val (.bl b) h
    | none => .bad)
  | none => (match tyN h w with
    | some _ => .val (.bl false) h
    | none => .bad)
/-- the built-in types that a view tells -/
def tyNs : List String := ["NoneType", "bool", "int", "str", "list", "tuple", "dict"]
theorem tyN_in {h : Hv} : ∀ {w : W} {t : String}, tyN h w = some t → t ∈ tyNs
  | .non, _, e => by cases e; decide
  | .bl _, _, e => by cases e; decide
  | .int _, _, e => by cases e; decide
  | .str _, _, e => by cases e; decide
  | .fix _, _, e => by cases e
  | .ty _, _, e => by cases e
  | .tup _, _, e => by cases e; decide
  | .ref p, _, e => by
    simp only [tyN] at e
    split at e <;> cases e <;> decide
/-- what an own class must have for its instances' types to be told -/
structure InsC (K : PySem.W.Frag)
    (C : Addr) : Prop where
  cl : Cls K C
  tells : PySem.W.findIn K (.ref C) "__class__" = some (some (.builtin "object.__class__")) ∧ PySem.W.specialIn K (.builtin "object.__class__") "__get__" = some (some (.builtin "getset_descriptor.__get__")) ∧
    PySem.W.takesIn K (.builtin "object.__class__") = some true ∧ PySem.W.mroIn K C (.type "object") = some true
section
variable {K : PySem.W.Frag} {C : Addr}
theorem InsC.ha (i : InsC K C) : PySem.W.findIn K (.ref C) "__class__" = some (some (.builtin "object.__class__")) := i.tells.1
theorem InsC.hn (i : InsC K C) : PySem.W.specialIn K (.builtin "object.__class__") "__get__" = some (some (.builtin "getset_descriptor.__get__")) := i.tells.2.1
theorem InsC.ht (i : InsC K C) : PySem.W.takesIn K (.builtin "object.__class__") = some true := i.tells.2.2.1
theorem InsC.hm (i : InsC K C) : PySem.W.mroIn K C (.type "object") = some true := i.tells.2.2.2
end
section
variable {T : Tx} {X : Cx} {e ec : Expr} {fe : Ws → Hv → Res W} {p pos : Pos} {C : Addr} {tb : List (String × Bool)}
theorem se_iso (htb : ∀ d b, tb.lookup d = some b → ∃ D, T.cv d = .ref D ∧ InsC X.K D ∧ PySem.W.kitOne X.K (.ref D) (.ref C) = some b) (hty : ∀ t ∈ tyNs, PySem.W.kitOne X.K (.type t) (.ref C) = some false) (hgi : Gl X "isinstance") (hmi : X.mg "isinstance" = none) (he : SE T X e fe) (hc : PE X ec (tC (.ref C)))
    (hs1 : starEach [e, ec] X.env = (false, eval e X.env) :: starEach [ec] X.env := by rfl) (hs2 : starEach [ec] X.env = (false, eval ec X.env) :: starEach [] X.env := by rfl) (hpl : (backTo pos (starEach [ec] X.env)).any (·.1) = false := by rfl) :
    SE T X (.Call (.Name "isinstance" p) [e, ec] [] pos) (fun r h => (fe r h).bind (mIso tb)) := fun E cn =>
  PEi (pe_callB call_isi hgi hmi (by decide +kernel) (pa_cons (he E cn) (pa_cons hc pa_nil hs2) hs1) (by decide) (by decide) hs1 hpl) fun s H Q ⟨ps, r, hv, es, vw, gd⟩ => by
    refine ⟨ps, r, hv, es, vw, (Good.bind (R := WV) (S := WV) gd).imp (fun v H1 q => ?_) fun _ _ _ z => z⟩
    obtain ⟨qs, w, h1, st, vw1, wv, g1⟩ := q
    unfold mIso at g1
    split at g1
    · rename_i c ec1
      split at g1
      · rename_i b eb
        unfold tyO at ec1
        split at ec1
        · obtain ⟨a, ea, rfl⟩ := wv
          split at ec1
          · rename_i d fs e1
            cases ec1
            obtain ⟨vs, dx, C', hc', rr, eH⟩ := vw1.ob _ a _ ea e1
            obtain ⟨D, h2, h3, h4⟩ := htb _ b eb
            rw [hc'] at h2
            cases h2
            exact ⟨.ref a, .ref C, .ref C', .ref C, b, rfl, .own C, .base (.ins eH h3.cl h3.ha h3.hn h3.ht h3.hm), h4, Good.now g1 vw1 rfl⟩
          · cases ec1
        · cases ec1
      · exact g1.elim
    · split at g1
      · rename_i t et
        exact ⟨v, .ref C, .type t, .ref C, false, rfl, .own C, tyN_ok vw1 et wv, hty t (tyN_in et), Good.now g1 vw1 rfl⟩
      · exact g1.elim
end
end VL
end
section
namespace VL
open PySem L2 PySem.Spec PyProof.Rows
/-! ### x == y, x an instance whose class has an __eq__ of its own that raises nothing -/
def rOwnE (K : PySem.W.Frag) (C : Addr) (sp : Sp) : R2 := fun x y H Q => ∃ a dx fs tb, x = .ref a ∧ H a = some (.ins C dx fs) ∧ TyX K H y tb ∧ PySem.W.notFirst K C tb = true ∧ sp [x, y] H Q (fun _ _ _ => False)
section
variable {T : Tx} {X : Cx} {C g : Addr} {c : String} {k : Nat} {fd : FuncData} {qs0 : List Str} {sp : Sp} {mf : MFn}
theorem op_ownE (hs : PySem.W.findIn X.K (.ref C) "__eq__" = some (some (.ref g))) (hf : PySem.W.isFn X.K (.ref g) = true) (F : FnOk X.prog X.w X.K X.mg X.base (L2.CX X.prog X.w) k g fd qs0 sp) (hb : Binds X.K fd qs0 []) (hr : Room k X.A) (hx : Passes (L2.CX X.prog X.w) X (fun _ _ _ => False)) : OpR X (compareOp .Eq) (rOwnE X.K C sp) := by
  intro pins s σ H x y v u Q I rx ry hh
  obtain ⟨a, dx, fs, tb, rfl, ha, ty, hn, q⟩ := hh
  cases (show v = .ref a from rx)
  obtain ⟨mA, O, _, _, _, _⟩ := ins_get I.hok ha
  obtain ⟨od, J, _⟩ := O.look
  obtain ⟨P, Z, pp, _⟩ := kit_of I ry ty
  obtain ⟨m, hF⟩ := I.fr
  refine PySem.W.cmp_K (op := .Eq) (tb := tb) hr.units0 hF I.ok.mod.kin J (Z.ty _ _ I.kIn pp) hn hs hf ?_
  refine wpAny_mono (run_fn (us := [.ref a, u]) (vs := [.ref a, y]) F hr hb .nil hx I (.cons rfl (.cons ry .nil)) q) (fun w s' z => ?_) fun _ _ x => x
  obtain ⟨z', H', I', rz,
    qz⟩ := z
  exact SlX.cmpback rz ⟨z', H', I', rz, qz⟩
/-- the types that are told apart from those of the class c -/
def mEqO (c : String) (cs : List String) (mf : MFn) : MOp := fun x y h => match x with
  | .ref p => (match h[p]? with
    | some (.ins d _) => if d = c then (match tyO h y, tyN h y with
      | some e, _ => if cs.contains e then noX (mf [x, y] h) else .bad
      | none, some _ => noX (mf [x, y] h)
      | none, none => .bad) else .bad
    | _ => .bad)
  | _ => .bad
theorem ro_eqO {cs : List String} (hcv : T.cv c = .ref C) (hcs : ∀ e, cs.contains e = true → ∃ D, T.cv e = .ref D ∧ InsC X.K D ∧ PySem.W.notFirst X.K C (.ref D) = true) (hty : ∀ t ∈ tyNs, PySem.W.notFirst X.K C (.type t) = true) : RO T (rOwnE X.K C (spV T 2 mf)) (mEqO c cs mf) := by
  intro ps h H x y vx vy Q E vw wx wy gd
  unfold mEqO at gd
  split at gd
  · rename_i p
    obtain ⟨a, ea, rfl⟩ := wx
    split at gd
    · rename_i d fs e1
      split at gd
      · rename_i hd
        subst hd
        obtain ⟨vs, dx, C', hc', rr, eH⟩ := vw.ob _ a _ ea e1
        rw [hcv] at hc'
        cases hc'
        have fin : ∀ tb, TyX X.K H vy tb → PySem.W.notFirst X.K C tb = true → Good T WV ps H (noX (mf [.ref p, y] h)) Q E → rOwnE X.K C (spV T 2 mf) (.ref a) vy H Q := fun tb ty hn g2 => by
          refine ⟨a, dx, vs, tb, rfl, eH, ty, hn, rfl, ps, h, [.ref p, y], vw, .cons ⟨a, ea, rfl⟩ (.cons wy .nil), ?_⟩
          cases q : mf [.ref p, y] h with
          | val w2 h2 => rw [q] at g2; exact g2
          | exc c2 d2 h2 => rw [q] at g2; exact g2.elim
          | bad => rw [q] at g2; exact g2.elim
        split at gd
        · rename_i e et
          split at gd
          · rename_i hc
            obtain ⟨D, h1, h2, h3⟩ := hcs e hc
            unfold tyO at et
            split at et
            · rename_i p2
              obtain ⟨b, eb, rfl⟩ := wy
              split at et
              · rename_i d2 fs2 e2
                cases et
                obtain ⟨vs2, dx2, C2, hc2, rr2, eH2⟩ := vw.ob _ b _ eb e2
                rw [h1] at hc2
                cases hc2
                exact fin _ (.base (.ins eH2 h2.cl h2.ha h2.hn h2.ht h2.hm)) h3 gd
              · cases et
            · cases et
          · exact gd.elim
        · rename_i t et2 et
          exact fin _ (tyN_ok vw et wy) (hty _ (tyN_in et)) gd
        · exact gd.elim
      · exact gd.elim
    · exact gd.elim
  · exact gd.elim
end
end VL
end
section
/-! ### x != y, x an instance whose class has an __eq__ of its own and no __ne__ -/
namespace VX
open PySem PySem.W PySem.Spec PyProof.Rows PySem.SeqAt
section
variable {prog : Program} {w : World} {A : Around} {E : Value → Shared → Prop} {s : Shared} {K : Frag} {x C f L : Addr} {h₀ : Heap} {m : Str → Option Value} {ox : Obj} {od : Option Obj} {b tb : Value}
theorem ne_bound {M : Model} {args : List Value} {Q : Option Value → Shared → Prop} (X : K.In s.heap) (I : InstAt s.heap x ox C od) (hs : findIn K (.ref C) "__ne__" = some (some (.builtin "object.__ne__")))
    (h : wpAny M A (call (.builtin "object.__ne__") (.ref x :: args)) (fun v => Q (some v)) E s) : wpAny M A (callSpecialIfBound? (.ref x) "__ne__" args) Q E s := by
  simp only [bindSpecialIfBound?, callSpecialIfBound?]
  refine wpAny_holding (wpAny_bind (wpAny_bind (wpAny_bind (I.type.here ((looks_findIn X hs).here (wpAny_bind (wpAny_askSetting (wpAny_ite ?_))))))))
  have fin : wpAny M A (call (.builtin "object.__ne__") ([.ref x] ++ args) >>= fun v => pure (some v)) Q E s := wpAny_bind (wpAny_mono h (fun v9 s9 h9 => wpAny_pure h9) fun _ _ h9 => h9)
  split
  · exact wpAny_bind (wpAny_of_eq (F.cmp_object.ne.bind _) (wpAny_pure (by exact fin)))
  · exact wpAny_tryCatch (wpAny_bind (wpAny_of_eq (F.cmp_object.ne.bind _) (wpAny_pure (by exact fin))))
theorem ne_entry (X : K.In s.heap) (I : InstAt s.heap x ox C od) (hs : findIn K (.ref C) "__eq__" = some (some (.ref f))) (hf : isFn K (.ref f) = true) (hu : A.units < cLine) {Q : Fin → Shared → Prop}
    (hcall : wpAny (model prog w) A (call (.ref f) [.ref x, b]) (fun v s' => ∃ k, v = .bool k ∧ Q (.done (.ret (.bool (!k)))) s') E s) : wpAny (model prog w) A (Builtin.«object.__ne__» ⟨[.ref x, b], []⟩) Q E s := by
  unfold
    Builtin.«object.__ne__»
  repeat (first
    | with_reducible refine (wpAny_cRoomFor hu ?_)
    | (refine wpAny_bind (m := callSpecialIfBound? (.ref x) (Str.ofString "__eq__") [b]) (ifBound_K X I hs hf (wpAny_mono hcall (fun v9 s9 h9 => by
          obtain ⟨k9, rfl, hq⟩ := h9
          repeat (first | exact hq | exact wpAny_pure hq
                                                  | exact wpAny_truthy_bool hq | (refine wpAny_bind (m := truthy (.bool _)) (wpAny_truthy_bool ?_)) | wp_step)) fun _ _ e => e)))
    | wp_step)
theorem ne_K {Q : Value → Shared → Prop} (hu : A.units + 1 < cLine) (F0 : Fr h₀ L s.heap m) (X₀ : K.In h₀) (I : InstAt s.heap x ox C od) (hb : Looks (model prog w) s.heap (typeOf b) tb) (hn : notFirst K C tb = true)
    (hne : findIn K (.ref C) "__ne__" = some (some (.builtin "object.__ne__"))) (hm : mroIn K C (.type "object") = some true) (hs : findIn K (.ref C) "__eq__" = some (some (.ref f))) (hf : isFn K (.ref f) = true)
    (h : wpAny (model prog w) A.in1 (call (.ref f) [.ref x, b]) (fun v s' => ∃ k, v = .bool k ∧ Q (.bool (!k)) s') E s) : wpAny (model prog w) A (richCompare .NotEq (.ref x) b) Q E s := by
  have X := X₀.keeps F0.keep
  have one : wpAny (model prog w) A (tryCompare (.ref x) "__ne__" b) (fun r s' => ∃ v, r = some v ∧ Q v s') E s := by
    unfold tryCompare
    refine wpAny_bind (ne_bound X I hne (wpAny_call (codeAny_call_builtin F.cmp_object.ne.plain F.cmpEntry_ne (check_slot F.cmpKind_ne F.cmpSplit_ne (I.type.andThen (looks_mroIn X hm)) (F.cmpArgs_ne _ _) (ne_entry (A := A.in1) X I hs hf hu (wpAny_mono h (fun v9 s9 h9 => ?_) fun _ _ e => e))))))
    obtain ⟨k9, rfl, hq⟩ := h9
    first | exact ⟨k9, rfl, wpAny_pure ⟨_, rfl, hq⟩⟩ | exact ⟨k9, rfl, ⟨_, rfl, hq⟩⟩ | exact ⟨k9, rfl, wpAny_pure (wpAny_pure ⟨_, rfl, hq⟩)⟩
  unfold richCompare
  simp only [oneThing_ref, cmpInfo_NotEq]
  refine wpAny_holding (wpAny_bind (wpAny_cRoomFor (Nat.lt_of_succ_lt hu) (wpAny_bind (I.type.here (wpAny_bind (hb.here ?_))))))
  split
  · rename_i q
    have e : subIn K tb
        (.ref C) = some false := by
      rcases Bool.or_eq_true_iff.mp hn with e9 | e9
      · rw [beq_iff_eq.mp e9] at q; simp at q
      · exact beq_iff_eq.mp e9
    refine wpAny_bind
      ((looks_subIn X e).here ?_)
    simp only [if_false,
      Bool.false_eq_true]
    refine wpAny_bind (wpAny_mono one (fun r9 s9 z => ?_) fun _ _ e => e)
    obtain ⟨v9, rfl, hq⟩ := z
    exact wpAny_pure hq
  · refine wpAny_bind
      (wpAny_pure ?_)
    simp only [if_false,
      Bool.false_eq_true]
    refine wpAny_bind (wpAny_mono one (fun r9 s9 z => ?_) fun _ _ e => e)
    obtain ⟨v9, rfl, hq⟩ := z
    exact wpAny_pure hq
end
end VX
namespace VL
open PySem L2 PySem.Spec PyProof.Rows
def rOwnN (K : PySem.W.Frag) (C : Addr) (sp : Sp) : R2 := fun x y H Q => ∃ a dx fs tb, x = .ref a ∧ H a = some (.ins C dx fs) ∧ TyX K H y tb ∧ PySem.W.notFirst K C tb = true ∧ sp [x, y] H (fun v H' => ∃ k, v = .bl k ∧ Q (.bl (!k)) H') (fun _ _ _ => False)
section
variable {T : Tx} {X : Cx} {C g : Addr} {c : String} {k : Nat} {fd : FuncData} {qs0 : List Str} {sp : Sp} {mf : MFn}
theorem op_ownN (hne : PySem.W.findIn X.K (.ref C) "__ne__" = some (some (.builtin "object.__ne__"))) (hm : PySem.W.mroIn X.K C (.type "object") = some true) (hs : PySem.W.findIn X.K (.ref C) "__eq__" = some (some (.ref g))) (hf : PySem.W.isFn X.K (.ref g) = true)
    (F : FnOk X.prog X.w X.K X.mg X.base (L2.CX X.prog X.w) k g fd qs0 sp) (hb : Binds X.K fd qs0 []) (hr : Room (k + 1) X.A) (hu : X.A.units + 1 < cLine) (hx : Passes (L2.CX X.prog X.w) X.nox (fun _ _ _ => False)) : OpR X (compareOp .NotEq) (rOwnN X.K C sp) := by
  intro pins s σ H x y v u Q I rx ry hh
  obtain ⟨a, dx, fs, tb, rfl, ha, ty, hn, q⟩ := hh
  cases (show v = .ref a from rx)
  obtain ⟨mA, O, _, _, _, _⟩ := ins_get I.hok ha
  obtain ⟨od, J, _⟩ := O.look
  obtain ⟨P, Z, pp, _⟩ := kit_of I ry ty
  obtain ⟨m, hF⟩ := I.fr
  have hl : ([Value.ref a, u] ++ []).length = qs0.length := (F.len _ _ _ _ q).symm.symm ▸ rfl
  have bt := hb s [.ref a, u] I.kIn hl
  rw [List.append_nil] at bt
  refine VX.ne_K (tb := tb) hu hF I.ok.mod.kin J (Z.ty _ _ I.kIn pp) hn hne hm hs hf (wpAny_call (codeAny_mono (F.run X.A.in1 X.stack s H ⟨[.ref a, u], []⟩ [.ref a, u] [.ref a, y] _ _ hr.in1 I.env0.in1 bt (.cons rfl (.cons ry .nil)) q) fun r s' hq => ?_))
  cases r with
  | error er => exact False.elim (hx pins σ H s er s' (I.wish _) hq)
  | ok fl =>
    cases fl with
    | ret w =>
      obtain ⟨v9, H', I3, rv, b9, e9, q3⟩ := I.after hq
      subst e9
      cases rv
      exact ⟨b9, rfl, .bl (!b9), H', I3, rfl, q3⟩
    | next => exact False.elim hq
    | brk => exact False.elim hq
    | cont => exact False.elim hq
def negB (w : W) (h : Hv) : Res W := match w with
  | .bl b => .val (.bl (!b)) h
  | _ => .bad
def mNeO (c : String) (cs : List String) (mf : MFn) : MOp := fun x y h => (mEqO c cs mf x y h).bind negB
theorem ro_neO {cs : List String} (hcv : T.cv c = .ref C) (hcs : ∀ e, cs.contains e = true → ∃ D, T.cv e = .ref D ∧ InsC X.K D ∧ PySem.W.notFirst X.K C (.ref D) = true) (hty : ∀ t ∈ tyNs, PySem.W.notFirst X.K C (.type t) = true) : RO T (rOwnN X.K C (spV T 2 mf)) (mNeO c cs mf) := by
  intro ps h H x y vx vy Q E vw wx wy gd
  have z := ro_eqO (X := X) (mf := mf) hcv hcs hty ps h H x y vx vy _ E vw wx wy (Good.bind (R := WV) (S := WV) gd)
  obtain ⟨a, dx, fs, tb, e1, e2, e3, e4, sp9⟩ := z
  refine ⟨a, dx, fs, tb, e1, e2, e3, e4, ?_⟩
  obtain ⟨hl, ps2, h2, ws, vw2, wv2, g2⟩ := sp9
  refine ⟨hl, ps2, h2, ws, vw2, wv2, g2.imp (fun v H' q => ?_) fun _ _ _ z => z⟩
  obtain ⟨qs, w, h3, st, vw3, wv3, g3⟩ := q
  unfold negB at g3
  split at g3
  · cases wv3
    exact ⟨_, rfl, Good.now g3 vw3 rfl⟩
  · exact g3.elim
end
end VL
end
section
namespace VL
open PySem L2 PySem.Spec PyProof.Rows
theorem room1 {a b : Nat} (h : a + 64 < b) : a + 1 < b := by omega
theorem passF {X : Cx} : Passes (L2.CX X.prog X.w) X (fun _ _ _ => False) := fun pins s9 H s e s' I hq => by
  obtain ⟨_, _, _, _, _, _, _, _, _, _, _, _, z⟩ := hq
  exact z.elim
/-! ### len(x), x an instance whose class has a __len__ of its own that raises nothing -/
def rLenO (C : Addr) (sp : Sp) : List V → Hp → VK → Prop := fun xs H Q => ∃ a dx fs, xs = [.ref a] ∧ H a = some (.ins C dx fs) ∧ sp [.ref a] H (fun v H' => ∃ n : Int, v = .int n ∧ 0 ≤ n ∧ n < 2 ^ 63 ∧ Q (.int n) H') (fun _ _ _ => False)
def mLenO (c : String) (mf : MFn) : MFn := fun ws h => match ws with
  | [.ref p] => (match h[p]? with
    | some (.ins d _) => if d = c then (noX (mf [.ref p] h)).bind fun v h2 => (match v with
      | .int n => if decide (0 ≤ n) && decide (n < 1000000) then .val (.int n) h2 else .bad
      | _ => .bad) else .bad
    | _ => .bad)
  | _ => .bad
section
variable {T : Tx} {X : Cx} {C g : Addr} {c : String} {k : Nat} {fd : FuncData} {qs0 : List Str} {sp : Sp} {mf : MFn}
theorem call_lenO (hs : PySem.W.findIn X.K (.ref C) "__len__" = some (some (.ref g))) (hf : PySem.W.isFn X.K (.ref g) = true) (F : FnOk X.prog X.w X.K X.mg X.base (L2.CX X.prog X.w) k g fd qs0 sp) (hb : Binds X.K fd qs0 []) (hr : Room (k + 1) X.A) (hx : Passes (L2.CX X.prog X.w) X.nox (fun _ _ _ => False)) : CallR X (.builtin "len") (rLenO C sp) := by
  intro pins s σ H xs us Q I r hh
  obtain ⟨a, dx, fs, rfl, ha, q⟩ := hh
  obtain ⟨u9, rfl, ru⟩ := vals1 r
  cases (show u9 = Value.ref a from ru)
  obtain ⟨mA, O, _, _, _, _⟩ := ins_get I.hok ha
  obtain ⟨od, J, _⟩ := O.look
  obtain ⟨m, hF⟩ := I.fr
  have hl : ([Value.ref a] ++ []).length = qs0.length := (F.len _ _ _ _ q).symm.symm ▸ rfl
  have bt := hb s [.ref a] I.kIn hl
  rw [List.append_nil] at bt
  refine PySem.W.len_K hF I.ok.mod.kin J hs hf (wpAny_call (codeAny_mono (F.run X.A.in1 X.stack s H ⟨[.ref a], []⟩ [.ref a] [.ref a] _ _ hr.in1 I.env0.in1 bt (.cons rfl .nil) q) fun fin s' hq => ?_))
  cases fin with
  | error er => exact False.elim (hx pins σ H s er s' (I.wish _) hq)
  | ok fl =>
    cases fl with
    | ret w =>
      obtain ⟨v9, H', I3, rv, n, e9, n0, n1, q3⟩ := I.after hq
      subst e9
      obtain ⟨t, rfl⟩ := (show ∃ t, w = Value.int n t from rv)
      exact ⟨⟨n0, n1⟩, .int n, H', I3.tok _, ⟨_, rfl⟩, q3⟩
    | next => exact False.elim hq
    | brk => exact False.elim hq
    | cont => exact False.elim hq
theorem rc_lenO (hcv : T.cv c = .ref C) : RC T (rLenO C (spV T 1 mf)) (mLenO c mf) := by
  intro ps h H ws vs Q E vw wv gd
  unfold mLenO at gd
  split at gd
  · rename_i p
    obtain ⟨v, rfl, a, ea, rfl⟩ := one_of wv
    split at gd
    · rename_i d fs e1
      split at gd
      · rename_i hd
        subst hd
        obtain ⟨us, dx, C', hc', rr, eH⟩ := vw.ob _ a _ ea e1
        rw [hcv] at hc'
        cases hc'
        refine ⟨a, dx, us, rfl, eH, rfl, ps, h, [.ref p], vw, .cons ⟨a, ea, rfl⟩ .nil, ?_⟩
        refine (good_noX (R := WV) (S := WV) gd).imp (fun v H' q => ?_) fun _ _ _ z => z
        obtain ⟨qs, w, h3, st, vw3, wv3, g3⟩ := q
        dsimp only at g3
        split at g3
        · split at g3
          · rename_i n hn
            rw [Bool.and_eq_true] at hn
            cases wv3
            have n1 : n < 1000000 := of_decide_eq_true hn.2
            exact ⟨n, rfl, of_decide_eq_true hn.1, by have : (1000000 : Int) ≤ 2 ^ 63 := by decide
                                                      omega, Good.now g3 vw3 rfl⟩
          · exact g3.elim
        · exact g3.elim
      · exact gd.elim
    · exact gd.elim
  · exact gd.elim
end
end VL
end
section
namespace VL
open PySem L2
/-! ### texts of data -/
theorem strOk_of (s : String) : PyData.strOk (Str.ofString s) = true := by
  rw [Str.ofString_eq_toList]
  simp only [PyData.strOk, List.all_toArray, List.all_map, List.all_eq_true]
  intro c hc
  have := c.valid
  simp only [Function.comp, decide_eq_true_eq]
  have h : c.toNat < 0x110000 := by
    rcases this with q | q
    · have : c.val.toNat < 0xd800 := q
      show c.val.toNat < 0x110000
      omega
    · exact q.2
  exact h
theorem strOk_app {a b : Str} (h1 : PyData.strOk a = true) (h2 : PyData.strOk b = true) : PyData.strOk (a ++ b) = true := by
  unfold PyData.strOk at *
  rw [Str.cps_append]
  simp only [Array.all_append, h1, h2, Bool.and_self]
theorem tf_ok : ∀ (ts : List Str) (k : Nat) (acc : Str), PyData.strOk acc = true → (∀ t ∈ ts, PyData.strOk t = true) → PyData.strOk (textFrom k acc ts) = true
  | [], _, _, h, _ => h
  | t :: ts, k, acc, h, g => by
    refine tf_ok ts (k + 1) _ (strOk_app (strOk_app h ?_) (g t List.mem_cons_self)) fun u hu => g u (List.mem_cons_of_mem _ hu)
    split
    · exact strOk_of _
    · exact strOk_of _
theorem join_ok : ∀ (ts : List Str), (∀ t ∈ ts, PyData.strOk t = true) → PyData.strOk (Str.join ", " ts) = true
  | [], _ => strOk_of ""
  | [x], h => h x List.mem_cons_self
  | x :: y :: r, h => by
    have ih := join_ok (y :: r) fun t ht => h t (List.mem_cons_of_mem _ ht)
    exact strOk_app (strOk_app (h x List.mem_cons_self) (strOk_of _)) ih
mutual
def okS : PyData → Bool
  | .str x => PyData.strOk (reprText x)
  | .list xs => okSs xs
  | .tuple xs => okSs xs
  | .dict _ => false
  | .none => true
  | .bool _ => true
  | .int _ => true
def okSs : List PyData → Bool
  | [] => true
  | x :: xs => okS x && okSs xs
end
mutual
theorem okS_shown : ∀ d : PyData, okS d = true → PyData.strOk d.shown = true
  | .none, _ => strOk_of _
  | .bool b, _ => by cases b <;> exact strOk_of _
  | .int i, _ => strOk_of _
  | .str x, h => by
    have h2 : PyData.strOk (reprText x) = true := by simpa only [okS] using h
    exact h2
  | .list xs, h => strOk_app (tf_ok _ 0 _ (strOk_of _) (okSs_shown xs (by simpa only [okS] using h))) (strOk_of _)
  | .tuple xs, h => strOk_app (strOk_app (strOk_of _) (join_ok _ (okSs_shown xs (by simpa only [okS] using h)))) (by split <;> exact strOk_of _)
  | .dict _, h => by simp only [okS] at h; cases h
theorem okSs_shown : ∀ xs : List PyData, okSs xs = true → ∀ t ∈ PyData.shownAll xs, PyData.strOk t = true
  | [], _, t, ht => by simp only [PyData.shownAll] at ht; cases ht
  | x :: xs, h, t, ht => by
    simp only [okSs, Bool.and_eq_true] at h
    simp only [PyData.shownAll, List.mem_cons] at ht
    rcases ht with rfl | ht
    · exact okS_shown x h.1
    · exact okSs_shown xs h.2 t ht
end
theorem shaped_str {x : Str} (h : PyData.strOk x = true) : SeqAt.shaped (.str x) = true := by
  simp [SeqAt.shaped, PyData.canLay0, PyData.depth, h]
theorem eq_same_str {neg : Bool} {s : Str} {h : Hv} (hs : PyData.strOk s = true) : mEq neg (.str s) (.str s) h = .val (.bl (!neg)) h := by
  have e : toD dF h (.str s) = some (.str s) := rfl
  have z := shaped_str hs
  cases neg <;> simp [mEq, e, z, PyData.eqv]
theorem int_len {i : Int} (h : i.natAbs < 2 ^ 1000) : (Str.ofString (toString i)).length ≤ 303 := by
  rw [PySem.ofString_length]
  exact PySem.int_text_length_le10 (k := 302) (by decide) (Nat.lt_of_lt_of_le h (by decide +kernel))
/-- repr of data whose numbers have up to 1000 bits -/
theorem reprE_of {h : Hv} {p : Nat} {d : PyData} (hd : toD dF h (.ref p) = some d) (hne : h[p]? ≠ some (.dic [])) (h1 : d.showable = true) (h2 : d.hasDict = false) (h3 : d.depth ≤ 60) (h4 : d.shown.length ≤ 100000) : mReprE [.ref p] h = .val (.str d.shown) h := by
  have r1 : mRepr [.ref p] h = .val (.str d.shown) h := by
    simp only [mRepr, hd, h1, h2, h3, h4, decide_true, Bool.not_false, Bool.and_self, if_true]
  show (match h[p]? with | some (.dic []) => Res.val (W.str ("{}" : Str)) h | _ => mRepr [.ref p] h) = _
  split
  · rename_i e
    exact absurd e hne
  · exact r1
end VL
end
section
namespace VL
open PySem L2
/-! ### the loop of a law over its cells -/
theorem toD_ints {n : Nat} {h : Hv} : ∀ ns : List Int, optAll (toD (n + 1) h) (ns.map W.int) = some (ns.map PyData.int)
  | [] => rfl
  | z :: ns => by
    have ih := toD_ints (n := n) (h := h) ns
    simp only [List.map_cons, optAll, ih]
    rfl
theorem lay_ints : ∀ ns : List Int, PyData.canLayAll0 (ns.map PyData.int) = true
  | [] => rfl
  | z :: ns => by
    have ih := lay_ints ns
    simp [PyData.canLayAll0, PyData.canLay0, ih]
theorem deep_ints : ∀ ns : List Int, PyData.depthAll (ns.map PyData.int) = 0
  | [] => rfl
  | z :: ns => by
    have ih := deep_ints ns
    simp [PyData.depthAll, PyData.depth, ih]
theorem shaped_ints (ns : List Int) : SeqAt.shaped (.list (ns.map PyData.int)) = true := by
  simp [SeqAt.shaped, PyData.canLay0, PyData.depth, lay_ints, deep_ints]
theorem toD_lstI {h : Hv} {p : Nat} {ns : List Int} (e : h[p]? = some (.lst (ns.map W.int))) : toD dF h (.ref p) = some (.list (ns.map PyData.int)) := by
  obtain ⟨k, hk⟩ : ∃ k, dF = k + 2 := ⟨dF - 2, by decide⟩
  rw [hk]
  have ti := toD_ints (n := k) (h := h) ns
  simp only [toD, e]
  exact congrArg (Option.map PyData.list) ti
theorem toD_rolI {h : Hv} {p : Nat} {ns : List Int} (e : h[p]? = some (.rol (ns.map W.int))) : toD dF h (.ref p) = some (.list (ns.map PyData.int)) := by
  obtain ⟨k, hk⟩ : ∃ k, dF = k + 2 := ⟨dF - 2, by decide⟩
  rw [hk]
  have ti := toD_ints (n := k) (h := h) ns
  simp only [toD, e]
  exact congrArg (Option.map PyData.list) ti
theorem eq_emptyI {h : Hv} {p q : Nat} {ns : List Int} (e1 : h[p]? = some (.rol (ns.map W.int))) (e2 : h[q]? = some (.lst [])) : mEq false (.ref p) (.ref q) h = .val (.bl ns.isEmpty) h := by
  have t1 := toD_rolI e1
  have t2 := toD_lstI (ns := []) e2
  have s0 := shaped_ints []
  cases ns with
  | nil => simp only [mEq, t1, t2, s0, Bool.and_self, if_true]; rfl
  | cons z ns =>
    have s1 := shaped_ints (z :: ns)
    simp only [mEq, t1, t2, s0, s1, Bool.and_self, if_true]
    rfl
theorem for_enumL {P : Nat} {L : List W} {b : MS} (I : Ws → Hv → Prop) (keep : ∀ r h, I r h → h[P]? = some (.lst L)) (step : ∀ (i : Nat) w, L[i]? = some w → ∀ r h, I r h → ∃ r' h', b ((r.set 1 (some (.int i))).set 2 (some w)) h = .nx r' h' ∧ I r' h') :
    ∀ (k i : Nat) (r : Ws) (h : Hv), i + k = L.length → I r h → ∃ r' h', VL.forM (nxEnum P) (mGs 2 (mGcons (mGn 1) (mGcons (mGn 2) mGnil))) b (k + 1) i r h = .nx r' h' ∧ I r' h'
  | 0, i, r, h, hk, hi => by
    refine ⟨r, h, ?_, hi⟩
    unfold VL.forM
    simp [nxEnum, keep r h hi, show L.length ≤ i by omega]
  | k + 1, i, r, h, hk, hi => by
    have lt : i < L.length := by omega
    obtain ⟨r1, h1, e1, i1⟩ := step i L[i] (List.getElem?_eq_getElem lt) r h hi
    obtain ⟨r2, h2, e2, i2⟩ := for_enumL I keep step k (i + 1) r1 h1 (by omega) i1
    refine ⟨r2, h2, ?_, i2⟩
    unfold VL.forM
    have gt : mGs 2 (mGcons (mGn 1) (mGcons (mGn 2) mGnil)) (.tup [.int i, L[i]]) r h = .nx ((r.set 1 (some (.int i))).set 2 (some L[i])) h := by
      simp [mGs, mGcons, mGnil]
    simp only [nxEnum, keep r h hi, List.getElem?_eq_getElem lt, gt, e1]
    exact e2
theorem cut_sub {xs : List W} {lo hi : Option Int} : ∀ w ∈ cutW xs lo hi, w ∈ xs := fun w hw => List.mem_of_mem_drop (List.mem_of_mem_take hw)
theorem cut_len {xs : List W} {lo hi : Option Int} : (cutW xs lo hi).length ≤ xs.length := by
  unfold cutW
  simp only [List.length_take, List.length_drop]
  omega
abbrev lawSrc (k : Int) : Ws → Hv → Res Src := (mEnum (mCons (m2 mAdd (mSl (mVar 0) (mPart none) (mPart (some (mC (.int k))))) (m2 mMul (mLst (mCons (mC (.int 7)) mNil)) (mB mInt (mCons (m2 (mEq false) (mVar 0) (mLst mNil)) mNil)))) mNil))
theorem lawSrc_ok {k : Int} (r0 : Ws) (ns : List Int) (h1 : ns.length ≤ 63) : ∃ (L : List W) (P : Nat) (h : Hv), lawSrc k (some (.ref 0) :: r0) [.rol (ns.map W.int)] = .val ⟨L.length + 1, nxEnum P⟩ h ∧ h[P]? = some (.lst L) ∧ L.length ≤ 64 ∧ ∀ w ∈ L, ∃ z : Int, w = .int z := by
  have c1 := cut_sub (xs := ns.map W.int) (lo := none) (hi := some k)
  have c2 := cut_len (xs := ns.map W.int) (lo := none) (hi := some k)
  generalize hC : cutW (ns.map W.int) none (some k) = C at c1 c2
  have ci : ∀ w ∈ C, ∃ z : Int, w = .int z := fun w hw => by
    obtain ⟨z, _, rfl⟩ := List.mem_map.mp (c1 w hw)
    exact ⟨z, rfl⟩
  rw [List.length_map] at c2
  have eqe := eq_emptyI (h := [.rol (ns.map W.int), .lst C, .lst [.int 7], .lst []]) (p := 0) (q := 3) (ns := ns) rfl rfl
  cases hb : ns.isEmpty with
  | true =>
    rw [hb] at eqe
    refine ⟨C ++ [.int 7], 5, [.rol (ns.map W.int), .lst C, .lst [.int 7], .lst [], .lst [.int 7], .lst (C ++ [.int 7])], ?_, rfl, by simp; omega, fun w hw => ?_⟩
    · simp [lawSrc, mEnum, mSl, mPart, mCut, hC, eqe, mMul, mAdd, srcE, show C.length + 1 ≤ 100000 by omega]
    · rcases List.mem_append.mp hw with q | q
      · exact ci w q
      · exact ⟨7, List.mem_singleton.mp q⟩
  | false =>
    rw [hb] at eqe
    refine ⟨C ++ [], 5, [.rol (ns.map W.int), .lst C, .lst [.int 7], .lst [], .lst [], .lst (C ++ [])], ?_, rfl, by simp; omega, fun w hw => ?_⟩
    · simp [lawSrc, mEnum, mSl, mPart, mCut, hC, eqe, mMul, mAdd, srcE, show C.length ≤ 100000 by omega]
    · rw [List.append_nil] at hw
      exact ci w hw
/-- the whole law, from one turn -/
theorem law_loop {k : Int} {m : Nat} {N : List Str} {B : MS} (hN : N.length = m + 3) (turn : ∀ (i : Nat) (c : Int), i ≤ 1000 → ∃ r g, B (none :: some (.int i) :: some (.int c) :: List.replicate m none) [] = .nx r g ∧ r.length = m + 3)
    (ns : List Int) (h1 : ns.length ≤ 63) : ∃ h', mDef N (mSeq (mFor (lawSrc k) (mGs 2 (mGcons (mGn 1) (mGcons (mGn 2) mGnil))) (mLocal [1, 2] B)) (mRet (mC (.bl true)))) [.ref 0] [.rol (ns.map W.int)] = .val (.bl true) h' := by
  obtain ⟨L, P, h, es, eP, hL, hI⟩ := lawSrc_ok (k := k) (List.replicate (m + 2) none) ns h1
  have kr : ∀ (j : Nat) (r : Ws), j ≥ 3 → keepR [1, 2] j r = List.replicate r.length none := fun j r hj => by
    induction r generalizing j with
    | nil => rfl
    | cons o r ih =>
      have c : ([1, 2] : List Nat).contains j = false := by
        simp
        omega
      simp only [keepR, c, Bool.false_eq_true, if_false, ih (j + 1) (by omega), List.length_cons, List.replicate_succ]
  have one : ∀ (r : Ws) (g : Hv) (i : Nat) (c : Int), i ≤ 1000 → r.length = m + 3 → ∃ r', mLocal [1, 2] B ((r.set 1 (some (.int i))).set 2 (some (.int c))) g = .nx r' g ∧ r'.length = m + 3 := fun r g i c hi hl => by
    obtain ⟨r1, g1, e, l1⟩ := turn i c hi
    refine ⟨offR r1, ?_, by simp [offR, l1]⟩
    have kp : keepR [1, 2] 0 ((r.set 1 (some (.int i))).set 2 (some (.int c))) = none :: some (.int i) :: some (.int c) :: List.replicate m none := by
      match r, hl with
      | a :: b :: d :: r, hl =>
        have l2 : r.length = m := by simpa using hl
        have := kr 3 r (Nat.le_refl _)
        rw [l2] at this
        have e3 : keepR [1, 2] 0 (((a :: b :: d :: r).set 1 (some (.int i))).set 2 (some (.int c))) = none :: some (.int i) :: some (.int c) :: keepR [1, 2] 3 r := by
          cases a <;> rfl
        rw [e3, this]
      | [], hl => simp at hl
      | [a], hl => simp at hl
      | [a, b], hl => simp at hl
    unfold mLocal
    rw [kp, e]
  obtain ⟨r', h', fe, _⟩ := for_enumL (P := P) (L := L) (b := mLocal [1, 2] B) (fun r g => r.length = m + 3 ∧ g[P]? = some (.lst L)) (fun r g z => z.2) (fun i w ew r g z => by
    obtain ⟨c, rfl⟩ := hI w (List.mem_of_getElem? ew)
    have hi : i < L.length := (List.getElem?_eq_some_iff.mp ew).1
    obtain ⟨r1, e1, l1⟩ := one r g i c (by omega) z.1
    exact ⟨r1, _, e1, l1, z.2⟩) L.length 0 (some (.ref 0) :: List.replicate (m + 2) none) h (by omega) ⟨by simp, eP⟩
  have st : startW N [.ref 0] = some (.ref 0) :: List.replicate (m + 2) none := by
    unfold startW
    simp [hN]
  refine ⟨h', ?_⟩
  rw [mDef_eq, st, mSeq_eq]
  unfold mFor
  rw [es, andS_val, fe, thenS_nx, mRet_eq, mC_eq, andS_val, endS_rt]
end VL
end
section
namespace VL
open PySem L2
/-! ### numbers -/
theorem fmod_gcd (a b : Int) : Int.gcd b (a.fmod b) = Int.gcd a b := by
  rw [Int.fmod_def, Int.gcd_comm b, Int.gcd_sub_mul_left_left]
theorem fmod_small (a b : Int) (hb : b ≠ 0) : (a.fmod b).natAbs < b.natAbs := by
  rw [Int.fmod_eq_emod]
  have h1 := Int.emod_nonneg a hb
  have h2 := Int.emod_lt a hb
  split
  · omega
  · rename_i h
    have hneg : b < 0 := by
      rcases Int.lt_or_gt_of_ne hb with q | q
      · exact q
      · exact absurd (.inl (Int.le_of_lt q)) h
    have hne : a % b ≠ 0 := fun z => h (.inr (Int.dvd_of_emod_eq_zero z))
    omega
/-- the fraction of two numbers -/
def frG (n d : Int) : Int := if d < 0 then -(Int.gcd n d : Int) else (Int.gcd n d : Int)
def fr (n d : Int) : Int × Int := (n.fdiv (frG n d), d.fdiv (frG n d))
theorem gcd_pos {n d : Int} (hd : d ≠ 0) : 0 < (Int.gcd n d : Int) := by
  have : Int.gcd n d ≠ 0 := fun z => hd (Int.gcd_eq_zero_iff.mp z).2
  omega
theorem frG_ne {n d : Int} (hd : d ≠ 0) : frG n d ≠ 0 := by
  have := gcd_pos (n := n) hd
  unfold frG
  split <;> omega
theorem frG_dvd_left (n d : Int) : frG n d ∣ n := by
  unfold frG
  split
  · exact Int.neg_dvd.mpr (Int.gcd_dvd_left ..)
  · exact Int.gcd_dvd_left ..
theorem frG_dvd_right (n d : Int) : frG n d ∣ d := by
  unfold frG
  split
  · exact Int.neg_dvd.mpr (Int.gcd_dvd_right ..)
  · exact Int.gcd_dvd_right ..
theorem fr_mul_left (n d : Int) : frG n d * (fr n d).1 = n := Int.mul_fdiv_cancel' (frG_dvd_left n d)
theorem fr_mul_right (n d : Int) : frG n d * (fr n d).2 = d := Int.mul_fdiv_cancel' (frG_dvd_right n d)
theorem fr_pos {n d : Int} (hd : d ≠ 0) : 0 < (fr n d).2 := by
  have h := fr_mul_right n d
  have g := gcd_pos (n := n) hd
  by_cases hn : d < 0
  · have e : frG n d = -(Int.gcd n d : Int) := by simp [frG, hn]
    rw [e] at h
    refine Int.not_le.mp fun z => ?_
    have : 0 ≤ -(Int.gcd n d : Int) * (fr n d).2 := Int.mul_nonneg_of_nonpos_of_nonpos (by omega) z
    omega
  · have e : frG n d = (Int.gcd n d : Int) := by simp [frG, hn]
    rw [e] at h
    refine Int.not_le.mp fun z => ?_
    have : (Int.gcd n d : Int) * (fr n d).2 ≤ 0 := Int.mul_nonpos_of_nonneg_of_nonpos (by omega) z
    omega
theorem fr_one {n d : Int} (hd : d ≠ 0) : Int.gcd (fr n d).1 (fr n d).2 = 1 := by
  have h1 := fr_mul_left n d
  have h2 := fr_mul_right n d
  have e : Int.gcd (frG n d * (fr n d).1) (frG n d * (fr n d).2) = (frG n d).natAbs * Int.gcd (fr n d).1 (fr n d).2 := Int.gcd_mul_left ..
  rw [h1, h2] at e
  have g : (frG n d).natAbs = Int.gcd n d := by unfold frG; split <;> omega
  rw [g] at e
  have p := gcd_pos (n := n) hd
  have p2 : 0 < Int.gcd n d := by omega
  exact (Nat.eq_of_mul_eq_mul_left p2 (by rw [Nat.mul_one]; exact e)).symm
theorem fr_val (n d : Int) : (fr n d).1 * d = n * (fr n d).2 := by
  have h1 := fr_mul_left n d
  have h2 := fr_mul_right n d
  calc (fr n d).1 * d = (fr n d).1 * (frG n d * (fr n d).2) := by rw [h2]
    _ = (frG n d * (fr n d).1) * (fr n d).2 := by rw [← Int.mul_assoc, Int.mul_comm (fr n d).1]
    _ = n * (fr n d).2 := by rw [h1]
/-- two reduced fractions of one value are one -/
theorem red_unique {a b c d : Int} (hb : 0 < b) (hd : 0 < d) (h1 : Int.gcd a b = 1) (h2 : Int.gcd c d = 1) (h : a * d = c * b) : a = c ∧ b = d := by
  have k1 : b ∣ d := by
    have z : b ∣ a * d := ⟨c, by rw [h, Int.mul_comm]⟩
    have q := Int.dvd_gcd_mul_iff_dvd_mul.mpr z
    rw [Int.gcd_comm, h1] at q
    simpa using q
  have k2 : d ∣ b := by
    have z : d ∣ c * b := ⟨a, by rw [← h, Int.mul_comm]⟩
    have q := Int.dvd_gcd_mul_iff_dvd_mul.mpr z
    rw [Int.gcd_comm, h2] at q
    simpa using q
  have e : b = d := Int.dvd_antisymm (Int.le_of_lt hb) (Int.le_of_lt hd) k1 k2
  subst e
  exact ⟨Int.eq_of_mul_eq_mul_right (by omega) h, rfl⟩
theorem fr_eq {n d m e : Int} (hd : d ≠ 0) (he : e ≠ 0) (h : n * e = m * d) : fr n d = fr m e := by
  have v1 := fr_val n d
  have v2 := fr_val m e
  have p1 := fr_pos (n := n) hd
  have p2 := fr_pos (n := m) he
  have key : (fr n d).1 * (fr m e).2 = (fr m e).1 * (fr n d).2 := by
    have z : d * e ≠ 0 := Int.mul_ne_zero hd he
    refine Int.eq_of_mul_eq_mul_right z ?_
    calc (fr n d).1 * (fr m e).2 * (d * e) = ((fr n d).1 * d) * ((fr m e).2 * e) := by ac_rfl
      _ = (n * (fr n d).2) * ((fr m e).2 * e) := by rw [v1]
      _ = (n * e) * ((fr n d).2 * (fr m e).2) := by ac_rfl
      _ = (m * d) * ((fr n d).2 * (fr m e).2) := by rw [h]
      _ = (m * (fr m e).2) * ((fr n d).2 * d) := by ac_rfl
      _ = ((fr m e).1 * e) * ((fr n d).2 * d) := by rw [v2]
      _ = (fr m e).1 * (fr n d).2 * (d * e) := by ac_rfl
  obtain ⟨a, b⟩ := red_unique p1 p2 (fr_one hd) (fr_one he) key
  exact Prod.ext a b
theorem fr_self {n d : Int} (hd : 0 < d) (hg : Int.gcd n d = 1) : fr n d = (n, d) := by
  have e : frG n d = 1 := by
    unfold frG
    rw [if_neg (by omega), hg]
    rfl
  simp [fr, e]

/-! ### the operations on known values -/
@[simp] theorem isi_int_int {i : Int} {h : Hv} : mIsi [.int i, .ty "int"] h = .val (.bl true) h := by
  simp [mIsi, tyN, show kitB "int" "int" = some true from by decide +kernel]
@[simp] theorem isi_int_bool {i : Int} {h : Hv} : mIsi [.int i, .ty "bool"] h = .val (.bl false) h := by
  simp [mIsi, tyN, show kitB "int" "bool" = some false from by decide +kernel]
@[simp] theorem isi_tup {xs : List W} {h : Hv} : mIsi [.tup xs, .ty "tuple"] h = .val (.bl true) h := by
  simp [mIsi, tyN, show kitB "tuple" "tuple" = some true from by decide +kernel]
@[simp] theorem len_tup {xs : List W} {h : Hv} : mLen [.tup xs] h = .val (.int xs.length) h := rfl
theorem isi_lst {p : Nat} {xs : List W} {h : Hv} (e : h[p]? = some (.lst xs)) : mIsi [.ref p, .ty "list"] h = .val (.bl true) h := by
  have t : tyN h (.ref p) = some "list" := by simp [tyN, e]
  have k : kitB "list" "list" = some true := by decide +kernel
  simp [mIsi, t, k]
theorem len_lst {p : Nat} {xs : List W} {h : Hv} (e : h[p]? = some (.lst xs)) : mLen [.ref p] h = .val (.int xs.length) h := by
  simp [mLen, e]
/-- a number of so many bits at most -/
def Sm (i : Int) : Prop := i.natAbs < 2 ^ 1000
theorem log_le {a b : Nat} (h : a < 2 ^ b) (hb : 0 < b) : a.log2 < b := PySem.Flt.log2_lt_of hb h
theorem Sm.log {i : Int} (h : Sm i) : i.natAbs.log2 < 1000 := log_le h (by decide)
theorem gcd_sm {n d : Int} (hd : d ≠ 0) (h : Sm d) : (Int.gcd n d) < 2 ^ 1000 := by
  have z : Int.gcd n d ∣ d.natAbs := Int.gcd_dvd_natAbs_right ..
  have y : Int.gcd n d ≤ d.natAbs := Nat.le_of_dvd (by omega) z
  exact Nat.lt_of_le_of_lt y h
theorem mul_sm {i j : Int} {h : Hv} (hi : Sm i) (hj : Sm j) : mMul (.int i) (.int j) h = .val (.int (i * j)) h := mMul_int (by have := hi.log; have := hj.log; omega)

/-! ### bounds -/
def Bn (k : Nat) (i : Int) : Prop := i.natAbs < 2 ^ k
theorem Bn.mono {k l : Nat} {i : Int} (h : Bn k i) (hl : k ≤ l) : Bn l i := Nat.lt_of_lt_of_le h (Nat.pow_le_pow_right (by decide) hl)
theorem Bn.sm {k : Nat} {i : Int} (h : Bn k i) (hk : k ≤ 1000) : Sm i := Nat.lt_of_lt_of_le h (Nat.pow_le_pow_right (by decide) hk)
theorem Bn.mul {k l : Nat} {i j : Int} (h : Bn k i) (g : Bn l j) : Bn (k + l) (i * j) := by
  unfold Bn at *
  simp only [Int.natAbs_mul, Nat.pow_add]
  exact Nat.mul_lt_mul_of_lt_of_lt h g
theorem Bn.add {k : Nat} {i j : Int} (h : Bn k i) (g : Bn k j) : Bn (k + 1) (i + j) := by
  unfold Bn at *
  rw [Nat.pow_succ]
  generalize (2 : Nat) ^ k = u at *
  omega
theorem Bn.sub {k : Nat} {i j : Int} (h : Bn k i) (g : Bn k j) : Bn (k + 1) (i - j) := by
  unfold Bn at *
  rw [Nat.pow_succ]
  generalize (2 : Nat) ^ k = u at *
  omega
theorem fdiv_le {i d : Int} (hd : 0 < d) : (i.fdiv d).natAbs ≤ i.natAbs := by
  rw [Int.fdiv_eq_ediv_of_nonneg i (Int.le_of_lt hd)]
  exact Int.natAbs_ediv_le_natAbs i d
/-! ### signs -/
def sg (i : Int) : Int := if i < 0 then -1 else if 0 < i then 1 else 0
theorem sg_cases (i : Int) : (i < 0 ∧ sg i = -1) ∨ (i = 0 ∧ sg i = 0) ∨ (0 < i ∧ sg i = 1) := by
  unfold sg
  rcases Int.lt_trichotomy i 0 with h | h | h
  · exact .inl ⟨h, by simp [h]⟩
  · exact .inr (.inl ⟨h, by simp [h]⟩)
  · exact .inr (.inr ⟨h, by simp [h, show ¬ i < 0 by omega]⟩)
theorem sg_pos {p v : Int} (hp : 0 < p) : sg (p * v) = sg v := by
  rcases Int.lt_trichotomy v 0 with h | h | h
  · have : p * v < 0 := Int.mul_neg_of_pos_of_neg hp h
    simp [sg, h, this]
  · subst h; simp
  · have : 0 < p * v := Int.mul_pos hp h
    simp [sg, h, this, show ¬ v < 0 by omega, show ¬ p * v < 0 by omega]

@[simp] theorem atI2 {α : Type} {x y z : α} {xs : List α} : atI (x :: y :: z :: xs) 2 = some z := atI_nat (j := 2) rfl
@[simp] theorem atI3 {α : Type} {x y z u : α} {xs : List α} : atI (x :: y :: z :: u :: xs) 3 = some u := atI_nat (j := 3) rfl
@[simp] theorem atI4 {α : Type} {x y z u v : α} {xs : List α} : atI (x :: y :: z :: u :: v :: xs) 4 = some v := atI_nat (j := 4) rfl
@[simp] theorem atI5 {α : Type} {x y z u v w : α} {xs : List α} : atI (x :: y :: z :: u :: v :: w :: xs) 5 = some w := atI_nat (j := 5) rfl
@[simp] theorem ix_tup {h : Hv} {xs : List W} {i : Int} : mIx (.tup xs) (.int i) h = ofO (atI xs i) h := rfl
@[simp] theorem is_non {neg : Bool} {h : Hv} {w : W} : mIs neg w .non h = .val (.bl (if neg then !decide (w = .non) else decide (w = .non))) h := by
  cases w <;> rfl
theorem eq_int {i j : Int} {g : Hv} : mEq false (.int i) (.int j) g = .val (.bl (decide (i = j))) g := by
  have e : (i == j) = decide (i = j) := by rw [Bool.eq_iff_iff]; simp
  simp [mEq, toD, shaped_int, PyData.eqv, e]
theorem ne_int {i j : Int} {g : Hv} : mEq true (.int i) (.int j) g = .val (.bl (!decide (i = j))) g := by
  have e : (i == j) = decide (i = j) := by rw [Bool.eq_iff_iff]; simp
  simp [mEq, toD, shaped_int, PyData.eqv, e]

/-! ### loops over a range -/
theorem for_rng {n : Nat} {lo : Int} {s : Nat} {b : MS} (I : Nat → Ws → Hv → Prop) (step : ∀ i r h, i < n → I i r h → ∃ r' h', b (r.set s (some (.int (lo + i)))) h = .nx r' h' ∧ I (i + 1) r' h') :
    ∀ (k i : Nat) (r : Ws) (h : Hv), i + k = n → I i r h → ∃ r' h', VL.forM (nxR lo n) (mGn s) b (k + 1) i r h = .nx r' h' ∧ I n r' h'
  | 0, i, r, h, hk, hi => by
    have e : i = n := by omega
    subst e
    refine ⟨r, h, ?_, hi⟩
    unfold VL.forM
    simp [nxR]
  | k + 1, i, r, h, hk, hi => by
    obtain ⟨r1, h1, e1, i1⟩ := step i r h (by omega) hi
    obtain ⟨r2, h2, e2, i2⟩ := for_rng I step k (i + 1) r1 h1 (by omega) i1
    refine ⟨r2, h2, ?_, i2⟩
    unfold VL.forM
    simp only [nxR, show i < n by omega, if_true, mGn_eq, e1]
    exact e2


theorem for_seq {p : Nat} {L : List W} {s : Nat} {b : MS} (I : Nat → Ws → Hv → Prop) (keep : ∀ i r h, I i r h → h[p]? = some (.lst L)) (step : ∀ (i : Nat) w, L[i]? = some w → ∀ r h, I i r h → ∃ r' h', b (r.set s (some w)) h = .nx r' h' ∧ I (i + 1) r' h') :
    ∀ (k i : Nat) (r : Ws) (h : Hv), i + k = L.length → I i r h → ∃ r' h', VL.forM (nxSeq p) (mGn s) b (k + 1) i r h = .nx r' h' ∧ I L.length r' h'
  | 0, i, r, h, hk, hi => by
    have e : i = L.length := by omega
    refine ⟨r, h, ?_, by rw [← e]; exact hi⟩
    unfold VL.forM
    simp [nxSeq, keep i r h hi, show L.length ≤ i by omega]
  | k + 1, i, r, h, hk, hi => by
    have lt : i < L.length := by omega
    obtain ⟨r1, h1, e1, i1⟩ := step i L[i] (List.getElem?_eq_getElem lt) r h hi
    obtain ⟨r2, h2, e2, i2⟩ := for_seq I keep step k (i + 1) r1 h1 (by omega) i1
    refine ⟨r2, h2, ?_, i2⟩
    unfold VL.forM
    simp only [nxSeq, keep i r h hi, List.getElem?_eq_getElem lt, mGn_eq, e1]
    exact e2

theorem for_enumI {P a b : Nat} {L : List W} {B : MS} (I : Nat → Ws → Hv → Prop) (keep : ∀ i r h, I i r h → h[P]? = some (.lst L)) (step : ∀ (i : Nat) w, L[i]? = some w → ∀ r h, I i r h → ∃ r' h', B ((r.set a (some (.int i))).set b (some w)) h = .nx r' h' ∧ I (i + 1) r' h') :
    ∀ (k i : Nat) (r : Ws) (h : Hv), i + k = L.length → I i r h → ∃ r' h', VL.forM (nxEnum P) (mGs 2 (mGcons (mGn a) (mGcons (mGn b) mGnil))) B (k + 1) i r h = .nx r' h' ∧ I L.length r' h'
  | 0, i, r, h, hk, hi => by
    have e : i = L.length := by omega
    refine ⟨r, h, ?_, by rw [← e]; exact hi⟩
    unfold VL.forM
    simp [nxEnum, keep i r h hi, show L.length ≤ i by omega]
  | k + 1, i, r, h, hk, hi => by
    have lt : i < L.length := by omega
    obtain ⟨r1, h1, e1, i1⟩ := step i L[i] (List.getElem?_eq_getElem lt) r h hi
    obtain ⟨r2, h2, e2, i2⟩ := for_enumI I keep step k (i + 1) r1 h1 (by omega) i1
    refine ⟨r2, h2, ?_, i2⟩
    unfold VL.forM
    have gt : mGs 2 (mGcons (mGn a) (mGcons (mGn b) mGnil)) (.tup [.int i, L[i]]) r h = .nx ((r.set a (some (.int i))).set b (some L[i])) h := by
      simp [mGs, mGcons, mGnil]
    simp only [nxEnum, keep i r h hi, List.getElem?_eq_getElem lt, gt, e1]
    exact e2

theorem mul64 {i j : Int} {h : Hv} (h1 : i.natAbs < 2 ^ 64) (h2 : j.natAbs < 2 ^ 64) : mMul (.int i) (.int j) h = .val (.int (i * j)) h := mMul_int (by have := log_le h1 (by decide); have := log_le h2 (by decide); omega)
theorem fmod_in (a : Int) {b : Int} (hb : 0 < b) : 0 ≤ a.fmod b ∧ a.fmod b < b := ⟨Int.fmod_nonneg_of_pos a hb, Int.fmod_lt_of_pos a hb⟩
theorem mod420 {i : Int} {h : Hv} : mMod (.int i) (.int 420) h = .val (.int (i.fmod 420)) h := mMod_int (by decide)
theorem div420 {i : Int} {h : Hv} : mDiv (.int i) (.int 420) h = .val (.int (i.fdiv 420)) h := mDiv_int (by decide) (by decide +kernel)
theorem div16 {i : Int} {h : Hv} : mDiv (.int i) (.int 16) h = .val (.int (i.fdiv 16)) h := mDiv_int (by decide) (by decide +kernel)
theorem modM {i : Int} {h : Hv} : mMod (.int i) (.int 2147483629) h = .val (.int (i.fmod 2147483629)) h := mMod_int (by decide)
theorem modN {i : Int} {h : Hv} : mMod (.int i) (.int 2147483647) h = .val (.int (i.fmod 2147483647)) h := mMod_int (by decide)
theorem pow18 {h : Hv} : mPow (.int 10) (.int 18) h = .val (.int 1000000000000000000) h := mPow_int (by decide) (by decide) (by decide)
theorem pow64 {i : Int} {j : Nat} {h : Hv} (h1 : i.natAbs < 2 ^ 64) (hj : j ≤ 1000) : mPow (.int i) (.int (j : Int)) h = .val (.int (i ^ j)) h := by
  have := mPow_int (i := i) (j := (j : Int)) (h := h) (by omega) (by omega) h1
  simpa using this

theorem rgB_small {m : Nat} (hm : m ≤ 1000) : rgB (m : Int) = true := by
  unfold rgB
  rw [Bool.and_eq_true]
  exact ⟨decide_eq_true (by omega), decide_eq_true (by omega)⟩
theorem src_rng {m : Nat} {g : Hv} (hm : m ≤ 1000) : srcR [.int (m : Int)] g = .val ⟨m + 1, nxR 0 m⟩ g := by
  have e : srcR [.int (m : Int)] g = (if rgB (m : Int) then .val ⟨(m : Int).toNat + 1, nxR 0 (m : Int).toNat⟩ g else .bad) := by simp only [srcR]
  rw [e, if_pos (rgB_small hm), Int.toNat_natCast]
theorem mRng_of {m : Nat} {g : Hv} {r : Ws} {f : Ws → Hv → Res (List W)} (hm : m ≤ 1000) (el : f r g = .val [.int (m : Int)] g) : mRng f r g = .val ⟨m + 1, nxR 0 m⟩ g := by
  unfold mRng
  rw [el, bind_val, src_rng hm]

theorem ixN_last {n : Nat} (h : 0 < n) : ixN n (-1) = some (n - 1) := by
  unfold ixN
  simp
  omega
theorem ixN_two {n : Nat} (h : 1 < n) : ixN n (-2) = some (n - 2) := by
  unfold ixN
  simp
  omega
theorem ix_last {h : Hv} {p : Nat} {ws : List W} {w : W} (e : h[p]? = some (.lst ws)) (ew : ws[ws.length - 1]? = some w) : mIx (.ref p) (.int (-1)) h = .val w h := by
  have hl : 0 < ws.length := by
    cases ws with
    | nil => simp at ew
    | cons a b => simp
  exact mIx_lst e (by unfold atI; rw [ixN_last hl]; exact ew)
theorem ix_two {h : Hv} {p : Nat} {ws : List W} {w : W} (hl : 1 < ws.length) (e : h[p]? = some (.lst ws)) (ew : ws[ws.length - 2]? = some w) : mIx (.ref p) (.int (-2)) h = .val w h :=
  mIx_lst e (by unfold atI; rw [ixN_two hl]; exact ew)
theorem ix_nat {h : Hv} {p j : Nat} {ws : List W} {w : W} (e : h[p]? = some (.lst ws)) (ew : ws[j]? = some w) : mIx (.ref p) (.int (j : Int)) h = .val w h := mIx_lst e (atI_nat ew)

theorem src_rng2 {n : Nat} {g : Hv} (h1 : 1 ≤ n) (h2 : n ≤ 1000) : srcR [.int 1, .int (n : Int)] g = .val ⟨n - 1 + 1, nxR 1 (n - 1)⟩ g := by
  have a : rgB 1 = true := by decide
  have b : rgB (n : Int) = true := rgB_small h2
  have c : ((n : Int) - 1).toNat = n - 1 := by omega
  generalize (n : Int) = j at b c
  have s : srcR [.int 1, .int j] g = if (rgB 1 && rgB j) = true then .val ⟨(j - 1).toNat + 1, nxR 1 (j - 1).toNat⟩ g else .bad := by
    unfold srcR
    rfl
  rw [s, a, b, c]
  rfl

/-! ### small numbers -/
section
variable {i : Int} {h : Hv}
theorem mod2 : mMod (.int i) (.int 2) h = .val (.int (i.fmod 2)) h := mMod_int (by decide)
theorem mod3 : mMod (.int i) (.int 3) h = .val (.int (i.fmod 3)) h := mMod_int (by decide)
theorem mod5 : mMod (.int i) (.int 5) h = .val (.int (i.fmod 5)) h := mMod_int (by decide)
theorem mod6 : mMod (.int i) (.int 6) h = .val (.int (i.fmod 6)) h := mMod_int (by decide)
theorem mod7 : mMod (.int i) (.int 7) h = .val (.int (i.fmod 7)) h := mMod_int (by decide)
theorem mod9 : mMod (.int i) (.int 9) h = .val (.int (i.fmod 9)) h := mMod_int (by decide)
theorem div3 : mDiv (.int i) (.int 3) h = .val (.int (i.fdiv 3)) h := mDiv_int (by decide) (by decide +kernel)
theorem div5 : mDiv (.int i) (.int 5) h = .val (.int (i.fdiv 5)) h := mDiv_int (by decide) (by decide +kernel)
theorem div6 : mDiv (.int i) (.int 6) h = .val (.int (i.fdiv 6)) h := mDiv_int (by decide) (by decide +kernel)
theorem div7 : mDiv (.int i) (.int 7) h = .val (.int (i.fdiv 7)) h := mDiv_int (by decide) (by decide +kernel)
theorem div9 : mDiv (.int i) (.int 9) h = .val (.int (i.fdiv 9)) h := mDiv_int (by decide) (by decide +kernel)
theorem div12 : mDiv (.int i) (.int 12) h = .val (.int (i.fdiv 12)) h := mDiv_int (by decide) (by decide +kernel)
end

theorem cut_drop (xs : List W) (a : Nat) (h : a ≤ xs.length) : cutW xs (some (a : Int)) none = xs.drop a := by
  have e : HT.sIx xs.length 0 (some (a : Int)) = a := by
    show (if ((a : Int) < 0) then ((a : Int) + (xs.length : Int)).toNat else min ((a : Int).toNat) xs.length) = a
    rw [if_neg (by omega)]
    omega
  unfold cutW
  rw [e]
  show (xs.drop a).take (xs.length - a) = xs.drop a
  exact List.take_of_length_le
    (by simp)
theorem cut_take (xs : List W) (b : Nat) (h : b ≤ xs.length) : cutW xs none (some (b : Int)) = xs.take b := by
  have e : HT.sIx xs.length xs.length (some (b : Int)) = b := by
    show (if ((b : Int) < 0) then ((b : Int) + (xs.length : Int)).toNat else min ((b : Int).toNat) xs.length) = b
    rw [if_neg (by omega)]
    omega
  unfold cutW
  rw [e]
  rfl
theorem cut_mid (xs : List W) (a b : Nat) (ha : a ≤ b) (h : b ≤ xs.length) : cutW xs (some (a : Int)) (some (b : Int)) = (xs.drop a).take (b - a) := by
  have e : HT.sIx xs.length xs.length (some (b : Int)) = b := by
    show (if ((b : Int) < 0) then ((b : Int) + (xs.length : Int)).toNat else min ((b : Int).toNat) xs.length) = b
    rw [if_neg (by omega)]
    omega
  have e2 : HT.sIx xs.length 0 (some (a : Int)) = a := by
    show (if ((a : Int) < 0) then ((a : Int) + (xs.length : Int)).toNat else min ((a : Int).toNat) xs.length) = a
    rw [if_neg (by omega)]
    omega
  unfold cutW
  rw [e, e2]

theorem get_app_lt {α : Type} {R : List α} {c : α} {i : Nat} (h : i < R.length) : (R ++ [c])[i]? = R[i]? := List.getElem?_append_left h
theorem get_app_eq {α : Type} {R : List α} {c : α} : (R ++ [c])[R.length]? = some c := by simp

theorem lt_of_get {α : Type} {R : List α} {i : Nat} {a : α} (h : R[i]? = some a) : i < R.length := (List.getElem?_eq_some_iff.mp h).1

/-! ### all but one place stays -/
def Kp (q : Nat) (g g' : Hv) : Prop := ∀ i o, i ≠ q → g[i]? = some o → g'[i]? = some o
theorem Kp.refl (q : Nat) (g : Hv) : Kp q g g := fun _ _ _ e => e
theorem Kp.trans {q : Nat} {a b c : Hv} (x : Kp q a b) (y : Kp q b c) : Kp q a c := fun i o n e => y i o n (x i o n e)
theorem Kp.more (q : Nat) (g t : Hv) : Kp q g (g ++ t) := fun _ _ _ e => get_old e
theorem Kp.set (q : Nat) (g : Hv) (o : O) : Kp q g (g.set q o) := fun i u n e => by rw [List.getElem?_set_ne (Ne.symm n)]; exact e

/-! ### what stays -/
def Ext (h g : Hv) : Prop := ∀ (i : Nat) (o : O), h[i]? = some o → g[i]? = some o
theorem Ext.refl (h : Hv) : Ext h h := fun _ _ e => e
theorem Ext.trans {a b c : Hv} (x : Ext a b) (y : Ext b c) : Ext a c := fun i o e => y i o (x i o e)
theorem Ext.more (h t : Hv) : Ext h (h ++ t) := fun _ _ e => get_old e

theorem Kp.ext {q : Nat} {g g' : Hv} (k : Kp q g g') {h : Hv} (e : Ext h g) (n : h.length ≤ q) : Ext h g' := fun i o z => k i o (by have := lt_of_get z; omega) (e i o z)
theorem Ext.len {h g : Hv} (e : Ext h g) : h.length ≤ g.length := by
  rcases Nat.lt_or_ge g.length h.length with q | q
  · have := lt_of_get (e g.length _ (List.getElem?_eq_getElem q))
    exact absurd this (Nat.lt_irrefl _)
  · exact q
theorem Ext.new {h g : Hv} (e : Ext h g) (o : O) : Ext h (g ++ [o]) := fun i u z => get_old (e i u z)
end VL
end
section
/-! ### x(..), x a local name that holds an instance whose class has a __call__ of its own -/
namespace VX
open PySem PySem.W PySem.Spec PyProof.Rows
section
variable {M : Model} {A : Around} {E : Value → Shared → Prop} {s : Shared} {K : Frag} {pos : Pos} {x : Addr} {first : List Value} {Q : Value → Shared → Prop}
/-- an instance stands at x -/
def IsIns (x : Addr) (h : Heap) : Prop := ∃ C dx od, InstAt h x (instObj C dx) C od
theorem own_with {args : List (Bool × Sem Value)} {kws : List (Option Str × Sem Value)} (hp : (args.any (·.1) || kws.any (·.1.isNone)) = false)
    (h : wpAny M A (evalArgs (.ref x) true args kws) (fun a t => IsIns x t.heap ∧ wpAny M A (call (.ref x) (first ++ a.pos) a.kw) Q E t) E s) : wpAny M A (callWith pos (.ref x) first args kws) Q E s := by
  unfold callWith
  refine wpAny_bind (wpAny_holding (wpAny_mono h (fun a t ht => wpAny_bind (wpAny_standAt ?_)) fun _ _ z => z))
  obtain ⟨⟨C, dx, od, J⟩, hc⟩ := ht
  simp only [hp]
  refine wpAny_bind ((kco_keeper (M := M) J rfl).here ?_)
  have tl : ∀ {c : Sem Value}, wpAny M A c Q E t → wpAny M A (c >>= fun r => holding [r] point >>= fun _ => pure r) Q E t := fun hq =>
    wpAny_bind (wpAny_mono hq (fun r u hr => wpAny_bind (wpAny_holding (wpAny_point (wpAny_pure hr)))) fun _ _ z => z)
  exact tl (wpAny_operateT hc)
end
end VX
namespace VL
open PySem L2 PySem.Spec PyProof.Rows
def mOwnO (c : String) (n : Nat) (mf : MFn) (g : Ws → Hv → Res (List W)) (r : Ws) (w : W) (h : Hv) : Res W := match w with
  | .ref p => (g r h).bind fun ws h2 => (match h2[p]? with
    | some (.ins d _) => if d = c ∧ ws.length = n then mf (w :: ws) h2 else .bad
    | _ => .bad)
  | _ => .bad
def mOwn (c : String) (n : Nat) (mf : MFn) (fo : Ws → Hv → Res W) (g : Ws → Hv → Res (List W)) : Ws → Hv → Res W := fun r h => (fo r h).bind (mOwnO c n mf g r)
section
variable {T : Tx} {X : Cx} {C fa : Addr} {c : String} {x : Str} {e : Expr} {es : List Expr} {fo : Ws → Hv → Res W} {g : Ws → Hv → Res (List W)} {p pos : Pos} {n : Nat} {mf : MFn}
theorem se_own (Cn9 : Can T X fa (n + 1) mf) (hcv : T.cv c = .ref C) (hs : PySem.W.findIn X.K (.ref C) "__call__" = some (some (.ref fa))) (hf : PySem.W.isFn X.K (.ref fa) = true) (hfn : PySem.W.fnIn X.K fa = true) (ho : SE T X (.Name x p) fo) (ha : SA T X (e :: es) g)
    (hst : starEach (e :: es) X.env = (false, eval e X.env) :: starEach es X.env := by rfl) (hpl : (backTo pos (starEach es X.env)).any (·.1) = false := by rfl) :
    SE T X (.Call (.Name x p) (e :: es) [] pos) (mOwn c n mf fo g) := fun E cn => ⟨fun pins s σ H Q I h => by
  obtain ⟨ps, r, hv, es0, vw, gd⟩ := h
  refine wpAny_Call_Name_kw (thn ((ho E cn).run pins s σ H _ I ⟨ps, r, hv, es0, vw, Good.bind (R := WV) (S := WV) gd⟩) fun u s1 hh => ?_)
  obtain ⟨y, H1, I1, rx, qs, w, h1, st, vw1, wv, g1⟩ := hh
  unfold mOwnO at g1
  split at g1
  · rename_i p0
    obtain ⟨a, ea, rfl⟩ := wv
    have eu : u = Value.ref a := rx
    subst eu
    suffices h8 : wpAny (model X.prog X.w) X.A (spliced (backTo pos (starEach (e :: es) X.env))) (fun us s2 => VX.IsIns a s2.heap ∧ wpAny (model X.prog X.w) X.A (call (.ref a) ([] ++ us)) (EP X pins σ Q) X.xe s2) X.xe s1 by
      rw [hst] at h8 ⊢
      exact VX.own_with (by show ((false || (backTo pos (starEach es X.env)).any (·.1)) || false) = false; rw [hpl]; rfl) (PySem.Calls.evalArgs_plain h8)
    refine thn ((ha E cn).run pos pins s1 σ H1 _ I1 ⟨qs, r, h1, es0.mono st.pre, vw1, Good.bind (R := WVs) (S := WV) g1⟩) fun us s2 h9 => ?_
    obtain ⟨zs, H2, I2, r2, ts, ws, h2, st2, vw2, wv2, g2⟩ := h9
    dsimp only at g2
    split at g2
    · rename_i d fs e2
      split at g2
      · rename_i hd
        obtain ⟨rfl, hn⟩ := hd
        have ea2 := at_pre st2.pre ea
        obtain ⟨vs, dx, C', hc', rr, eH⟩ := vw2.ob _ a _ ea2 e2
        rw [hcv] at hc'
        cases hc'
        obtain ⟨mA, O, _, _, _, _⟩ := ins_get I2.hok eH
        obtain ⟨od, J, _⟩ := O.look
        refine ⟨⟨C, dx, _, J⟩, ?_⟩
        have prom : spV T (n + 1) mf (V.ref a :: zs) H2 Q (WE E σ) := ⟨by have := wv2.length; simp only [List.length_cons]; omega, ts, h2, .ref p0 :: ws, vw2, .cons ⟨a, ea2, rfl⟩ wv2, g2⟩
        refine wpAny_call (PySem.W.kco_code I2.kIn J rfl hs hf hfn (codeAny_mono (Cn9 pins s2 σ H2 (.ref a :: us) (.ref a :: zs) Q (WE E σ) I2 (.cons rfl r2) prom) fun fin s' hq => ?_))
        match fin, hq with
        | .error u, hq => exact passAt cn.tk σ pins H2 s2 u s' I2 hq
        | .ok (.ret u), hq => exact I2.after hq
        | .ok .next, hq => exact hq.elim
        | .ok .brk, hq => exact hq.elim
        | .ok .cont, hq => exact hq.elim
      · exact g2.elim
    · exact g2.elim
  · exact g1.elim⟩
end
end VL
end
section
namespace VL
open PySem L2
/-! ### a range with a step -/
def nxC (lo c : Int) (n : Nat) : Nat → Hv → Nxt := fun i h => if i < n then .item (.int (lo + i * c)) h else .stop
theorem sim_rangeC {T : Tx} {ps : Pl} {lo c : Int} {n m : Nat} : SimI T ps ⟨m, nxC lo c n⟩ (Itc lo c n) := by
  intro qs h H i pre vw
  show NxOk T qs H (Itc lo c n) i (nxC lo c n i h)
  unfold nxC
  split
  · rename_i hi
    refine ⟨hi, fun x H' y => ?_⟩
    obtain ⟨rfl, rfl⟩ := y
    exact ⟨qs, Step.refl _ _, vw, rfl⟩
  · rename_i hi
    exact Nat.le_of_not_lt hi
def srcC (ws : List W) (h : Hv) : Res Src := match ws with
  | [.int i, .int j, .int c] => if (decide (c ≠ 0) && decide (c.natAbs < 1073741824) && Builtin.Range.small i j c && decide (0 ≤ Builtin.Range.rangeSize i j c)) = true then .val ⟨(Builtin.Range.rangeSize i j c).toNat + 1, nxC i c (Builtin.Range.rangeSize i j c).toNat⟩ h else .bad
  | _ => .bad
def mRngC (g : Ws → Hv → Res (List W)) : Ws → Hv → Res Src := fun r h => (g r h).bind srcC
section
variable {T : Tx} {X : Cx} {tg : Expr}
theorem si_range3 {a b c : Expr} {fa : Ws → Hv → Res (List W)} {p pos : Pos} (hg : Gl X "range") (hm : X.mg "range" = none) (ha : SA T X [a, b, c] fa) (hs : starEach [a, b, c] X.env = (false, eval a X.env) :: starEach [b, c] X.env := by rfl) (hpl : (backTo pos (starEach [b, c] X.env)).any (·.1) = false := by rfl) :
    SI T X tg (.Call (.Name "range" p) [a, b, c] [] pos) (mRngC fa) := fun E cn => ⟨fun pins s σ H R I h => (pi_range3 hg hm (ha E cn) hs hpl).run pins s σ H R I (by
  obtain ⟨ps, r, hv, es, vw, gd⟩ := h
  refine ⟨ps, r, hv, es, vw, ?_⟩
  cases q : fa r hv with
  | bad => unfold mRngC at gd; rw [q] at gd; exact gd.elim
  | exc c d h1 => unfold mRngC at gd; rw [q] at gd; exact gd
  | val ws h1 =>
    unfold mRngC at gd
    rw [q] at gd
    have g1 : Good T (SimI T) ps H (srcC ws h1) R _ := gd
    intro qs H' vs st vw' wv
    unfold srcC at g1
    split at g1
    · split at g1
      · rename_i i j c hj
        rw [Bool.and_eq_true, Bool.and_eq_true, Bool.and_eq_true] at hj
        cases wv with
        | cons r1 rr =>
          obtain ⟨v, v', rfl, e, e'⟩ := pair_of rr
          cases r1; cases e; cases e'
          exact ⟨i, j, c, _, rfl, ⟨of_decide_eq_true hj.1.1.1, of_decide_eq_true hj.1.1.2, hj.1.2, (Int.toNat_of_nonneg (of_decide_eq_true hj.2)).symm⟩, g1 qs H' _ st vw' sim_rangeC⟩
      · exact g1.elim
    · exact g1.elim)⟩
end
/-! ### xs.index(x), xs texts -/
def allS : List W → Bool
  | [] => true
  | .str _ :: ws => allS ws
  | _ :: _ => false
def idxS (x : Str) : List W → Option Nat
  | .str y :: ws => if y == x then (if allS ws then some 0 else none) else (idxS x ws).map (· + 1)
  | _ => none
theorem allS_flat {ps : Pl} : ∀ {ws : List W} {vs : List V}, Paired (WV ps) ws vs → allS ws = true → vs.all flatV = true
  | [], _, .nil, _ => rfl
  | .str y :: ws, _, .cons r rr, h => by
    have e : _ = V.str y := r
    subst e
    simp only [allS] at h
    rw [List.all_cons, allS_flat rr h]
    rfl
theorem idxS_ok {ps : Pl} {x : Str} : ∀ {ws : List W} {vs : List V} {j : Nat}, Paired (WV ps) ws vs → idxS x ws = some j → vs.all flatV = true ∧ ∃ z, vs[j]? = some z ∧ eqV z (.str x) = true ∧ ∀ (m : Nat) (z' : V), m < j → vs[m]? = some z' → eqV z' (.str x) = false
  | .str y :: ws, _, j, .cons r rr, h => by
    have e : _ = V.str y := r
    subst e
    unfold idxS at h
    split at h
    · rename_i hy
      split at h
      · rename_i ha
        cases h
        refine ⟨by rw [List.all_cons, allS_flat rr ha]; rfl, .str y, rfl, ?_, fun m z' hm => absurd hm (Nat.not_lt_zero m)⟩
        exact hy
      · cases h
    · rename_i hy
      cases q : idxS x ws with
      | none => rw [q] at h; cases h
      | some k =>
        rw [q] at h
        cases h
        obtain ⟨f, z, hz, e, n⟩ := idxS_ok rr q
        refine ⟨by rw [List.all_cons, f]; rfl, z, by rw [List.getElem?_cons_succ]; exact hz, e, fun m z' hm hz' => ?_⟩
        cases m with
        | zero =>
          cases hz'
          show (y == x) = false
          simpa using hy
        | succ m =>
          rw [List.getElem?_cons_succ] at hz'
          have hm2 : m + 1 < k + 1 := hm
          exact n m z' (by omega) hz'
def mIdx (fo fe : Ws → Hv → Res W) : Ws → Hv → Res W := fun r h => (fo r h).bind fun o h1 => match o with
  | .ref p => (match h1[p]? with
    | some (.lst _) => (fe r h1).bind fun w h2 => (match w with
      | .str x => (match h2[p]? with
        | some (.lst xs) => (match idxS x xs with
          | some j => .val (.int (j : Int)) h2
          | none => .bad)
        | _ => .bad)
      | _ => .bad)
    | _ => .bad)
  | _ => .bad
section
variable {T : Tx} {X : Cx} {o e : Expr} {fo fe : Ws → Hv → Res W} {apos cpos : Pos}
theorem se_index (ho : SE T X o fo) (he : SE T X e fe) (hs : starEach [e] X.env = (false, eval e X.env) :: starEach [] X.env := by rfl)
    (hp : ∀ {to : TE} {t : TA}, PE X o to → PA X [e] t → PE X (.Call (.Attribute o "index" apos) [e] [] cpos) (tBM X.K "list" (rIndex X.K) to t) := by exact fun a b => pe_bm PySem.F.plainAttrs_list PySem.F.slot_list_index PySem.F.type_list_index mt_index a b) :
    SE T X (.Call (.Attribute o "index" apos) [e] [] cpos) (mIdx fo fe) := fun E cn => PEi (hp (ho E cn) (pa_cons (he E cn) pa_nil hs)) fun s H Q ⟨ps, r, hv, es, vw, gd⟩ => by
  refine ⟨ps, r, hv, es, vw, (Good.bind (R := WV) (S := WV) gd).imp (fun v H1 q => ?_) fun _ _ _ z => z⟩
  obtain ⟨qs, w, h1, st, vw1, wv, g1⟩ := q
  dsimp only at g1
  split at g1
  · rename_i p
    obtain ⟨a, ea, rfl⟩ := wv
    split at g1
    · rename_i ys e1
      obtain ⟨vs, rr, eH⟩ := vw1.ob _ a _ ea e1
      refine ⟨.inl ⟨rfl, vs, SqL.of eH⟩, qs, r, h1, es.mono st.pre, vw1, (Good.bind (R := WV) (S := WV) g1).imp (fun y H2 q2 => ?_) fun _ _ _ z => z⟩
      obtain ⟨rs, wy, h2, st2, vw2, wvy, g2⟩ := q2
      dsimp only at g2
      split at g2
      · rename_i x
        have ey : y = V.str x := wvy
        subst ey
        split at g2
        · rename_i xs e2
          split at g2
          · rename_i j hj
            have ea2 := at_pre st2.pre ea
            obtain ⟨us, r2, eH2⟩ := vw2.ob _ a _ ea2 e2
            obtain ⟨f, z, hz, ez, n⟩ := idxS_ok r2 hj
            exact ⟨a, us, .str x, j, z, rfl, rfl, SqL.of eH2, rfl, f, hz, ez, n, Good.now g2 vw2 rfl⟩
          · exact g2.elim
        · exact g2.elim
      · exact g2.elim
    · exact g1.elim
  · exact g1.elim
end
/-! ### x = [.. for ..] -/
section
variable {T : Tx} {X : Cx} {elt iter : Expr} {scope : Scope} {pos px : Pos} {src : Ws → Hv → Res Src} {t : Ws → Hv → Res Bool} {f : Ws → Hv → Res W} {x : Str}
theorem ss_setLc (j i : Nat) {y : Str} {py spos : Pos} (hN : X.N.Nodup) (hi : SI T X (.Name x px) iter src) (ok : BlkOk X.N X.env.scope scope [(x, i)]) (hx : ∀ (s : Shared) (H : Hp) (C : Addr) (cl : List (Str × Addr)) (fp : List Addr), PG (X.blk s H scope (compEnvC scope cl C X.env) fp) (.Name x px) (gName i))
    (he : ∀ (s : Shared) (H : Hp) (C : Addr) (cl : List (Str × Addr)) (fp : List Addr), SE T (X.blk s H scope (compEnvC scope cl C X.env) fp) elt f) (hc : X.calm = true := by rfl) (hs : ∀ x, foldedSetIterable iter X.env x = pure x := by intro _; rfl)
    (hy : X.N[j]? = some y := by rfl) (hyl : X.env.scope.names.lookup y = some .local := by rfl) (hsw : swapsWith (.ListComp elt [⟨.Name x px, iter, [], 0⟩] scope pos) (some (.Name y py)) spos.line X.env = pure true := by rfl) :
    SS T X (.Assign [.Name y py] (.ListComp elt [⟨.Name x px, iter, [], 0⟩] scope pos) spos) (mSet j (mLc src i mYes f)) := fun E cn => PSi (ps_setLc (own := [(x, i)]) hc hN hy hyl hsw (hi E cn) ok hx (fun _ _ _ _ _ => pts_nil) (fun s H C cl fp => he s H C cl fp No cn_no) hs) fun D s H ⟨ps, r, hv, es, vw, gd⟩ => by
  refine lc_read i (fun _ _ _ z => yes_read z) ⟨ps, r, hv, es, vw, (good_andS (R := WV) es gd).imp (fun v H1 q => ?_) fun _ _ _ z => z⟩
  obtain ⟨qs, w, h1, st, vw1, wv, es1, g1⟩ := q
  exact g1 qs H1 _ (Step.refl _ _) vw1 (es1.set j wv)
end
end VL
end
section
namespace SHP
open PySem L2 VL
def fuel_common_divisor : Ws → Hv → Nat := fun r _ => match r[1]? with
  | some (some (VL.W.int i)) => i.natAbs + 1
  | _ => 1
def fuel__law_fraction : Ws → Hv → Nat := fun r _ => match r[2]? with
  | some (some (VL.W.int i)) => i.natAbs + 1
  | _ => 1
def fuel_index_of : Ws → Hv → Nat := fun r _ => match r[2]?, r[3]? with
  | some (some (VL.W.int i)), some (some (VL.W.int j)) => (j - i).toNat + 1
  | _, _ => 1
def m_is_whole : MFn := mDef ["value"] ((mRet (mAndV (mB mIsi (mCons (mVar 0) (mCons (mC (.ty "int")) mNil))) (mNotV (mB mIsi (mCons (mVar 0) (mCons (mC (.ty "bool")) mNil)))))))
def m_is_whole_pair : MFn := mDef ["value"] ((mSeq (mIfS (mOrT (mNotT (mT (mB mIsi (mCons (mVar 0) (mCons (mC (.ty "tuple")) mNil))))) (mT (m2 (mEq true) (mB mLen (mCons (mVar 0) mNil)) (mC (.int 2))))) (mRet (mC (.bl false))) mNext)
    (mRet (mAndV (mCall 1 m_is_whole (mCons (m2 mIx (mVar 0) (mC (.int 0))) mNil)) (mCall 1 m_is_whole (mCons (m2 mIx (mVar 0) (mC (.int 1))) mNil))))))
def m_sign_of : MFn := mDef ["number"] ((mSeq (mIfS (mT (m2 mLt (mVar 0) (mC (.int 0)))) (mRet (m1 mNeg (mC (.int 1)))) mNext)
    (mSeq (mIfS (mT (m2 mGt (mVar 0) (mC (.int 0)))) (mRet (mC (.int 1))) mNext)
    (mRet (mC (.int 0))))))
def m_common_divisor : MFn := mDef ["one", "other"] ((mSeq (mWhile fuel_common_divisor (mT (m2 (mEq true) (mVar 1) (mC (.int 0)))) (mPar 0 1 (mCons (mVar 1) (mCons (m2 mMod (mVar 0) (mVar 1)) mNil))))
    (mRet (mB mAbs (mCons (mVar 0) mNil)))))
def m_is_fraction : MFn := mDef ["value"] ((mRet (mAndV (mCall 1 m_is_whole_pair (mCons (mVar 0) mNil)) (mAndV (m2 mGe (m2 mIx (mVar 0) (mC (.int 1))) (mC (.int 1))) (m2 (mEq false) (mCall 2 m_common_divisor (mCons (m2 mIx (mVar 0) (mC (.int 0))) (mCons (m2 mIx (mVar 0) (mC (.int 1))) mNil))) (mC (.int 1)))))))
def m_require_fraction : MFn := mDef ["value"] ((mIfS (mNotT (mT (mCall 1 m_is_fraction (mCons (mVar 0) mNil)))) (mRaise "b" "value" (mCons (mVar 0) mNil)) mNext))
def m_is_slowness : MFn := mDef ["value"] ((mRet (mAndV (mCall 1 m_is_fraction (mCons (mVar 0) mNil)) (m2 mGe (m2 mIx (mVar 0) (mC (.int 0))) (mC (.int 0))))))
def m_fraction : MFn := mDef ["number", "divisor", "common"] ((mSeq (mIfS (mNotT (mT (mCall 1 m_is_whole (mCons (mVar 0) mNil)))) (mRaise "b" "value" (mCons (mVar 0) mNil)) mNext)
    (mSeq (mIfS (mOrT (mNotT (mT (mCall 1 m_is_whole (mCons (mVar 1) mNil)))) (mT (m2 (mEq false) (mVar 1) (mC (.int 0))))) (mRaise "b" "value" (mCons (mVar 1) mNil)) mNext)
    (mSeq (mSet 2 (mCall 2 m_common_divisor (mCons (mVar 0) (mCons (mVar 1) mNil))))
    (mSeq (mIfS (mT (m2 mLt (mVar 1) (mC (.int 0)))) (mSet 2 (m1 mNeg (mVar 2))) mNext)
    (mRet (mTup (mCons (m2 mDiv (mVar 0) (mVar 2)) (mCons (m2 mDiv (mVar 1) (mVar 2)) mNil)))))))))
def m_order_of : MFn := mDef ["one", "other"] ((mRet (mCall 1 m_sign_of (mCons (m2 mSub (m2 mMul (m2 mIx (mVar 0) (mC (.int 0))) (m2 mIx (mVar 1) (mC (.int 1)))) (m2 mMul (m2 mIx (mVar 1) (mC (.int 0))) (m2 mIx (mVar 0) (mC (.int 1))))) mNil))))
def m_is_line : MFn := mDef ["value"] ((mRet (mCall 1 m_is_whole_pair (mCons (mVar 0) mNil))))
def m_require_line : MFn := mDef ["value"] ((mIfS (mNotT (mT (mCall 1 m_is_line (mCons (mVar 0) mNil)))) (mRaise "b" "value" (mCons (mVar 0) mNil)) mNext))
def m_value_at : MFn := mDef ["line", "x"] ((mSeq (mExpr (mCall 1 m_require_line (mCons (mVar 0) mNil)))
    (mSeq (mExpr (mCall 1 m_require_fraction (mCons (mVar 1) mNil)))
    (mRet (mCall 2 m_fraction (mCons (m2 mAdd (m2 mMul (m2 mIx (mVar 0) (mC (.int 0))) (m2 mIx (mVar 1) (mC (.int 0)))) (m2 mMul (m2 mIx (mVar 0) (mC (.int 1))) (m2 mIx (mVar 1) (mC (.int 1))))) (mCons (m2 mIx (mVar 1) (mC (.int 1))) mNil)))))))
def m_is_tuple_of : MFn := mDef ["value", "word", "size"] ((mSeq (mIfS (mOrT (mNotT (mT (mB mIsi (mCons (mVar 0) (mCons (mC (.ty "tuple")) mNil))))) (mT (m2 (mEq true) (mB mLen (mCons (mVar 0) mNil)) (mVar 2)))) (mRet (mC (.bl false))) mNext)
    (mRet (mAndV (mB mIsi (mCons (m2 mIx (mVar 0) (mC (.int 0))) (mCons (mC (.ty "str")) mNil))) (m2 (mEq false) (m2 mIx (mVar 0) (mC (.int 0))) (mVar 1))))))
def m_is_point : MFn := mDef ["value"] ((mSeq (mIfS (mOrT (mNotT (mT (mCall 3 m_is_tuple_of (mCons (mVar 0) (mCons (mC (.str ("at" : Str))) (mCons (mC (.int 3)) mNil)))))) (mNotT (mT (mCall 1 m_is_fraction (mCons (m2 mIx (mVar 0) (mC (.int 1))) mNil))))) (mRet (mC (.bl false))) mNext)
    (mRet (mOrV (m2 (mIs false) (m2 mIx (mVar 0) (mC (.int 2))) (mC .non)) (mCall 1 m_is_fraction (mCons (m2 mIx (mVar 0) (mC (.int 2))) mNil))))))
def m_is_gap : MFn := mDef ["value", "low"] ((mSeq (mIfS (mOrT (mNotT (mT (mCall 3 m_is_tuple_of (mCons (mVar 0) (mCons (mC (.str ("between" : Str))) (mCons (mC (.int 4)) mNil)))))) (mOrT (mNotT (mT (mCall 1 m_is_fraction (mCons (m2 mIx (mVar 0) (mC (.int 1))) mNil)))) (mT (m2 (mEq true) (m2 mIx (mVar 0) (mC (.int 1))) (mVar 1))))) (mRet (mC (.bl false))) mNext)
    (mSeq (mIfS (mAndT (mT (m2 (mIs true) (m2 mIx (mVar 0) (mC (.int 2))) (mC .non))) (mOrT (mNotT (mT (mCall 1 m_is_fraction (mCons (m2 mIx (mVar 0) (mC (.int 2))) mNil)))) (mT (m2 mGe (mCall 2 m_order_of (mCons (mVar 1) (mCons (m2 mIx (mVar 0) (mC (.int 2))) mNil))) (mC (.int 0)))))) (mRet (mC (.bl false))) mNext)
    (mRet (mOrV (m2 (mIs false) (m2 mIx (mVar 0) (mC (.int 3))) (mC .non)) (mCall 1 m_is_line (mCons (m2 mIx (mVar 0) (mC (.int 3))) mNil)))))))
def m_follows : MFn := mDef ["piece", "last", "index"] ((mSeq (mIfS (mT (m2 (mEq false) (m2 mMod (mVar 2) (mC (.int 2))) (mC (.int 1)))) (mRet (mCall 2 m_is_gap (mCons (mVar 0) (mCons (m2 mIx (mVar 1) (mC (.int 1))) mNil)))) mNext)
    (mRet (mAndV (mCall 1 m_is_point (mCons (mVar 0) mNil)) (m2 (mEq false) (m2 mIx (mVar 0) (mC (.int 1))) (m2 mIx (mVar 1) (mC (.int 2))))))))
def m_are_pieces : MFn := mDef ["value", "index"] ((mSeq (mIfS (mOrT (mNotT (mT (mB mIsi (mCons (mVar 0) (mCons (mC (.ty "list")) mNil))))) (mT (m2 (mEq false) (mB mLen (mCons (mVar 0) mNil)) (mC (.int 0))))) (mRet (mC (.bl false))) mNext)
    (mSeq (mIfS (mOrT (mNotT (mT (mCall 1 m_is_point (mCons (m2 mIx (mVar 0) (mC (.int 0))) mNil)))) (mNotT (mT (mCall 1 m_is_slowness (mCons (m2 mIx (m2 mIx (mVar 0) (mC (.int 0))) (mC (.int 1))) mNil))))) (mRet (mC (.bl false))) mNext)
    (mSeq (mFor (mRng (mCons (mC (.int 1)) (mCons (mB mLen (mCons (mVar 0) mNil)) mNil))) (mGn 1) (mIfS (mNotT (mT (mCall 3 m_follows (mCons (m2 mIx (mVar 0) (mVar 1)) (mCons (m2 mIx (mVar 0) (m2 mSub (mVar 1) (mC (.int 1)))) (mCons (mVar 1) mNil)))))) (mRet (mC (.bl false))) mNext))
    (mRet (mOrV (m2 (mEq false) (m2 mMod (mB mLen (mCons (mVar 0) mNil)) (mC (.int 2))) (mC (.int 1))) (m2 (mIs false) (m2 mIx (m2 mIx (mVar 0) (m1 mNeg (mC (.int 1)))) (mC (.int 2))) (mC .non))))))))
def m_is_needless : MFn := mDef ["left", "point", "right"] ((mSeq (mIfS (mT (m2 (mEq true) (m2 mIx (mVar 0) (mC (.int 3))) (m2 mIx (mVar 2) (mC (.int 3))))) (mRet (mC (.bl false))) mNext)
    (mSeq (mIfS (mOrT (mT (m2 (mIs false) (m2 mIx (mVar 0) (mC (.int 3))) (mC .non))) (mT (m2 (mIs false) (m2 mIx (mVar 1) (mC (.int 2))) (mC .non)))) (mRet (mAndV (m2 (mIs false) (m2 mIx (mVar 0) (mC (.int 3))) (mC .non)) (m2 (mIs false) (m2 mIx (mVar 1) (mC (.int 2))) (mC .non)))) mNext)
    (mRet (m2 (mEq false) (mCall 2 m_value_at (mCons (m2 mIx (mVar 0) (mC (.int 3))) (mCons (m2 mIx (mVar 1) (mC (.int 1))) mNil))) (m2 mIx (mVar 1) (mC (.int 2))))))))
def m_shortest : MFn := mDef ["pieces", "rows", "piece", "left"] ((mSeq (mSet 1 (mLst mNil))
    (mSeq (mFor (mSrc (mVar 0)) (mGn 2) (mIfS (mAndT (mT (m2 mGt (mB mLen (mCons (mVar 1) mNil)) (mC (.int 1)))) (mAndT (mT (m2 (mEq false) (m2 mIx (mVar 2) (mC (.int 0))) (mC (.str ("between" : Str))))) (mT (mCall 3 m_is_needless (mCons (m2 mIx (mVar 1) (m1 mNeg (mC (.int 2)))) (mCons (m2 mIx (mVar 1) (m1 mNeg (mC (.int 1)))) (mCons (mVar 2) mNil))))))) (mSeq (mExpr (mPop (mVar 1)))
    (mSeq (mSet 3 (mPop (mVar 1)))
    (mExpr (mApp (mVar 1) (mTup (mCons (mC (.str ("between" : Str))) (mCons (m2 mIx (mVar 3) (mC (.int 1))) (mCons (m2 mIx (mVar 2) (mC (.int 2))) (mCons (m2 mIx (mVar 2) (mC (.int 3))) mNil))))))))) (mExpr (mApp (mVar 1) (mVar 2)))))
    (mRet (mVar 1)))))
def m_high_of : MFn := mDef ["pieces"] ((mRet (mIf (mT (m2 (mEq false) (m2 mIx (m2 mIx (mVar 0) (m1 mNeg (mC (.int 1)))) (mC (.int 0))) (mC (.str ("at" : Str))))) (m2 mIx (m2 mIx (mVar 0) (m1 mNeg (mC (.int 1)))) (mC (.int 1))) (mC .non))))
def m_index_of : MFn := mDef ["pieces", "x", "first", "last", "half"] ((mSeq (mPar 2 3 (mCons (mC (.int 0)) (mCons (m2 mDiv (m2 mSub (mB mLen (mCons (mVar 0) mNil)) (mC (.int 1))) (mC (.int 2))) mNil)))
    (mSeq (mWhile fuel_index_of (mT (m2 mLt (mVar 2) (mVar 3))) (mSeq (mSet 4 (m2 mDiv (m2 mAdd (m2 mAdd (mVar 2) (mVar 3)) (mC (.int 1))) (mC (.int 2))))
    (mIfS (mT (m2 mLe (mCall 2 m_order_of (mCons (m2 mIx (m2 mIx (mVar 0) (m2 mMul (mC (.int 2)) (mVar 4))) (mC (.int 1))) (mCons (mVar 1) mNil))) (mC (.int 0)))) (mSet 2 (mVar 4)) (mSet 3 (m2 mSub (mVar 4) (mC (.int 1)))))))
    (mRet (mIf (mT (m2 (mEq false) (m2 mIx (m2 mIx (mVar 0) (m2 mMul (mC (.int 2)) (mVar 2))) (mC (.int 1))) (mVar 1))) (m2 mMul (mC (.int 2)) (mVar 2)) (m2 mAdd (m2 mMul (mC (.int 2)) (mVar 2)) (mC (.int 1))))))))
def m_value_or_none : MFn := mDef ["line", "x"] ((mRet (mIf (mT (m2 (mIs false) (mVar 0) (mC .non))) (mC .non) (mCall 2 m_value_at (mCons (mVar 0) (mCons (mVar 1) mNil))))))
def m_time_at : MFn := mDef ["pieces", "x", "piece"] ((mSeq (mSet 2 (m2 mIx (mVar 0) (mCall 2 m_index_of (mCons (mVar 0) (mCons (mVar 1) mNil)))))
    (mRet (mIf (mT (m2 (mEq false) (m2 mIx (mVar 2) (mC (.int 0))) (mC (.str ("at" : Str))))) (m2 mIx (mVar 2) (mC (.int 2))) (mCall 2 m_value_or_none (mCons (m2 mIx (mVar 2) (mC (.int 3))) (mCons (mVar 1) mNil)))))))
def m_line_before : MFn := mDef ["pieces", "x", "index"] ((mSeq (mSet 2 (mCall 2 m_index_of (mCons (mVar 0) (mCons (mVar 1) mNil))))
    (mRet (mIf (mT (m2 (mEq false) (m2 mMod (mVar 2) (mC (.int 2))) (mC (.int 0)))) (m2 mIx (m2 mIx (mVar 0) (m2 mSub (mVar 2) (mC (.int 1)))) (mC (.int 3))) (m2 mIx (m2 mIx (mVar 0) (mVar 2)) (mC (.int 3)))))))
def m_line_after : MFn := mDef ["pieces", "x", "index"] ((mSeq (mSet 2 (mCall 2 m_index_of (mCons (mVar 0) (mCons (mVar 1) mNil))))
    (mRet (mIf (mT (m2 (mEq false) (m2 mMod (mVar 2) (mC (.int 2))) (mC (.int 0)))) (m2 mIx (m2 mIx (mVar 0) (m2 mAdd (mVar 2) (mC (.int 1)))) (mC (.int 3))) (m2 mIx (m2 mIx (mVar 0) (mVar 2)) (mC (.int 3)))))))
def m_Shape_init : MFn := mDef ["self", "pieces"] ((mSeq (mIfS (mNotT (mT (mCall 1 m_are_pieces (mCons (mVar 1) mNil)))) (mRaise "a" "value" (mCons (mVar 1) mNil)) mNext)
    (mPutF "S" "rows" (mVar 0) (mCall 1 m_shortest (mCons (mVar 1) mNil)))))
def m_Shape_low : MFn := mDef ["self"] ((mRet (m2 mIx (m2 mIx (mFld "S" "rows" (mVar 0)) (mC (.int 0))) (mC (.int 1)))))
def m_Shape_high : MFn := mDef ["self"] ((mRet (mCall 1 m_high_of (mCons (mFld "S" "rows" (mVar 0)) mNil))))
def m_Shape_require_inside : MFn := mDef ["self", "x"] ((mSeq (mIfS (mOrT (mNotT (mT (mCall 1 m_is_slowness (mCons (mVar 1) mNil)))) (mT (m2 mLt (mCall 2 m_order_of (mCons (mVar 1) (mCons (mProp "S" m_Shape_low (mVar 0)) mNil))) (mC (.int 0))))) (mRaise "b" "value" (mCons (mVar 1) mNil)) mNext)
    (mIfS (mAndT (mT (m2 (mIs true) (mProp "S" m_Shape_high (mVar 0)) (mC .non))) (mT (m2 mGt (mCall 2 m_order_of (mCons (mVar 1) (mCons (mProp "S" m_Shape_high (mVar 0)) mNil))) (mC (.int 0))))) (mRaise "b" "value" (mCons (mVar 1) mNil)) mNext)))
def m_Shape_call : MFn := mDef ["self", "x"] ((mSeq (mExpr (mMeth "S" "require_inside" 1 m_Shape_require_inside (mVar 0) (mCons (mVar 1) mNil)))
    (mRet (mCall 2 m_time_at (mCons (mFld "S" "rows" (mVar 0)) (mCons (mVar 1) mNil))))))
def m_Shape_before : MFn := mDef ["self", "x"] ((mSeq (mExpr (mMeth "S" "require_inside" 1 m_Shape_require_inside (mVar 0) (mCons (mVar 1) mNil)))
    (mSeq (mIfS (mT (m2 (mEq false) (mVar 1) (mProp "S" m_Shape_low (mVar 0)))) (mRaise "b" "value" (mCons (mVar 1) mNil)) mNext)
    (mRet (mCall 2 m_value_or_none (mCons (mCall 2 m_line_before (mCons (mFld "S" "rows" (mVar 0)) (mCons (mVar 1) mNil))) (mCons (mVar 1) mNil)))))))
def m_Shape_after : MFn := mDef ["self", "x"] ((mSeq (mExpr (mMeth "S" "require_inside" 1 m_Shape_require_inside (mVar 0) (mCons (mVar 1) mNil)))
    (mSeq (mIfS (mT (m2 (mEq false) (mVar 1) (mProp "S" m_Shape_high (mVar 0)))) (mRaise "b" "value" (mCons (mVar 1) mNil)) mNext)
    (mRet (mCall 2 m_value_or_none (mCons (mCall 2 m_line_after (mCons (mFld "S" "rows" (mVar 0)) (mCons (mVar 1) mNil))) (mCons (mVar 1) mNil)))))))
def m__law_numbers : MFn := mDef ["_law_cell", "_law_salt", "_law_sizes", "_law_whole", "_law_left", "_law_result", "_law_k", "_law_one"] ((mSeq (mSet 3 (mB mMax (mCons (mVar 0) (mCons (m2 mSub (m1 mNeg (mC (.int 1))) (mVar 0)) mNil))))
    (mSeq (mSet 4 (mVar 3))
    (mSeq (mSet 5 (mLst mNil))
    (mSeq (mFor (mRng (mCons (mB mLen (mCons (mVar 2) mNil)) mNil)) (mGn 6) (mIfS (mAndT (mT (m2 mGe (mVar 3) (m2 mPow (mC (.int 10)) (mC (.int 18))))) (mT (m2 mGt (mVar 4) (mC (.int 0))))) (mSeq (mExpr (mApp (mVar 5) (m2 mMod (mVar 4) (m2 mIx (mVar 2) (mVar 6)))))
    (mSet 4 (m2 mDiv (mVar 4) (m2 mIx (mVar 2) (mVar 6))))) (mSeq (mSet 7 (m2 mMod (m2 mPow (m2 mAdd (m2 mAdd (m2 mMod (mVar 3) (mC (.int 2147483629))) (m2 mMul (mC (.int 7919)) (mVar 1))) (mC (.int 1))) (mC (.int 3))) (mC (.int 2147483647))))
    (mSeq (mSet 7 (m2 mMod (m2 mMul (m2 mAdd (mVar 7) (m2 mMul (mC (.int 104729)) (m2 mAdd (mVar 6) (mC (.int 1))))) (m2 mAdd (mVar 6) (mC (.int 3)))) (mC (.int 2147483629))))
    (mSeq (mSet 7 (m2 mMod (m2 mMul (m2 mMod (m2 mPow (mVar 7) (mC (.int 5))) (mC (.int 2147483647))) (mC (.int 48271))) (mC (.int 2147483629))))
    (mExpr (mApp (mVar 5) (m2 mMod (m2 mDiv (mVar 7) (mC (.int 16))) (m2 mIx (mVar 2) (mVar 6))))))))))
    (mRet (mVar 5)))))))
def m__law_fraction : MFn := mDef ["_law_number", "_law_divisor", "_law_one", "_law_other"] ((mSeq (mPar 2 3 (mCons (mB mMax (mCons (mVar 0) (mCons (m1 mNeg (mVar 0)) mNil))) (mCons (mVar 1) mNil)))
    (mSeq (mWhile fuel__law_fraction (mT (m2 mGt (mVar 2) (mC (.int 0)))) (mPar 2 3 (mCons (m2 mMod (mVar 3) (mVar 2)) (mCons (mVar 2) mNil))))
    (mRet (mTup (mCons (m2 mDiv (mVar 0) (mVar 3)) (mCons (m2 mDiv (mVar 1) (mVar 3)) mNil)))))))
def m__law_line : MFn := mDef ["_law_digits"] ((mRet (mTup (mCons (m2 mSub (m2 mMod (mB mInt (mCons (m2 mIx (mVar 0) (mC (.int 0))) mNil)) (mC (.int 7))) (mC (.int 3))) (mCons (m2 mIx (mLst (mCons (m2 mSub (m2 mMod (mB mInt (mCons (m2 mIx (mVar 0) (mC (.int 1))) mNil)) (mC (.int 9))) (mC (.int 4))) (mCons (m2 mSub (m2 mIx (mVar 0) (mC (.int 1))) (mC (.int 200))) mNil))) (m2 mMod (mB mInt (mCons (m2 mDiv (m2 mIx (mVar 0) (mC (.int 0))) (mC (.int 7))) mNil)) (mC (.int 2)))) mNil)))))
def m__law_value : MFn := mDef ["_law_line_here", "_law_x"] ((mSeq (mIfS (mT (m2 (mIs false) (mVar 0) (mC .non))) (mRet (mC .non)) mNext)
    (mRet (mCall 2 m__law_fraction (mCons (m2 mAdd (m2 mMul (m2 mIx (mVar 0) (mC (.int 0))) (m2 mIx (mVar 1) (mC (.int 0)))) (m2 mMul (m2 mIx (mVar 0) (mC (.int 1))) (m2 mIx (mVar 1) (mC (.int 1))))) (mCons (m2 mIx (mVar 1) (mC (.int 1))) mNil))))))
def m__law_between : MFn := mDef ["_law_one", "_law_other", "_law_at", "_law_early", "_law_late"] ((mSeq (mPar 3 4 (mCons (m2 mMul (m2 mIx (mVar 0) (mC (.int 0))) (m2 mIx (mVar 1) (mC (.int 1)))) (mCons (m2 mMul (m2 mIx (mVar 1) (mC (.int 0))) (m2 mIx (mVar 0) (mC (.int 1)))) mNil)))
    (mRet (mCall 2 m__law_fraction (mCons (m2 mAdd (m2 mMul (m2 mSub (mC (.int 5)) (mVar 2)) (mVar 3)) (m2 mMul (mVar 2) (mVar 4))) (mCons (m2 mMul (m2 mMul (mC (.int 5)) (m2 mIx (mVar 0) (mC (.int 1)))) (m2 mIx (mVar 1) (mC (.int 1)))) mNil))))))
def m__law_points : MFn := mDef ["_law_digits", "_law_points_here", "_law_x", "_law_digit", "_law_step"] ((mSeq (mPar 1 2 (mCons (mLst mNil) (mCons (mTup (mCons (m2 mMod (mB mInt (mCons (m2 mIx (mVar 0) (mC (.int 0))) mNil)) (mC (.int 3))) (mCons (mC (.int 1)) mNil))) mNil)))
    (mSeq (mFor (mSrc (mSl (mVar 0) (mPart (some (mC (.int 1)))) (mPart none))) (mGn 3) (mSeq (mExpr (mApp (mVar 1) (mVar 2)))
    (mSeq (mSet 4 (m2 mAdd (mC (.int 1)) (m2 mMod (mB mInt (mCons (mVar 3) mNil)) (mC (.int 5)))))
    (mSet 2 (mCall 2 m__law_fraction (mCons (m2 mAdd (m2 mMul (m2 mIx (mVar 2) (mC (.int 0))) (mVar 4)) (m2 mMul (m2 mIx (mVar 2) (mC (.int 1))) (m2 mAdd (mC (.int 1)) (m2 mMod (mB mInt (mCons (m2 mDiv (mVar 3) (mC (.int 5))) mNil)) (mC (.int 3)))))) (mCons (m2 mMul (m2 mIx (mVar 2) (mC (.int 1))) (mVar 4)) mNil)))))))
    (mRet (mVar 1)))))
def m__law_pieces : MFn := mDef ["_law_digits", "_law_points_here", "_law_pieces_here", "_law_ends", "_law_at", "_law_x", "_law_some", "_law_line_here", "_law_far", "_law_time_here"] ((mSeq (mSet 1 (mCall 1 m__law_points (mCons (mSl (mVar 0) (mPart none) (mPart (some (m2 mAdd (mC (.int 2)) (m2 mMod (mB mInt (mCons (m2 mDiv (m2 mIx (mVar 0) (mC (.int 0))) (mC (.int 3))) mNil)) (mC (.int 5))))))) mNil)))
    (mSeq (mPar 2 3 (mCons (mLst mNil) (mCons (m2 mMod (mB mInt (mCons (m2 mDiv (m2 mIx (mVar 0) (mC (.int 1))) (mC (.int 3))) mNil)) (mC (.int 2))) mNil)))
    (mSeq (mFor (mEnum (mCons (mVar 1) mNil)) (mGs 2 (mGcons (mGn 4) (mGcons (mGn 5) mGnil))) (mSeq (mSet 6 (mSl (mVar 0) (mPart (some (m2 mAdd (mC (.int 6)) (m2 mMul (mC (.int 5)) (mVar 4))))) (mPart (some (m2 mAdd (mC (.int 11)) (m2 mMul (mC (.int 5)) (mVar 4)))))))
    (mSeq (mSet 7 (mIf (mT (m2 mGt (m2 mMod (mB mInt (mCons (m2 mIx (mVar 6) (mC (.int 2))) mNil)) (mC (.int 6))) (mC (.int 0)))) (mCall 1 m__law_line (mCons (mVar 6) mNil)) (mC .non)))
    (mSeq (mSet 8 (mTup (mCons (m2 mMod (mB mInt (mCons (m2 mIx (mVar 6) (mC (.int 4))) mNil)) (mC (.int 9))) (mCons (m2 mAdd (mC (.int 1)) (m2 mMod (mB mInt (mCons (m2 mDiv (m2 mIx (mVar 6) (mC (.int 4))) (mC (.int 9))) mNil)) (mC (.int 3)))) mNil))))
    (mSeq (mSet 9 (m2 mIx (mLst (mCons (mCall 2 m__law_value (mCons (mVar 7) (mCons (mVar 5) mNil))) (mCons (mC .non) (mCons (mVar 8) mNil)))) (m2 mIx (mLst (mCons (mC (.int 0)) (mCons (mC (.int 0)) (mCons (mC (.int 0)) (mCons (mC (.int 1)) (mCons (mC (.int 2)) (mCons (mC (.int 2)) mNil))))))) (m2 mMod (mB mInt (mCons (m2 mIx (mVar 6) (mC (.int 3))) mNil)) (mC (.int 6))))))
    (mSeq (mSet 9 (mIf (mT (m2 (mIs false) (mVar 9) (mC .non))) (mC .non) (mCall 2 m__law_fraction (mCons (m2 mIx (mVar 9) (mC (.int 0))) (mCons (m2 mIx (mVar 9) (mC (.int 1))) mNil)))))
    (mSeq (mIfS (mAndT (mT (m2 (mEq false) (m2 mMod (mB mInt (mCons (m2 mDiv (m2 mIx (mVar 6) (mC (.int 3))) (mC (.int 6))) mNil)) (mC (.int 2))) (mC (.int 0)))) (mT (m2 (mEq true) (mVar 2) (mLst mNil)))) (mSeq (mSet 9 (mCall 2 m__law_value (mCons (m2 mIx (m2 mIx (mVar 2) (m1 mNeg (mC (.int 1)))) (mC (.int 3))) (mCons (mVar 5) mNil))))
    (mSet 7 (mIf (mT (m2 (mEq false) (m2 mMod (mB mInt (mCons (m2 mDiv (m2 mIx (mVar 6) (mC (.int 3))) (mC (.int 12))) mNil)) (mC (.int 2))) (mC (.int 0)))) (m2 mIx (m2 mIx (mVar 2) (m1 mNeg (mC (.int 1)))) (mC (.int 3))) (mVar 7)))) mNext)
    (mSeq (mExpr (mApp (mVar 2) (mTup (mCons (mC (.str ("at" : Str))) (mCons (mVar 5) (mCons (mVar 9) mNil))))))
    (mIfS (mOrT (mT (m2 mLt (m2 mAdd (mVar 4) (mC (.int 1))) (mB mLen (mCons (mVar 1) mNil)))) (mT (m2 (mEq false) (mVar 3) (mC (.int 1))))) (mExpr (mApp (mVar 2) (mTup (mCons (mC (.str ("between" : Str))) (mCons (mVar 5) (mCons (mIf (mT (m2 mLt (m2 mAdd (mVar 4) (mC (.int 1))) (mB mLen (mCons (mVar 1) mNil)))) (m2 mIx (mVar 1) (m2 mAdd (mVar 4) (mC (.int 1)))) (mC .non)) (mCons (mVar 7) mNil))))))) mNext)))))))))
    (mRet (mVar 2))))))
def m__law_less : MFn := mDef ["_law_one", "_law_other"] ((mRet (m2 mLt (m2 mMul (m2 mIx (mVar 0) (mC (.int 0))) (m2 mIx (mVar 1) (mC (.int 1)))) (m2 mMul (m2 mIx (mVar 1) (mC (.int 0))) (m2 mIx (mVar 0) (mC (.int 1)))))))
def m__law_inside : MFn := mDef ["_law_piece", "_law_x"] ((mRet (mAndV (mCall 2 m__law_less (mCons (m2 mIx (mVar 0) (mC (.int 1))) (mCons (mVar 1) mNil))) (mOrV (m2 (mIs false) (m2 mIx (mVar 0) (mC (.int 2))) (mC .non)) (mCall 2 m__law_less (mCons (mVar 1) (mCons (m2 mIx (mVar 0) (mC (.int 2))) mNil)))))))
def m__law_time : MFn := mDef ["_law_pieces_here", "_law_x", "_law_piece"] ((mSeq (mFor (mSrc (mVar 0)) (mGn 2) (mSeq (mIfS (mAndT (mT (m2 (mEq false) (m2 mIx (mVar 2) (mC (.int 0))) (mC (.str ("at" : Str))))) (mT (m2 (mEq false) (m2 mIx (mVar 2) (mC (.int 1))) (mVar 1)))) (mRet (m2 mIx (mVar 2) (mC (.int 2)))) mNext)
    (mIfS (mAndT (mT (m2 (mEq false) (m2 mIx (mVar 2) (mC (.int 0))) (mC (.str ("between" : Str))))) (mT (mCall 2 m__law_inside (mCons (mVar 2) (mCons (mVar 1) mNil))))) (mRet (mCall 2 m__law_value (mCons (m2 mIx (mVar 2) (mC (.int 3))) (mCons (mVar 1) mNil)))) mNext)))
    (mRet (mC .non))))
def m__law_xs : MFn := mDef ["_law_pieces_here", "_law_xs_here", "_law_piece", "_law_at"] ((mSeq (mSet 1 (mLst mNil))
    (mSeq (mFor (mSrc (mVar 0)) (mGn 2) (mIfS (mT (m2 (mEq false) (m2 mIx (mVar 2) (mC (.int 0))) (mC (.str ("at" : Str))))) (mExpr (mApp (mVar 1) (m2 mIx (mVar 2) (mC (.int 1))))) (mIfS (mT (m2 (mIs false) (m2 mIx (mVar 2) (mC (.int 2))) (mC .non))) (mSet 1 (m2 mAdd (mVar 1) (mLc (mSrc (mLst (mCons (mC (.int 1)) (mCons (mC (.int 3)) (mCons (m2 mPow (mC (.int 10)) (mC (.int 20))) mNil))))) 3 mYes (mTup (mCons (m2 mAdd (m2 mIx (m2 mIx (mVar 2) (mC (.int 1))) (mC (.int 0))) (m2 mMul (mVar 3) (m2 mIx (m2 mIx (mVar 2) (mC (.int 1))) (mC (.int 1))))) (mCons (m2 mIx (m2 mIx (mVar 2) (mC (.int 1))) (mC (.int 1))) mNil)))))) (mSet 1 (m2 mAdd (mVar 1) (mLc (mSrc (mLst (mCons (mC (.int 1)) (mCons (mC (.int 4)) mNil)))) 3 mYes (mCall 3 m__law_between (mCons (m2 mIx (mVar 2) (mC (.int 1))) (mCons (m2 mIx (mVar 2) (mC (.int 2))) (mCons (mVar 3) mNil))))))))))
    (mRet (mVar 1)))))
end SHP
end
section
namespace SHP
open PySem L2 VL
/-! ### fractions, lines -/
abbrev QQ := Int × Int
abbrev q2 (x : QQ) : W := .tup [.int x.1, .int x.2]
def qo : Option QQ → W
  | none => .non
  | some x => q2 x
@[simp] theorem qo_none : qo none = .non := rfl
@[simp] theorem qo_some (x : QQ) : qo (some x) = q2 x := rfl
@[simp] theorem qo_isnon (o : Option QQ) : decide (qo o = .non) = o.isNone := by
  cases o <;> simp
theorem whole_int {i : Int} {h : Hv} : m_is_whole [.int i] h = .val (.bl true) h := by
  simp [m_is_whole, mDef_eq, startW]
theorem pair_eq {x : QQ} {h : Hv} : m_is_whole_pair [q2 x] h = .val (.bl true) h := by
  simp [m_is_whole_pair, mDef_eq, startW, whole_int]
theorem cd_loop : ∀ (n : Nat) (a b : Int) (h : Hv), b.natAbs < n →
    ∃ x : Int, x.natAbs = Int.gcd a b ∧ whileM (mT (m2 (mEq true) (mVar 1) (mC (.int 0)))) (mPar 0 1 (mCons (mVar 1) (mCons (m2 mMod (mVar 0) (mVar 1)) mNil))) n [some (.int a), some (.int b)] h = .nx [some (.int x), some (.int 0)] h
  | 0, a, b, h, hn => by omega
  | n + 1, a, b, h, hn => by
    unfold whileM
    by_cases hb : b = 0
    · subst hb
      exact ⟨a, by simp, by simp⟩
    · obtain ⟨x, h1, h2⟩ := cd_loop n b (a.fmod b) h (by have := fmod_small a b hb; omega)
      refine ⟨x, by rw [h1, fmod_gcd], ?_⟩
      simp [hb, mPar, mMod_int hb]
      exact h2
theorem cd_eq (a b : Int) (h : Hv) : m_common_divisor [.int a, .int b] h = .val (.int (Int.gcd a b : Int)) h := by
  obtain ⟨x, h1, h2⟩ := cd_loop (b.natAbs + 1) a b h (Nat.lt_succ_self _)
  simp only [m_common_divisor, mDef_eq, startW, mSeq_eq, mWhile, fuel_common_divisor, List.map, List.length, List.replicate, List.append_nil, List.getElem?_cons_succ, List.getElem?_cons_zero, Nat.sub_self]
  rw [h2]
  simp [h1]
theorem isf_eq {h : Hv} {x : QQ} : m_is_fraction [q2 x] h = .val (.bl (decide (1 ≤ x.2) && decide (Int.gcd x.1 x.2 = 1))) h := by
  have e1 := pair_eq (x := x) (h := h)
  by_cases hb : 1 ≤ x.2
  · simp [m_is_fraction, mDef_eq, startW, e1, hb, cd_eq]
    omega
  · simp [m_is_fraction, mDef_eq, startW, e1, hb]
/-- a fraction, reduced and not too long -/
structure Fq (x : QQ) : Prop where
  ps : 0 < x.2
  on : Int.gcd x.1 x.2 = 1
  s1 : Sm x.1
  s2 : Sm x.2
def FqO : Option QQ → Prop
  | none => True
  | some x => Fq x
def LnO : Option QQ → Prop
  | none => True
  | some l => Sm l.1 ∧ Sm l.2
theorem isf_of {h : Hv} {x : QQ} (f : Fq x) : m_is_fraction [q2 x] h = .val (.bl true) h := by
  have f1 : 1 ≤ x.2 := f.ps
  rw [isf_eq]
  simp [f1, f.on]
theorem req_eq {h : Hv} {x : QQ} (f : Fq x) : m_require_fraction [q2 x] h = .val .non h := by
  simp [m_require_fraction, mDef_eq, startW, isf_of f]
theorem isl_eq {h : Hv} {x : QQ} : m_is_line [q2 x] h = .val (.bl true) h := by
  simp [m_is_line, mDef_eq, startW, pair_eq]
theorem reql_eq {h : Hv} {x : QQ} : m_require_line [q2 x] h = .val .non h := by
  simp [m_require_line, mDef_eq, startW, isl_eq]
theorem fraction_eq {h : Hv} {n d : Int} (hd : d ≠ 0) (hs : Sm d) : m_fraction [.int n, .int d] h = .val (q2 (fr n d)) h := by
  have g1 := gcd_sm (n := n) hd hs
  have g0 := gcd_pos (n := n) hd
  have l1 : (Int.gcd n d).log2 < 9000 := Nat.lt_trans (log_le g1 (by decide)) (by decide)
  by_cases hn : d < 0
  · have e : frG n d = -(Int.gcd n d : Int) := by simp [frG, hn]
    have ne : -(Int.gcd n d : Int) ≠ 0 := by omega
    have l2 : (-(Int.gcd n d : Int)).natAbs.log2 < 9000 := by simpa using l1
    simp [m_fraction, mDef_eq, startW, whole_int, hd, hn, cd_eq, mDiv_int ne l2, fr, e]
  · have e : frG n d = (Int.gcd n d : Int) := by simp [frG, hn]
    have ne : (Int.gcd n d : Int) ≠ 0 := by omega
    have l2 : ((Int.gcd n d : Int)).natAbs.log2 < 9000 := by simpa using l1
    simp [m_fraction, mDef_eq, startW, whole_int, hd, hn, cd_eq, mDiv_int ne l2, fr, e]
/-- the value of a line -/
def lv (l x : QQ) : QQ := fr (l.1 * x.1 + l.2 * x.2) x.2
def vl (l : Option QQ) (x : QQ) : Option QQ := l.map fun l => lv l x
theorem value_eq {h : Hv} {l x : QQ} (f : Fq x) (s1 : Sm l.1) (s2 : Sm l.2) : m_value_at [q2 l, q2 x] h = .val (q2 (lv l x)) h := by
  have hd : x.2 ≠ 0 := by have := f.ps; omega
  simp [m_value_at, mDef_eq, startW, reql_eq, req_eq f, mul_sm s1 f.s1, mul_sm s2 f.s2, fraction_eq (n := l.1 * x.1 + l.2 * x.2) hd f.s2, lv]
theorem von_eq {h : Hv} {l : Option QQ} {x : QQ} (f : Fq x) (ll : LnO l) : m_value_or_none [qo l, q2 x] h = .val (qo (vl l x)) h := by
  cases l with
  | none => simp [m_value_or_none, mDef_eq, startW, vl]
  | some l =>
    have v := value_eq (h := h) f ll.1 ll.2
    simp [m_value_or_none, mDef_eq, startW, vl, v]
theorem sign_eq {i : Int} {h : Hv} : m_sign_of [.int i] h = .val (.int (sg i)) h := by
  unfold sg
  by_cases h1 : i < 0
  · simp [m_sign_of, mDef_eq, startW, h1]
  · by_cases h2 : 0 < i
    · simp [m_sign_of, mDef_eq, startW, h1, h2]
    · simp [m_sign_of, mDef_eq, startW, h1, h2]
theorem order_eq {h : Hv} {x y : QQ} (fx : Fq x) (fy : Fq y) : m_order_of [q2 x, q2 y] h = .val (.int (sg (x.1 * y.2 - y.1 * x.2))) h := by
  simp [m_order_of, mDef_eq, startW, mul_sm fx.s1 fy.s2, mul_sm fy.s1 fx.s2, sign_eq]
theorem slow_ok {h : Hv} {x : QQ} (f : Fq x) : m_is_slowness [q2 x] h = .val (.bl (decide (0 ≤ x.1))) h := by
  simp [m_is_slowness, mDef_eq, startW, isf_of f]
/-! ### order -/
def Lt (x y : QQ) : Prop := x.1 * y.2 - y.1 * x.2 < 0
theorem sg_lt {x y : QQ} (h : Lt x y) : sg (x.1 * y.2 - y.1 * x.2) = -1 := by
  unfold Lt at h
  simp [sg, h]
theorem Lt.trans {x y z : QQ} (hx : 0 < x.2) (hy : 0 < y.2) (hz : 0 < z.2) (a : Lt x y) (b : Lt y z) : Lt x z := by
  unfold Lt at *
  have h1 : (x.1 * y.2 - y.1 * x.2) * z.2 < 0 := Int.mul_neg_of_neg_of_pos a hz
  have h2 : (y.1 * z.2 - z.1 * y.2) * x.2 < 0 := Int.mul_neg_of_neg_of_pos b hx
  have e : (x.1 * z.2 - z.1 * x.2) * y.2 = (x.1 * y.2 - y.1 * x.2) * z.2 + (y.1 * z.2 - z.1 * y.2) * x.2 := by
    simp only [Int.sub_mul]
    have a1 : x.1 * z.2 * y.2 = x.1 * y.2 * z.2 := by ac_rfl
    have a2 : y.1 * x.2 * z.2 = y.1 * z.2 * x.2 := by ac_rfl
    have a3 : z.1 * x.2 * y.2 = z.1 * y.2 * x.2 := by ac_rfl
    omega
  have h3 : (x.1 * z.2 - z.1 * x.2) * y.2 < 0 := by omega
  refine Int.not_le.mp fun q => ?_
  have := Int.mul_nonneg q (Int.le_of_lt hy)
  omega
theorem Lt.irrefl (x : QQ) : ¬ Lt x x := by
  unfold Lt
  omega
theorem Lt.tri {x y : QQ} (fx : Fq x) (fy : Fq y) : Lt x y ∨ x = y ∨ Lt y x := by
  unfold Lt
  rcases Int.lt_trichotomy (x.1 * y.2 - y.1 * x.2) 0 with h | h | h
  · exact .inl h
  · obtain ⟨a, b⟩ := red_unique fx.ps fy.ps fx.on fy.on (show x.1 * y.2 = y.1 * x.2 by omega)
    exact .inr (.inl (Prod.ext a b))
  · exact .inr (.inr (by omega))
theorem sg_tri {x y : QQ} (fx : Fq x) (fy : Fq y) : (Lt x y ∧ sg (x.1 * y.2 - y.1 * x.2) = -1) ∨ (x = y ∧ sg (x.1 * y.2 - y.1 * x.2) = 0) ∨ (Lt y x ∧ sg (x.1 * y.2 - y.1 * x.2) = 1) := by
  rcases Lt.tri fx fy with h | h | h
  · exact .inl ⟨h, sg_lt h⟩
  · subst h
    exact .inr (.inl ⟨rfl, by simp [sg]⟩)
  · refine .inr (.inr ⟨h, ?_⟩)
    unfold Lt at h
    have h2 : 0 < x.1 * y.2 - y.1 * x.2 := by omega
    unfold sg
    rw [if_neg (by omega), if_pos h2]
/-! ### pieces -/
inductive Pc where
  | at (x : QQ) (t : Option QQ)
  | bt (x : QQ) (y l : Option QQ)
  deriving DecidableEq
def pW : Pc → W
  | .at x t => .tup [.str ("at" : Str), q2 x, qo t]
  | .bt x y l => .tup [.str ("between" : Str), q2 x, qo y, qo l]
theorem eq_at {g : Hv} : mEq false (.str ("at" : Str)) (.str ("at" : Str)) g = .val (.bl true) g := by kernel_rfl
theorem eq_bb {g : Hv} : mEq false (.str ("between" : Str)) (.str ("between" : Str)) g = .val (.bl true) g := by kernel_rfl
theorem eq_ab {g : Hv} : mEq false (.str ("at" : Str)) (.str ("between" : Str)) g = .val (.bl false) g := by kernel_rfl
theorem eq_ba {g : Hv} : mEq false (.str ("between" : Str)) (.str ("at" : Str)) g = .val (.bl false) g := by kernel_rfl
theorem str_at {g : Hv} : mIsi [.str ("at" : Str), .ty "str"] g = .val (.bl true) g := by kernel_rfl
theorem str_bt {g : Hv} : mIsi [.str ("between" : Str), .ty "str"] g = .val (.bl true) g := by kernel_rfl
theorem tof_at {h : Hv} {a b : W} : m_is_tuple_of [.tup [.str ("at" : Str), a, b], .str ("at" : Str), .int 3] h = .val (.bl true) h := by
  simp [m_is_tuple_of, mDef_eq, startW, ne_int, eq_at, str_at]
theorem tof_bt {h : Hv} {a b c : W} : m_is_tuple_of [.tup [.str ("between" : Str), a, b, c], .str ("between" : Str), .int 4] h = .val (.bl true) h := by
  simp [m_is_tuple_of, mDef_eq, startW, ne_int, eq_bb, str_bt]
theorem isfo {h : Hv} {t : Option QQ} (f : FqO t) (e : t.isNone = false) : m_is_fraction [qo t] h = .val (.bl true) h := by
  cases t with
  | none => cases e
  | some t => exact isf_of f
theorem point_ok {h : Hv} {x : QQ} {t : Option QQ} (fx : Fq x) (ft : FqO t) : m_is_point [pW (.at x t)] h = .val (.bl true) h := by
  have q1 := isf_of (h := h) fx
  have q0 := tof_at (h := h) (a := q2 x) (b := qo t)
  cases t with
  | none => simp [m_is_point, mDef_eq, startW, pW, q0, q1] at q0 ⊢
  | some t =>
    have q2' := isf_of (h := h) (x := t) ft
    simp [m_is_point, mDef_eq, startW, pW] at q0 ⊢
    simp [q0, q1, q2']
abbrev dP (x : QQ) : PyData := .tuple [.int x.1, .int x.2]
def dO : Option QQ → PyData
  | none => .none
  | some x => dP x
theorem toD_q {h : Hv} {n : Nat} {x : QQ} : toD (n + 2) h (q2 x) = some (dP x) := by
  simp [toD, optAll]
theorem toD_o {h : Hv} {n : Nat} {o : Option QQ} : toD (n + 2) h (qo o) = some (dO o) := by
  cases o with
  | none => rfl
  | some x => exact toD_q
theorem sh_o (o : Option QQ) : SeqAt.shaped (dO o) = true := by
  cases o with
  | none => simp [dO, SeqAt.shaped, PyData.canLay0, PyData.depth]
  | some x => simp [dO, SeqAt.shaped, PyData.canLay0, PyData.canLayAll0, PyData.depth, PyData.depthAll]
theorem eqv_pr (x y : QQ) : PyData.eqv (dP x) (dP y) = decide (x = y) := by
  rw [Bool.eq_iff_iff]
  obtain ⟨a, b⟩ := x
  obtain ⟨c, d⟩ := y
  simp [PyData.eqv, PyData.eqvAll]
theorem eqv_o (o u : Option QQ) : PyData.eqv (dO o) (dO u) = decide (o = u) := by
  cases o with
  | none => cases u with
    | none => simp [dO, PyData.eqv]
    | some y => simp [dO, PyData.eqv]
  | some x => cases u with
    | none => simp [dO, PyData.eqv]
    | some y =>
      have z := eqv_pr x y
      simp [dO, z]
theorem cmp_o {h : Hv} {o u : Option QQ} {neg : Bool} : mEq neg (qo o) (qo u) h = .val (.bl (if neg then !decide (o = u) else decide (o = u))) h := by
  have t1 : toD dF h (qo o) = some (dO o) := toD_o (n := 10)
  have t2 : toD dF h (qo u) = some (dO u) := toD_o (n := 10)
  simp only [mEq, t1, t2, sh_o, Bool.and_self, if_true, eqv_o]
theorem cmp_q {h : Hv} {x y : QQ} {neg : Bool} : mEq neg (q2 x) (q2 y) h = .val (.bl (if neg then !decide (x = y) else decide (x = y))) h := by
  have z := cmp_o (h := h) (o := some x) (u := some y) (neg := neg)
  simpa using z
end SHP
end
section
namespace SHP
open PySem L2 VL
/-- what a list of pieces must be, by its places -/
structure Wf (P : List Pc) : Prop where
  ne : 0 < P.length
  first : ∃ x t, P[0]? = some (.at x t) ∧ 0 ≤ x.1
  ev : ∀ i, i % 2 = 0 → i < P.length → ∃ x t, P[i]? = some (.at x t) ∧ Fq x ∧ FqO t
  od : ∀ i, i % 2 = 1 → i < P.length → ∃ x t y l, P[i - 1]? = some (.at x t) ∧ P[i]? = some (.bt x y l) ∧ FqO y ∧ LnO l ∧ (∀ y', y = some y' → Lt x y') ∧ (i + 1 < P.length → ∃ y' t', y = some y' ∧ P[i + 1]? = some (.at y' t')) ∧ (i + 1 = P.length → y = none)

/-- a point between two pieces is needless -/
def ndl (l t r : Option QQ) (x : QQ) : Bool := decide (l = r) && decide (t = vl r x)

def stepR (R : List Pc) (c : Pc) : List Pc := match c, R[R.length - 2]?, R[R.length - 1]? with
  | .bt x y r, some (.bt xl yl l), some (.at xp t) => if 1 < R.length ∧ ndl l t r xp = true then R.take (R.length - 2) ++ [.bt xl y r] else R ++ [.bt x y r]
  | c, _, _ => R ++ [c]
structure Alt (R : List Pc) : Prop where
  ev : ∀ i, i % 2 = 0 → i < R.length → ∃ x t, R[i]? = some (.at x t) ∧ Fq x ∧ FqO t
  od : ∀ i, i % 2 = 1 → i < R.length → ∃ x y l, R[i]? = some (.bt x y l) ∧ LnO l
theorem Alt.app {R : List Pc} (a : Alt R) {c : Pc} (hc : (R.length % 2 = 0 ∧ ∃ x t, c = .at x t ∧ Fq x ∧ FqO t) ∨ (R.length % 2 = 1 ∧ ∃ x y l, c = .bt x y l ∧ LnO l)) : Alt (R ++ [c]) := by
  refine ⟨fun i hi hl => ?_, fun i hi hl => ?_⟩
  · by_cases hlt : i < R.length
    · rw [List.getElem?_append_left hlt]
      exact a.ev i hi hlt
    · have ei : i = R.length := by simp at hl; omega
      subst ei
      rcases hc with ⟨_, x, t, rfl, f1, f2⟩ | ⟨h1, _⟩
      · exact ⟨x, t, by simp, f1, f2⟩
      · omega
  · by_cases hlt : i < R.length
    · rw [List.getElem?_append_left hlt]
      exact a.od i hi hlt
    · have ei : i = R.length := by simp at hl; omega
      subst ei
      rcases hc with ⟨h1, _⟩ | ⟨_, x, y, l, rfl, f1⟩
      · omega
      · exact ⟨x, y, l, by simp, f1⟩
theorem Alt.take {R : List Pc} (a : Alt R) (n : Nat) : Alt (R.take n) := by
  refine ⟨fun i hi hl => ?_, fun i hi hl => ?_⟩
  · have h1 : i < n := by simp at hl; omega
    rw [List.getElem?_take_of_lt h1]
    exact a.ev i hi (by simp at hl; omega)
  · have h1 : i < n := by simp at hl; omega
    rw [List.getElem?_take_of_lt h1]
    exact a.od i hi (by simp at hl; omega)

/-- a piece in its turn -/
def Fits (n : Nat) (c : Pc) : Prop := (n % 2 = 0 ∧ ∃ x t, c = .at x t ∧ Fq x ∧ FqO t) ∨ (n % 2 = 1 ∧ ∃ x y l, c = .bt x y l ∧ LnO l)
theorem Alt.fits {P : List Pc} (a : Alt P) {i : Nat} {c : Pc} (e : P[i]? = some c) : Fits i c := by
  have hi := (List.getElem?_eq_some_iff.mp e).1
  rcases Nat.mod_two_eq_zero_or_one i with h | h
  · obtain ⟨x, t, e1, f1, f2⟩ := a.ev i h hi
    rw [e] at e1
    cases e1
    exact .inl ⟨h, x, t, rfl, f1, f2⟩
  · obtain ⟨x, y, l, e1, f1⟩ := a.od i h hi
    rw [e] at e1
    cases e1
    exact .inr ⟨h, x, y, l, rfl, f1⟩
theorem stepR_ok {R : List Pc} {c : Pc} (a : Alt R) (f : Fits R.length c) : Alt (stepR R c) ∧ (stepR R c).length % 2 = (R.length + 1) % 2 ∧ (stepR R c).length ≤ R.length + 1 := by
  have app : Alt (R ++ [c]) ∧ (R ++ [c]).length % 2 = (R.length + 1) % 2 ∧ (R ++ [c]).length ≤ R.length + 1 := ⟨a.app f, by simp, by simp⟩
  rcases f with ⟨_, x, t, rfl, _⟩ | ⟨ho, x, y, r, rfl, lr⟩
  · exact app
  · unfold stepR
    split
    · rename_i x y r xl yl l xp t q1 q2 q3
      cases q1
      split
      · rename_i hh
        have e : (R.take (R.length - 2)).length = R.length - 2 := by simp
        refine ⟨(a.take _).app (.inr ⟨by rw [e]; omega, xl, y, r, rfl, lr⟩), ?_, ?_⟩
        · simp only [List.length_append, e, List.length_cons, List.length_nil]; omega
        · simp only [List.length_append, e, List.length_cons, List.length_nil]; omega
      · exact app
    · exact app
def shR (P : List Pc) : List Pc := P.foldl stepR []
theorem take_next {α : Type} {P : List α} {i : Nat} {c : α} (e : P[i]? = some c) : P.take (i + 1) = P.take i ++ [c] := by
  rw [List.take_succ, e]
  rfl
theorem shR_next {P : List Pc} {i : Nat} {c : Pc} (e : P[i]? = some c) : shR (P.take (i + 1)) = stepR (shR (P.take i)) c := by
  unfold shR
  rw [take_next e, List.foldl_append]
  rfl

theorem Wf.alt {P : List Pc} (w : Wf P) : Alt P := ⟨w.ev, fun i h1 h2 => by
  obtain ⟨x, t, y, l, _, e, _, ll, _⟩ := w.od i h1 h2
  exact ⟨x, y, l, e, ll⟩⟩
theorem stepR_pos (R : List Pc) (c : Pc) : 0 < (stepR R c).length := by
  unfold stepR
  split
  · split <;> simp
  · simp

/-- the odd places are as they must be -/
structure Wq (R : List Pc) : Prop where
  ev : ∀ i, i % 2 = 0 → i < R.length → ∃ x t, R[i]? = some (.at x t) ∧ Fq x ∧ FqO t
  od : ∀ i, i % 2 = 1 → i < R.length → ∃ x t y l, R[i - 1]? = some (.at x t) ∧ R[i]? = some (.bt x y l) ∧ FqO y ∧ LnO l ∧ (∀ y', y = some y' → Lt x y') ∧ (i + 1 < R.length → ∃ y' t', y = some y' ∧ R[i + 1]? = some (.at y' t'))
  rd : ∀ i a b c d e f g h, R[i]? = some (.bt a b c) → R[i + 1]? = some (.at d e) → R[i + 2]? = some (.bt f g h) → ndl c e h d = false
/-- what may follow R -/
def Nx (R : List Pc) (c : Pc) : Prop := match c with
  | .at x t => R.length % 2 = 0 ∧ Fq x ∧ FqO t ∧ (0 < R.length → ∃ a l, R[R.length - 1]? = some (.bt a (some x) l))
  | .bt x y l => R.length % 2 = 1 ∧ FqO y ∧ LnO l ∧ (∀ y', y = some y' → Lt x y') ∧ ∃ t, R[R.length - 1]? = some (.at x t)
theorem Wq.app {R : List Pc} (w : Wq R) {c : Pc} (n : Nx R c) (hn : ∀ a b l x t x2 y2 r, R[R.length - 2]? = some (.bt a b l) → R[R.length - 1]? = some (.at x t) → 1 < R.length → c = .bt x2 y2 r → ndl l t r x = false) : Wq (R ++ [c]) := by
  refine ⟨fun i hi hl => ?_, fun i hi hl => ?_, fun i a b c1 d e f g h e1 e2 e3 => ?_⟩
  · by_cases lt : i < R.length
    · rw [get_app_lt lt]; exact w.ev i hi lt
    · have ei : i = R.length := by simp at hl; omega
      subst ei
      cases c with
      | «at» x t => exact ⟨x, t, get_app_eq, n.2.1, n.2.2.1⟩
      | bt x y l => have := n.1; omega
  · by_cases lt : i < R.length
    · obtain ⟨x, t, y, l, a1, a2, a3, a4, a5, a6⟩ := w.od i hi lt
      refine ⟨x, t, y, l, by rw [get_app_lt (by omega)]; exact a1, by rw [get_app_lt lt]; exact a2, a3, a4, a5, fun hl2 => ?_⟩
      by_cases lt2 : i + 1 < R.length
      · obtain ⟨y', t', b1, b2⟩ := a6 lt2
        exact ⟨y', t', b1, by rw [get_app_lt lt2]; exact b2⟩
      · have ei : i + 1 = R.length := by simp at hl2; omega
        cases c with
        | «at» x2 t2 =>
          obtain ⟨_, _, _, q⟩ := n
          obtain ⟨a, l', q⟩ := q (by omega)
          have e1 : R.length - 1 = i := by omega
          rw [e1, a2] at q
          cases q
          exact ⟨x2, t2, rfl, by rw [ei]; exact get_app_eq⟩
        | bt _ _ _ => have := n.1; omega
    · have ei : i = R.length := by simp at hl; omega
      subst ei
      cases c with
      | «at» x t => have := n.1; omega
      | bt x y l =>
        obtain ⟨_, n1, n2, n3, t, n4⟩ := n
        refine ⟨x, t, y, l, by rw [get_app_lt (by omega)]; exact n4, get_app_eq, n1, n2, n3, fun hl2 => ?_⟩
        simp at hl2
  · have l3 := lt_of_get e3
    by_cases lt : i + 2 < R.length
    · rw [get_app_lt (by omega)] at e1
      rw [get_app_lt (by omega)] at e2
      rw [get_app_lt lt] at e3
      exact w.rd i a b c1 d e f g h e1 e2 e3
    · have ei : i + 2 = R.length := by simp at l3; omega
      rw [get_app_lt (by omega)] at e1
      rw [get_app_lt (by omega)] at e2
      rw [ei, get_app_eq] at e3
      have i1 : R.length - 2 = i := by omega
      have i2 : R.length - 1 = i + 1 := by omega
      exact hn a b c1 d e f g h (by rw [i1]; exact e1) (by rw [i2]; exact e2) (by omega) (Option.some.inj e3)
theorem Wq.take {R : List Pc} (w : Wq R) (n : Nat) : Wq (R.take n) := by
  have g : ∀ i, i < (R.take n).length → (R.take n)[i]? = R[i]? ∧ i < R.length := fun i h => by
    simp at h
    exact ⟨List.getElem?_take_of_lt (by omega), by omega⟩
  have g2 : ∀ {i a}, (R.take n)[i]? = some a → R[i]? = some a := fun {i a} h => by
    have := g i (lt_of_get h)
    rw [← this.1]; exact h
  refine ⟨fun i hi hl => ?_, fun i hi hl => ?_, fun i a b c d e f g9 h e1 e2 e3 => w.rd i a b c d e f g9 h (g2 e1) (g2 e2) (g2 e3)⟩
  · obtain ⟨a, b⟩ := g i hl
    rw [a]; exact w.ev i hi b
  · obtain ⟨a, b⟩ := g i hl
    obtain ⟨x, t, y, l, a1, a2, a3, a4, a5, a6⟩ := w.od i hi b
    refine ⟨x, t, y, l, by rw [(g (i - 1) (by omega)).1]; exact a1, by rw [a]; exact a2, a3, a4, a5, fun hl2 => ?_⟩
    obtain ⟨y', t', b1, b2⟩ := a6 (g (i + 1) hl2).2
    exact ⟨y', t', b1, by rw [(g (i + 1) hl2).1]; exact b2⟩
theorem ndl_eq {l t r : Option QQ} {x : QQ} (h : ndl l t r x = true) : l = r := by
  unfold ndl at h
  rw [Bool.and_eq_true] at h
  exact of_decide_eq_true h.1
theorem ndl_t {l t r : Option QQ} {x : QQ} (h : ndl l t r x = true) : t = vl r x := by
  unfold ndl at h
  rw [Bool.and_eq_true] at h
  exact of_decide_eq_true h.2
/-- one step: R is as it must be, and c follows; then so is stepR R c, and its last piece is c's like -/
def Like (a c : Pc) : Prop := match c with
  | .at x t => a = .at x t
  | .bt _ y r => ∃ x, a = .bt x y r
theorem stepR_wq {R : List Pc} {c : Pc} (w : Wq R) (n : Nx R c) : Wq (stepR R c) ∧ ∃ a, (stepR R c)[(stepR R c).length - 1]? = some a ∧ Like a c := by
  cases c with
  | «at» x t =>
    have e : stepR R (.at x t) = R ++ [.at x t] := rfl
    rw [e]
    refine ⟨w.app n (fun _ _ _ _ _ _ _ _ _ _ _ z => by cases z), .at x t, by simp, rfl⟩
  | bt x y r =>
    obtain ⟨n0, n1, n2, n3, t, n4⟩ := id n
    by_cases h1 : 1 < R.length
    · obtain ⟨xl, tl, yl, l, b1, b2, b3, b4, b5, b6⟩ := w.od (R.length - 2) (by omega) (by omega)
      have i1 : R.length - 2 + 1 = R.length - 1 := by omega
      rw [i1] at b6
      obtain ⟨y', t', rfl, b7⟩ := b6 (by omega)
      rw [n4] at b7
      cases b7
      cases hn : ndl l t r x with
      | false =>
        have e5 : stepR R (.bt x y r) = R ++ [.bt x y r] := by simp [stepR, b2, n4, hn]
        rw [e5]
        refine ⟨w.app n (fun a b l' x' t' x2 y2 r2 q1 q2 _ q3 => ?_), .bt x y r, by simp, x, rfl⟩
        rw [b2] at q1; cases q1
        rw [n4] at q2; cases q2
        cases q3
        exact hn
      | true =>
        have e5 : stepR R (.bt x y r) = R.take (R.length - 2) ++ [.bt xl y r] := by simp [stepR, b2, n4, hn, h1]
        have hlr := ndl_eq hn
        subst hlr
        have el : (R.take (R.length - 2)).length = R.length - 2 := by simp
        have fl := w.ev (R.length - 2 - 1) (by omega) (by omega)
        obtain ⟨xa, ta, fa1, fa2, _⟩ := fl
        rw [b1] at fa1
        cases fa1
        obtain ⟨xb, tb, fb1, fb2, _⟩ := w.ev (R.length - 1) (by omega) (by omega)
        rw [n4] at fb1
        cases fb1
        rw [e5]
        refine ⟨(w.take _).app ⟨by rw [el]; omega, n1, n2, fun y' hy => ?_, tl, ?_⟩ ?_, .bt xl y l, by simp, xl, rfl⟩
        · have fy : Fq y' := by rw [hy] at n1; exact n1
          exact (b5 _ rfl).trans fa2.ps fb2.ps fy.ps (n3 _ hy)
        · rw [el, List.getElem?_take_of_lt (by omega)]; exact b1
        · intro a b l' x' t' x2 y2 r2 q1 q2 q0 q3
          cases q3
          rw [el] at q1 q2 q0
          rw [List.getElem?_take_of_lt (by omega)] at q1 q2
          have i3 : R.length - 2 - 1 = R.length - 2 - 2 + 1 := by omega
          have i4 : R.length - 2 = R.length - 2 - 2 + 2 := by omega
          exact w.rd (R.length - 2 - 2) _ _ _ _ _ _ _ _ q1 (by rw [← i3]; exact q2) (by rw [← i4]; exact b2)
    · have e5 : stepR R (.bt x y r) = R ++ [.bt x y r] := by
        unfold stepR
        split
        · rename_i q1 _ _
          cases q1
          rw [if_neg (fun z => h1 z.1)]
        · rfl
      rw [e5]
      refine ⟨w.app n (fun _ _ _ _ _ _ _ _ _ _ z _ => absurd z h1), .bt x y r, by simp, x, rfl⟩
theorem Wq.alt {R : List Pc} (w : Wq R) : Alt R := ⟨w.ev, fun i h1 h2 => by
  obtain ⟨x, t, y, l, _, e, _, ll, _⟩ := w.od i h1 h2
  exact ⟨x, y, l, e, ll⟩⟩
theorem fits_of {R : List Pc} {c : Pc} (n : Nx R c) : Fits R.length c := by
  cases c with
  | «at» x t => exact .inl ⟨n.1, x, t, rfl, n.2.1, n.2.2.1⟩
  | bt x y l => exact .inr ⟨n.1, x, y, l, rfl, n.2.2.1⟩
theorem shR_wq {P : List Pc} (wf : Wf P) : ∀ i, i ≤ P.length → Wq (shR (P.take i)) ∧ (shR (P.take i)).length % 2 = i % 2 ∧ (shR (P.take i)).length ≤ i ∧ (0 < i → 0 < (shR (P.take i)).length) ∧ (∀ c, 0 < i → P[i - 1]? = some c → ∃ a, (shR (P.take i))[(shR (P.take i)).length - 1]? = some a ∧ Like a c)
  | 0, _ => by
    have e : shR (P.take 0) = [] := rfl
    rw [e]
    exact ⟨⟨fun i _ z => absurd z (Nat.not_lt_zero i), fun i _ z => absurd z (Nat.not_lt_zero i), fun i a b c d e f g h z => by simp at z⟩, rfl, Nat.le_refl _, fun z => absurd z (Nat.lt_irrefl 0), fun _ z => absurd z (Nat.lt_irrefl 0)⟩
  | i + 1, hi => by
    obtain ⟨a1, a2, a3, a4, a5⟩ := shR_wq wf i (by omega)
    have ec : P[i]? = some (P[i]'(by omega)) := List.getElem?_eq_getElem (by omega)
    generalize P[i]'(by omega) = c at ec
    have nx := shR_next ec
    have n : Nx (shR (P.take i)) c := by
      rcases Nat.mod_two_eq_zero_or_one i with h | h
      · obtain ⟨x, t, e1, f1, f2⟩ := wf.ev i h (by omega)
        rw [ec] at e1
        cases e1
        refine ⟨by omega, f1, f2, fun hp => ?_⟩
        have ip : 0 < i := by
          cases i with
          | zero => simp [shR] at hp
          | succ i => omega
        obtain ⟨x', t', y', l', w1, w2, w3, w4, w5, w6, w7⟩ := wf.od (i - 1) (by omega) (by omega)
        obtain ⟨a, b1, b2⟩ := a5 _ ip w2
        obtain ⟨xx, rfl⟩ := b2
        have i2 : i - 1 + 1 = i := by omega
        rw [i2] at w6
        obtain ⟨y2, t2, rfl, w8⟩ := w6 (by omega)
        rw [ec] at w8
        cases w8
        exact ⟨xx, l', b1⟩
      · obtain ⟨x', t', y', l', w1, w2, w3, w4, w5, w6, w7⟩ := wf.od i h (by omega)
        rw [ec] at w2
        cases w2
        obtain ⟨a, b1, b2⟩ := a5 _ (by omega) w1
        have b3 : a = .at x' t' := b2
        subst b3
        exact ⟨by omega, w3, w4, w5, t', b1⟩
    obtain ⟨b1, b2⟩ := stepR_wq a1 n
    obtain ⟨t1, t2, t3⟩ := stepR_ok a1.alt (fits_of n)
    have t4 := stepR_pos (shR (P.take i)) c
    rw [nx]
    refine ⟨b1, by omega, by omega, fun _ => t4, fun c' _ e => ?_⟩
    have e' : P[i]? = some c' := e
    rw [ec] at e'
    cases e'
    exact b2
theorem stepR_first {R : List Pc} {c : Pc} {x : QQ} {t : Option QQ} (h : R[0]? = some (.at x t)) : (stepR R c)[0]? = some (.at x t) := by
  have l := lt_of_get h
  have app : ∀ c : Pc, (R ++ [c])[0]? = some (.at x t) := fun c => by rw [get_app_lt l]; exact h
  unfold stepR
  split
  · rename_i x' y r xl yl l xp t' q2 q3
    split
    · rename_i hc
      have h2 : 2 < R.length := by
        refine Nat.lt_of_le_of_ne (by omega) fun z => ?_
        have e : R.length - 2 = 0 := by omega
        rw [e, h] at q2
        cases q2
      rw [List.getElem?_append_left (by simp; omega), List.getElem?_take_of_lt (by omega)]
      exact h
    · exact app _
  · exact app _
theorem shR_first {P : List Pc} {x : QQ} {t : Option QQ} (h : P[0]? = some (.at x t)) : (shR P)[0]? = some (.at x t) := by
  cases P with
  | nil => simp at h
  | cons c P =>
    simp at h
    subst h
    have key : ∀ (Q R : List Pc), R[0]? = some (.at x t) → (Q.foldl stepR R)[0]? = some (.at x t) := by
      intro Q
      induction Q with
      | nil => intro R h; exact h
      | cons d Q ih => intro R h; exact ih _ (stepR_first h)
    exact key P [.at x t] rfl
/-- the shortest pieces -/
theorem shR_wf {P : List Pc} (wf : Wf P) : Wf (shR P) ∧ (shR P).length ≤ P.length ∧ (shR P).length % 2 = P.length % 2 ∧ ∃ a c, P[P.length - 1]? = some c ∧ (shR P)[(shR P).length - 1]? = some a ∧ Like a c := by
  obtain ⟨a1, a2, a3, a4, a5⟩ := shR_wq wf P.length (Nat.le_refl _)
  rw [List.take_length] at a1 a2 a3 a4 a5
  have n0 := wf.ne
  have ec : P[P.length - 1]? = some (P[P.length - 1]'(by omega)) := List.getElem?_eq_getElem (by omega)
  generalize P[P.length - 1]'(by omega) = c at ec
  obtain ⟨a, b1, b2⟩ := a5 c n0 ec
  obtain ⟨x, t, f1, f2⟩ := wf.first
  refine ⟨⟨a4 n0, ⟨x, t, shR_first f1, f2⟩, a1.ev, fun i hi hl => ?_⟩, a3, a2, a, c, ec, b1, b2⟩
  obtain ⟨x, t, y, l, c1, c2, c3, c4, c5, c6⟩ := a1.od i hi hl
  refine ⟨x, t, y, l, c1, c2, c3, c4, c5, c6, fun e => ?_⟩
  obtain ⟨x', t', y', l', w1, w2, w3, w4, w5, w6, w7⟩ := wf.od (P.length - 1) (by omega) (by omega)
  have yn := w7 (by omega)
  subst yn
  rw [ec] at w2
  cases w2
  obtain ⟨xx, rfl⟩ := b2
  have i2 : (shR P).length - 1 = i := by omega
  rw [i2, c2] at b1
  cases b1
  rfl
/-- .. of the shortest pieces -/
theorem shR_self {R : List Pc} (w : Wq R) : shR R = R := by
  have key : ∀ i, i ≤ R.length → shR (R.take i) = R.take i := by
    intro i
    induction i with
    | zero => intro _; rfl
    | succ i ih =>
      intro hi
      have ec : R[i]? = some (R[i]'(by omega)) := List.getElem?_eq_getElem (by omega)
      generalize R[i]'(by omega) = c at ec
      rw [shR_next ec, ih (by omega), take_next ec]
      have el : (R.take i).length = i := by simp; omega
      unfold stepR
      split
      · rename_i x y r xl yl l xp t q2 q3
        rw [el] at q2 q3
        split
        · rename_i hc
          rw [el] at hc
          rw [List.getElem?_take_of_lt (by omega)] at q2 q3
          have i1 : i - 1 = i - 2 + 1 := by omega
          have i2 : i = i - 2 + 2 := by omega
          rw [i1] at q3
          rw [i2] at ec
          have := w.rd (i - 2) _ _ _ _ _ _ _ _ q2 q3 ec
          rw [hc.2] at this
          cases this
        · rfl
      · rfl
  have := key R.length (Nat.le_refl _)
  rw [List.take_length] at this
  exact this
theorem shR_shR {P : List Pc} (wf : Wf P) : shR (shR P) = shR P := by
  obtain ⟨a1, _⟩ := shR_wq wf P.length (Nat.le_refl _)
  rw [List.take_length] at a1
  exact shR_self a1

/-! ### pieces as data -/
def SmO : Option QQ → Prop
  | none => True
  | some x => Sm x.1 ∧ Sm x.2
def PcS : Pc → Prop
  | .at x t => SmO (some x) ∧ SmO t
  | .bt x y l => SmO (some x) ∧ SmO y ∧ SmO l
theorem FqO.smO {o : Option QQ} (f : FqO o) : SmO o := by
  cases o with
  | none => trivial
  | some x => exact ⟨Fq.s1 f, Fq.s2 f⟩
theorem LnO.smO {o : Option QQ} (f : LnO o) : SmO o := by
  cases o with
  | none => trivial
  | some x => exact f
theorem Wf.pcs {P : List Pc} (w : Wf P) : ∀ c ∈ P, PcS c := fun c hc => by
  obtain ⟨i, hi, e⟩ := List.getElem_of_mem hc
  have e2 : P[i]? = some c := by rw [List.getElem?_eq_getElem hi, e]
  rcases Nat.mod_two_eq_zero_or_one i with h | h
  · obtain ⟨x, t, a, b, d⟩ := w.ev i h hi
    rw [e2] at a
    cases a
    exact ⟨FqO.smO (o := some x) b, d.smO⟩
  · obtain ⟨x, t, y, l, a1, a2, a3, a4, _⟩ := w.od i h hi
    rw [e2] at a2
    cases a2
    obtain ⟨x', t', b1, b2, _⟩ := w.ev (i - 1) (by omega) (by omega)
    rw [a1] at b1
    cases b1
    exact ⟨FqO.smO (o := some x) b2, a3.smO, a4.smO⟩
def dC : Pc → PyData
  | .at x t => .tuple [.str "at", dP x, dO t]
  | .bt x y l => .tuple [.str "between", dP x, dO y, dO l]

theorem toD_pW {h : Hv} {n : Nat} {c : Pc} : toD (n + 3) h (pW c) = some (dC c) := by
  cases c with
  | «at» x t =>
    have t1 := toD_q (h := h) (n := n) (x := x)
    have t2 := toD_o (h := h) (n := n) (o := t)
    have t0 : toD (n + 2) h (.str ("at" : Str)) = some (.str "at") := rfl
    unfold pW toD
    simp only [optAll, t0, t1, t2]
    rfl
  | bt x y l =>
    have t1 := toD_q (h := h) (n := n) (x := x)
    have t2 := toD_o (h := h) (n := n) (o := y)
    have t3 := toD_o (h := h) (n := n) (o := l)
    have t0 : toD (n + 2) h (.str ("between" : Str)) = some (.str "between") := rfl
    unfold pW toD
    simp only [optAll, t0, t1, t2, t3]
    rfl
theorem toD_pWs {h : Hv} {n : Nat} : ∀ {P : List Pc}, optAll (toD (n + 3) h) (P.map pW) = some (P.map dC)
  | [] => rfl
  | c :: P => by
    have a := toD_pW (h := h) (n := n) (c := c)
    have b := toD_pWs (h := h) (n := n) (P := P)
    simp only [List.map_cons, optAll, a, b]
/-- at p a list of these pieces -/
def LP (h : Hv) (p : Nat) (P : List Pc) : Prop := h[p]? = some (.lst (P.map pW))
theorem toD_list {h : Hv} {p : Nat} {P : List Pc} (e : LP h p P) : toD dF h (.ref p) = some (.list (P.map dC)) := by
  have z := toD_pWs (h := h) (n := 8) (P := P)
  unfold LP at e
  show toD (11 + 1) h (.ref p) = _
  unfold toD
  simp only [e, z]
  rfl
theorem ok_at : PyData.strOk ("at" : Str) = true := by decide +kernel
theorem ok_bt : PyData.strOk ("between" : Str) = true := by decide +kernel
theorem lay_pr (x : QQ) : (dP x).canLay0 = true := by simp [PyData.canLay0, PyData.canLayAll0]
theorem lay_o (o : Option QQ) : (dO o).canLay0 = true := by
  cases o with
  | none => simp [dO, PyData.canLay0]
  | some x => exact lay_pr x
theorem dep_o (o : Option QQ) : (dO o).depth ≤ 1 := by
  cases o with
  | none => simp [dO, PyData.depth]
  | some x => simp [dO, PyData.depth, PyData.depthAll]
theorem lay_all : ∀ P : List Pc, PyData.canLayAll0 (P.map dC) = true
  | [] => by
    simp [PyData.canLayAll0]
  | c :: P => by
    have ih := lay_all P
    have z : (dC c).canLay0 = true := by
      cases c with
      | «at» x t => simp [dC, PyData.canLay0, PyData.canLayAll0, ok_at, lay_o]
      | bt x y l => simp [dC, PyData.canLay0, PyData.canLayAll0, ok_bt, lay_o]
    simp only [List.map_cons, PyData.canLayAll0, z, ih, Bool.and_self]
theorem dep_all : ∀ P : List Pc, PyData.depthAll (P.map dC) ≤ 2
  | [] => by
    simp [PyData.depthAll]
  | c :: P => by
    have ih := dep_all P
    have z : (dC c).depth ≤ 2 := by
      cases c with
      | «at» x t =>
        have := dep_o t
        simp only [dC, PyData.depth, PyData.depthAll]
        omega
      | bt x y l =>
        have := dep_o y
        have := dep_o l
        simp only [dC, PyData.depth, PyData.depthAll]
        omega
    simp only [PyData.depthAll, List.map_cons]
    omega
theorem sh_list (P : List Pc) : SeqAt.shaped (.list (P.map dC)) = true := by
  have a := lay_all P
  have b := dep_all P
  have c : PyData.depthAll (P.map dC) + 1 ≤ 64 := by omega
  simp only [SeqAt.shaped, PyData.canLay0, PyData.depth, a, c, decide_true, Bool.and_self]
theorem eqv_c (c d : Pc) : PyData.eqv (dC c) (dC d) = decide (c = d) := by
  have sb : (("at" : Str) == ("between" : Str)) = false := by decide +kernel
  have sb2 : (("between" : Str) == ("at" : Str)) = false := by decide +kernel
  cases c with
  | «at» x t =>
    cases d with
    | «at» x' t' =>
      have a := eqv_pr x x'
      have b := eqv_o t t'
      rw [Bool.eq_iff_iff]
      simp [dC, PyData.eqv, PyData.eqvAll, a, b]
      simp only [PyData.eqv, PyData.eqvAll] at a
      simp_all [Prod.ext_iff]
    | bt x' y' l' => simp [dC, PyData.eqv, PyData.eqvAll, sb]
  | bt x y l =>
    cases d with
    | «at» x' t' => simp [dC, PyData.eqv, PyData.eqvAll, sb2]
    | bt x' y' l' =>
      have a := eqv_pr x x'
      have b := eqv_o y y'
      have c := eqv_o l l'
      rw [Bool.eq_iff_iff]
      simp [dC, PyData.eqv, PyData.eqvAll, a, b, c]
      simp only [PyData.eqv, PyData.eqvAll] at a
      simp_all [Prod.ext_iff]
theorem eqv_all : ∀ P Q : List Pc, PyData.eqvAll (P.map dC) (Q.map dC) = decide (P = Q)
  | [], [] => by
    simp [PyData.eqvAll]
  | [], _ :: _ => by
    simp [PyData.eqvAll]
  | _ :: _, [] => by
    simp [PyData.eqvAll]
  | c :: P, d :: Q => by
    have a := eqv_c c d
    have b := eqv_all P Q
    simp only [List.map_cons, PyData.eqvAll, a, b]
    rw [Bool.eq_iff_iff]
    simp

theorem cmp_lists {h : Hv} {p q : Nat} {P Q : List Pc} {neg : Bool} (e1 : LP h p P) (e2 : LP h q Q) : mEq neg (.ref p) (.ref q) h = .val (.bl (if neg then !decide (P = Q) else decide (P = Q))) h := by
  have t1 := toD_list e1
  have t2 := toD_list e2
  have ee : PyData.eqv (.list (P.map dC)) (.list (Q.map dC)) = decide (P = Q) := by
    have := eqv_all P Q
    simp only [PyData.eqv, this]
  simp only [mEq, t1, t2, sh_list, Bool.and_self, if_true, ee]
/-! ### the text -/
theorem sho_o {o : Option QQ} (s : SmO o) : (dO o).showable = true := by
  cases o with
  | none => simp [dO, PyData.showable]
  | some x =>
    have a : x.1.natAbs.log2 < 1920 := by have := s.1.log; omega
    have b : x.2.natAbs.log2 < 1920 := by have := s.2.log; omega
    simp [dO, PyData.showable, PyData.showableAll, a, b]
theorem hd_o (o : Option QQ) : (dO o).hasDict = false := by
  cases o with
  | none => simp [dO, PyData.hasDict]
  | some x => simp [dO, PyData.hasDict, PyData.hasDictAll]
theorem ls_o {o : Option QQ} (s : SmO o) : (dO o).leavesShort 303 = true := by
  cases o with
  | none => simp [dO, PyData.leavesShort]
  | some x =>
    have a : (PyData.int x.1).shown.length ≤ 303 := int_len s.1
    have b : (PyData.int x.2).shown.length ≤ 303 := int_len s.2
    simp [dO, PyData.leavesShort, PyData.leavesShortAll, a, b]
theorem bulk_o (o : Option QQ) : (dO o).bulk ≤ 2 := by
  cases o with
  | none => simp [dO, PyData.bulk]
  | some x => simp [dO, PyData.bulk, PyData.bulkAll]
theorem oks_o (o : Option QQ) : okS (dO o) = true := by
  cases o with
  | none => simp [dO, okS]
  | some x => simp [dO, okS, okSs]
theorem ls_at : (PyData.str "at").leavesShort 303 = true := by decide +kernel
theorem ls_bt : (PyData.str "between").leavesShort 303 = true := by decide +kernel
theorem okS_at : okS (.str "at") = true := by decide +kernel
theorem okS_bt : okS (.str "between") = true := by decide +kernel
theorem bk_at : (PyData.str "at").bulk = 2 := by decide +kernel
theorem bk_bt : (PyData.str "between").bulk = 7 := by decide +kernel
theorem text_c {c : Pc} (s : PcS c) : (dC c).showable = true ∧ (dC c).hasDict = false ∧ (dC c).leavesShort 303 = true ∧ (dC c).bulk ≤ 17 ∧ okS (dC c) = true := by
  cases c with
  | «at» x t =>
    have e : dP x = dO (some x) := rfl
    have a := bulk_o (some x)
    have b := bulk_o t
    have a1 := sho_o s.1
    have a2 := sho_o s.2
    have a3 := ls_o s.1
    have a4 := ls_o s.2
    have a5 := hd_o (some x)
    have a6 := hd_o t
    have a7 := oks_o (some x)
    have a8 := oks_o t
    have a9 : (PyData.str "at").showable = true := by simp [PyData.showable]
    have a10 : (PyData.str "at").hasDict = false := by simp [PyData.hasDict]
    refine ⟨?_, ?_, ?_, ?_, ?_⟩
    · simp only [dC, e, PyData.showable, PyData.showableAll, a1, a2, Bool.and_self]
    · simp only [dC, e, PyData.hasDict, PyData.hasDictAll, a5, a6, Bool.or_self]
    · have z := ls_at
      have q : (dC (.at x t)).leavesShort 303 = PyData.leavesShortAll 303 [.str "at", dO (some x), dO t] := by simp only [dC, PyData.leavesShort, e]
      rw [q]
      simp only [PyData.leavesShortAll, a3, a4, z, Bool.and_self]
    · have z := bk_at
      have q : (dC (.at x t)).bulk = PyData.bulkAll [.str "at", dO (some x), dO t] := by simp only [dC, PyData.bulk, e]
      rw [q]
      simp only [PyData.bulkAll]
      omega
    · have z := okS_at
      have q : okS (dC (.at x t)) = okSs [.str "at", dO (some x), dO t] := by simp only [dC, okS, e]
      rw [q]
      simp only [okSs, a7, a8, z, Bool.and_self]
  | bt x y l =>
    have e : dP x = dO (some x) := rfl
    have a := bulk_o (some x)
    have b := bulk_o y
    have c := bulk_o l
    have a1 := sho_o s.1
    have a2 := sho_o s.2.1
    have a3 := sho_o s.2.2
    have b1 := ls_o s.1
    have b2 := ls_o s.2.1
    have b3 := ls_o s.2.2
    have c1 := hd_o (some x)
    have c2 := hd_o y
    have c3 := hd_o l
    have d1 := oks_o (some x)
    have d2 := oks_o y
    have d3 := oks_o l
    refine ⟨?_, ?_, ?_, ?_, ?_⟩
    · simp only [dC, e, PyData.showable, PyData.showableAll, a1, a2, a3, Bool.and_self]
    · simp only [dC, e, PyData.hasDict, PyData.hasDictAll, c1, c2, c3, Bool.or_self]
    · have z := ls_bt
      have q : (dC (.bt x y l)).leavesShort 303 = PyData.leavesShortAll 303 [.str "between", dO (some x), dO y, dO l] := by simp only [dC, PyData.leavesShort, e]
      rw [q]
      simp only [PyData.leavesShortAll, b1, b2, b3, z, Bool.and_self]
    · have z := bk_bt
      have q : (dC (.bt x y l)).bulk = PyData.bulkAll [.str "between", dO (some x), dO y, dO l] := by simp only [dC, PyData.bulk, e]
      rw [q]
      simp only [PyData.bulkAll]
      omega
    · have z := okS_bt
      have q : okS (dC (.bt x y l)) = okSs [.str "between", dO (some x), dO y, dO l] := by simp only [dC, okS, e]
      rw [q]
      simp only [okSs, d1, d2, d3, z, Bool.and_self]
theorem text_all : ∀ {P : List Pc}, (∀ c ∈ P, PcS c) → PyData.showableAll (P.map dC) = true ∧ PyData.hasDictAll (P.map dC) = false ∧ PyData.leavesShortAll 303 (P.map dC) = true ∧ PyData.bulkAll (P.map dC) ≤ 18 * P.length ∧ okSs (P.map dC) = true
  | [], _ => by simp [PyData.showableAll, PyData.hasDictAll, PyData.leavesShortAll, PyData.bulkAll, okSs]
  | c :: P, h => by
    obtain ⟨i1, i2, i3, i4, i5⟩ := text_all (P := P) fun d hd => h d (List.mem_cons_of_mem _ hd)
    obtain ⟨j1, j2, j3, j4, j5⟩ := text_c (h c List.mem_cons_self)
    simp only [List.map_cons, PyData.showableAll, PyData.hasDictAll, PyData.leavesShortAll, PyData.bulkAll, okSs, i1, i2, i3, i5, j1, j2, j3, j5, Bool.and_self, Bool.or_self, true_and, and_true, List.length_cons]
    omega
def txt (P : List Pc) : Str := (PyData.list (P.map dC)).shown
theorem txt_ok {P : List Pc} (s : ∀ c ∈ P, PcS c) : PyData.strOk (txt P) = true := okS_shown _ (by
  have := (text_all s).2.2.2.2
  simp only [okS, this])

theorem repr_list {h : Hv} {p : Nat} {P : List Pc} (e : LP h p P) (s : ∀ c ∈ P, PcS c) (hl : P.length ≤ 14) : mReprE [.ref p] h = .val (.str (txt P)) h := by
  obtain ⟨i1, i2, i3, i4, i5⟩ := text_all s
  have dp := dep_all P
  have b := PyData.shown_le_bulk 303 (by decide) (.list (P.map dC)) (by simp only [PyData.leavesShort, i3])
  have b2 : (PyData.list (P.map dC)).bulk ≤ 18 * P.length := by simp only [PyData.bulk]; exact i4
  refine reprE_of (toD_list e) (fun z => by unfold LP at e; rw [e] at z; cases z) (by simp only [PyData.showable, i1]) (by simp only [PyData.hasDict, i2]) (by simp only [PyData.depth]; omega) ?_
  have b3 : (303 + 2) * (PyData.list (P.map dC)).bulk ≤ (303 + 2) * 252 := Nat.mul_le_mul_left _ (by omega)
  omega
end SHP
end
section
namespace SHP
open PySem L2 VL
/-! ### lists of pieces -/
section
variable {h : Hv} {p : Nat} {P : List Pc} {c : Pc}
theorem LP.ix (e : LP h p P) {i : Nat} (g : P[i]? = some c) : mIx (.ref p) (.int (i : Int)) h = .val (pW c) h := ix_nat e (by rw [List.getElem?_map, g]; rfl)
theorem LP.ixI (e : LP h p P) {i : Nat} {j : Int} (hj : j = (i : Int)) (g : P[i]? = some c) : mIx (.ref p) (.int j) h = .val (pW c) h := by
  rw [hj]; exact e.ix g
theorem LP.last (e : LP h p P) (g : P[P.length - 1]? = some c) : mIx (.ref p) (.int (-1)) h = .val (pW c) h := ix_last e (by rw [List.length_map, List.getElem?_map, g]; rfl)
theorem LP.two (e : LP h p P) (hl : 1 < P.length) (g : P[P.length - 2]? = some c) : mIx (.ref p) (.int (-2)) h = .val (pW c) h := ix_two (by simpa using hl) e (by rw [List.length_map, List.getElem?_map, g]; rfl)
theorem LP.len (e : LP h p P) : mLen [.ref p] h = .val (.int P.length) h := by
  rw [len_lst e, List.length_map]
theorem LP.old (e : LP h p P) (t : Hv) : LP (h ++ t) p P := get_old e
theorem LP.ext {g : Hv} (e : LP h p P) (k : Ext h g) : LP g p P := k _ _ e
theorem LP.lt (e : LP h p P) : p < h.length := lt_of_get e
theorem LP.isi (e : LP h p P) : mIsi [.ref p, .ty "list"] h = .val (.bl true) h := isi_lst e
end
theorem nn_o {h : Hv} {o : Option QQ} {neg : Bool} : mIs neg (qo o) .non h = .val (.bl (if neg then !o.isNone else o.isNone)) h := by
  cases neg <;> cases o <;> simp
@[simp] theorem ixA0 {x : QQ} {t : Option QQ} {h : Hv} : mIx (pW (.at x t)) (.int 0) h = .val (.str ("at" : Str)) h := by simp [pW]
@[simp] theorem ixA1 {x : QQ} {t : Option QQ} {h : Hv} : mIx (pW (.at x t)) (.int 1) h = .val (q2 x) h := by simp [pW]
@[simp] theorem ixA2 {x : QQ} {t : Option QQ} {h : Hv} : mIx (pW (.at x t)) (.int 2) h = .val (qo t) h := by simp [pW]
@[simp] theorem ixB0 {x : QQ} {y l : Option QQ} {h : Hv} : mIx (pW (.bt x y l)) (.int 0) h = .val (.str ("between" : Str)) h := by simp [pW]
@[simp] theorem ixB1 {x : QQ} {y l : Option QQ} {h : Hv} : mIx (pW (.bt x y l)) (.int 1) h = .val (q2 x) h := by simp [pW]
@[simp] theorem ixB2 {x : QQ} {y l : Option QQ} {h : Hv} : mIx (pW (.bt x y l)) (.int 2) h = .val (qo y) h := by simp [pW]
@[simp] theorem ixB3 {x : QQ} {y l : Option QQ} {h : Hv} : mIx (pW (.bt x y l)) (.int 3) h = .val (qo l) h := by simp [pW]
theorem tofA {h : Hv} {x : QQ} {t : Option QQ} : m_is_tuple_of [pW (.at x t), .str ("at" : Str), .int 3] h = .val (.bl true) h := tof_at
theorem tofB {h : Hv} {x : QQ} {y l : Option QQ} : m_is_tuple_of [pW (.bt x y l), .str ("between" : Str), .int 4] h = .val (.bl true) h := tof_bt
theorem islo {h : Hv} {o : Option QQ} (e : o.isNone = false) : m_is_line [qo o] h = .val (.bl true) h := by
  cases o with
  | none => cases e
  | some t => exact isl_eq
theorem gap_ok {h : Hv} {x : QQ} {y l : Option QQ} (fx : Fq x) (fy : FqO y) (lt : ∀ y', y = some y' → Lt x y') : m_is_gap [pW (.bt x y l), q2 x] h = .val (.bl true) h := by
  have q0 := tofB (h := h) (x := x) (y := y) (l := l)
  have q1 := isf_of (h := h) fx
  have c1 : mEq true (q2 x) (q2 x) h = .val (.bl false) h := by rw [cmp_q]; simp
  have fin : (mOrV (m2 (mIs false) (m2 mIx (mVar 0) (mC (.int 3))) (mC .non)) (mCall 1 m_is_line (mCons (m2 mIx (mVar 0) (mC (.int 3))) mNil))) [some (pW (.bt x y l)), some (q2 x)] h = .val (.bl true) h := by
    cases l with
    | none => simp
    | some l =>
      have q3 := isl_eq (h := h) (x := l)
      simp [q3]
  have st : startW ["value", "low"] [pW (.bt x y l), q2 x] = [some (pW (.bt x y l)), some (q2 x)] := rfl
  have s1 : (mIfS (mOrT (mNotT (mT (mCall 3 m_is_tuple_of (mCons (mVar 0) (mCons (mC (.str ("between" : Str))) (mCons (mC (.int 4)) mNil)))))) (mOrT (mNotT (mT (mCall 1 m_is_fraction (mCons (m2 mIx (mVar 0) (mC (.int 1))) mNil)))) (mT (m2 (mEq true) (m2 mIx (mVar 0) (mC (.int 1))) (mVar 1))))) (mRet (mC (.bl false))) mNext) [some (pW (.bt x y l)), some (q2 x)] h = .nx [some (pW (.bt x y l)), some (q2 x)] h := by
    simp [q0, q1, c1]
  have s2 : (mIfS (mAndT (mT (m2 (mIs true) (m2 mIx (mVar 0) (mC (.int 2))) (mC .non))) (mOrT (mNotT (mT (mCall 1 m_is_fraction (mCons (m2 mIx (mVar 0) (mC (.int 2))) mNil)))) (mT (m2 mGe (mCall 2 m_order_of (mCons (mVar 1) (mCons (m2 mIx (mVar 0) (mC (.int 2))) mNil))) (mC (.int 0)))))) (mRet (mC (.bl false))) mNext) [some (pW (.bt x y l)), some (q2 x)] h = .nx [some (pW (.bt x y l)), some (q2 x)] h := by
    cases y with
    | none => simp
    | some y =>
      have q2' := isf_of (h := h) (x := y) fy
      have od := order_eq (h := h) fx (show Fq y from fy)
      rw [sg_lt (lt y rfl)] at od
      simp [q2', od]
  unfold m_is_gap
  rw [mDef_eq, st, mSeq_eq, s1, thenS_nx, mSeq_eq, s2, thenS_nx, mRet_eq, fin, andS_val, endS_rt]
theorem fmod2_odd {i : Nat} (h : i % 2 = 1) : ((i : Nat) : Int).fmod 2 = 1 := by
  rw [Int.fmod_eq_emod_of_nonneg
    _ (by decide)]
  omega
theorem fmod2_even {i : Nat} (h : i % 2 = 0) : ((i : Nat) : Int).fmod 2 = 0 := by
  rw [Int.fmod_eq_emod_of_nonneg
    _ (by decide)]
  omega
theorem follows_odd {h : Hv} {i : Nat} {x : QQ} {t y l : Option QQ} (hi : i % 2 = 1) (fx : Fq x) (fy : FqO y) (lt : ∀ y', y = some y' → Lt x y') : m_follows [pW (.bt x y l), pW (.at x t), .int i] h = .val (.bl true) h := by
  have g := gap_ok (h := h) (l := l) fx fy lt
  simp [m_follows, mDef_eq, startW, mod2, fmod2_odd hi, eq_int, g]
theorem follows_even {h : Hv} {i : Nat} {x y : QQ} {t l : Option QQ} (hi : i % 2 = 0) (fy : Fq y) (ft : FqO t) : m_follows [pW (.at y t), pW (.bt x (some y) l), .int i] h = .val (.bl true) h := by
  have pt := point_ok (h := h) fy ft
  have c1 : mEq false (q2 y) (q2 y) h = .val (.bl true) h := by rw [cmp_q]; simp
  simp [m_follows, mDef_eq, startW, mod2, fmod2_even hi, eq_int, pt, c1]
theorem pieces_ok {h : Hv} {p : Nat} {P : List Pc} (e : LP h p P) (wf : Wf P) (hs : P.length ≤ 1000) : m_are_pieces [.ref p] h = .val (.bl true) h := by
  have n0 := wf.ne
  obtain ⟨x0, t0, g0, f0, ft0⟩ := wf.ev 0 rfl n0
  obtain ⟨x0', t0', g0', h0⟩ := wf.first
  rw [g0] at g0'
  cases g0'
  have i0 : mIx (.ref p) (.int 0) h = .val (pW (.at x0 t0)) h := e.ix (i := 0) g0
  have pt := point_ok (h := h) f0 ft0
  have sl : m_is_slowness [q2 x0] h = .val (.bl true) h := by rw [slow_ok f0, decide_eq_true h0]
  have ln := e.len
  have nz : ¬ ((P.length : Int) = 0) := by omega
  let B : MS := (mIfS (mNotT (mT (mCall 3 m_follows (mCons (m2 mIx (mVar 0) (mVar 1)) (mCons (m2 mIx (mVar 0) (m2 mSub (mVar 1) (mC (.int 1)))) (mCons (mVar 1) mNil)))))) (mRet (mC (.bl false))) mNext)
  have step : ∀ (i : Nat) (r : Ws) (g : Hv), i < P.length - 1 → (∃ o, r = [some (.ref p), o] ∧ g = h) → ∃ r' h', B (r.set 1 (some (.int (1 + (i : Int))))) g = .nx r' h' ∧ (∃ o, r' = [some (.ref p), o] ∧ h' = h) := by
    rintro i r g hi ⟨o, rfl, rfl⟩
    have c1 : (1 : Int) + (i : Int) = ((i + 1 : Nat) : Int) := by omega
    have c2 : ((i + 1 : Nat) : Int) - 1 = (i : Int) := by omega
    refine ⟨[some (.ref p), some (.int ((i + 1 : Nat) : Int))], g, ?_, _, rfl, rfl⟩
    have fo : ∃ c d, P[i + 1]? = some c ∧ P[i]? = some d ∧ m_follows [pW c, pW d, .int ((i + 1 : Nat) : Int)] g = .val (.bl true) g := by
      rcases Nat.mod_two_eq_zero_or_one i with ei | ei
      · obtain ⟨x, t, y, l, a1, a2, a3, a4, a5, a6, a7⟩ := wf.od (i + 1) (by omega) (by omega)
        have a1' : P[i]? = some (.at x t) := a1
        obtain ⟨x', t', b1, b2, b3⟩ := wf.ev i ei (by omega)
        rw [a1'] at b1
        cases b1
        exact ⟨_, _, a2, a1', follows_odd (by omega) b2 a3 a5⟩
      · obtain ⟨x, t, y, l, a1, a2, a3, a4, a5, a6, a7⟩ := wf.od i ei (by omega)
        obtain ⟨y', t', rfl, b4⟩ := a6 (by omega)
        obtain ⟨x'', t'', b1, b2, b3⟩ := wf.ev (i + 1) (by omega) (by omega)
        rw [b4] at b1
        cases b1
        exact ⟨_, _, b4, a2, follows_even (by omega) b2 b3⟩
    obtain ⟨c, d, u1, u2, fo⟩ := fo
    have j1 := e.ix u1
    have j2 := e.ix u2
    rw [c1]
    simp only [B, List.set, mIfS_eq, mNotT_eq, mT_eq, mCall_eq, mCons_eq, m2_eq, mVar0, mVarS, bind_val, j1, mC_eq, mSub_int, c2, j2, mNil_eq, List.length_cons, List.length_nil, Nat.zero_add, Nat.reduceAdd, if_true, fo, asB_bl, Bool.not_true, Bool.false_eq_true, if_false, andS_val, mNext_eq]
  obtain ⟨r1, h1, lp, o, rfl, rfl⟩ := for_rng (n := P.length - 1) (lo := 1) (s := 1) (b := B) (fun _ r g => ∃ o, r = [some (.ref p), o] ∧ g = h) step (P.length - 1) 0 [some (.ref p), none] h (by omega) ⟨none, rfl, rfl⟩
  have sr := src_rng2 (n := P.length) (g := h1) (by omega) hs
  have sr2 : mRng (mCons (mC (.int 1)) (mCons (mB mLen (mCons (mVar 0) mNil)) mNil)) [some (.ref p), none] h1 = .val ⟨P.length - 1 + 1, nxR 1 (P.length - 1)⟩ h1 := by
    have a1 : (mCons (mC (.int 1)) (mCons (mB mLen (mCons (mVar 0) mNil)) mNil)) [some (.ref p), none] h1 = .val [.int 1, .int (P.length : Int)] h1 := by
      simp only [mCons_eq, mC_eq, mB_eq, mVar0, bind_val, mNil_eq, ln]
    unfold mRng
    rw [a1, bind_val, sr]
  have fe : mFor (mRng (mCons (mC (.int 1)) (mCons (mB mLen (mCons (mVar 0) mNil)) mNil))) (mGn 1) B [some (.ref p), none] h1 = .nx [some (.ref p), o] h1 := by
    unfold mFor
    rw [sr2, andS_val]
    exact lp
  have fin : (mOrV (m2 (mEq false) (m2 mMod (mB mLen (mCons (mVar 0) mNil)) (mC (.int 2))) (mC (.int 1))) (m2 (mIs false) (m2 mIx (m2 mIx (mVar 0) (m1 mNeg (mC (.int 1)))) (mC (.int 2))) (mC .non))) [some (.ref p), o] h1 = .val (.bl true) h1 := by
    rcases Nat.mod_two_eq_zero_or_one P.length with ei | ei
    · obtain ⟨x, t, y, l, a1, a2, a3, a4, a5, a6, a7⟩ := wf.od (P.length - 1) (by omega) (by omega)
      have yn := a7 (by omega)
      subst yn
      have j1 := e.last a2
      simp [ln, mod2, fmod2_even ei, eq_int, j1]
    · simp [ln, mod2, fmod2_odd ei, eq_int]
  have s1 : (mIfS (mOrT (mNotT (mT (mB mIsi (mCons (mVar 0) (mCons (mC (.ty "list")) mNil))))) (mT (m2 (mEq false) (mB mLen (mCons (mVar 0) mNil)) (mC (.int 0))))) (mRet (mC (.bl false))) mNext) [some (.ref p), none] h1 = .nx [some (.ref p), none] h1 := by
    have hP : P ≠ [] := fun z => by simp [z] at n0
    simp [e.isi, ln, eq_int, hP]
  have s2 : (mIfS (mOrT (mNotT (mT (mCall 1 m_is_point (mCons (m2 mIx (mVar 0) (mC (.int 0))) mNil)))) (mNotT (mT (mCall 1 m_is_slowness (mCons (m2 mIx (m2 mIx (mVar 0) (mC (.int 0))) (mC (.int 1))) mNil))))) (mRet (mC (.bl false))) mNext) [some (.ref p), none] h1 = .nx [some (.ref p), none] h1 := by
    simp [i0, pt, sl]
  have st : startW ["value", "index"] [.ref p] = [some (.ref p), none] := rfl
  unfold m_are_pieces
  rw [mDef_eq, st, mSeq_eq, s1, thenS_nx, mSeq_eq, s2, thenS_nx, mSeq_eq, fe, thenS_nx, mRet_eq, fin, andS_val, endS_rt]
theorem needless_ok {h : Hv} {x1 x x3 : QQ} {y1 l t y3 r : Option QQ} (fx : Fq x) (ll : LnO l) : m_is_needless [pW (.bt x1 y1 l), pW (.at x t), pW (.bt x3 y3 r)] h = .val (.bl (ndl l t r x)) h := by
  have c1 : mEq true (qo l) (qo r) h = .val (.bl (!decide (l = r))) h := by rw [cmp_o]; rfl
  by_cases hlr : l = r
  · subst hlr
    cases l with
    | none => cases t with
      | none => simp [m_is_needless, mDef_eq, startW, cmp_o, ndl, vl] at c1 ⊢; simp [c1]
      | some t => simp [m_is_needless, mDef_eq, startW, cmp_o, ndl, vl] at c1 ⊢; simp [c1]
    | some l => cases t with
      | none => simp [m_is_needless, mDef_eq, startW, ndl, vl] at c1 ⊢; simp [c1]
      | some t =>
        have v := value_eq (h := h) (l := l) fx ll.1 ll.2
        have q : mEq false (q2 (lv l x)) (q2 t) h = .val (.bl (decide (lv l x = t))) h := by rw [cmp_q]; rfl
        have cc : decide (lv l x = t) = decide (t = lv l x) := by simp [eq_comm]
        rw [cc] at q
        simp [m_is_needless, mDef_eq, startW, ndl, vl] at c1 ⊢
        simp [c1, v, q]
  · simp [m_is_needless, mDef_eq, startW, c1, ndl, hlr]
/-! ### the shortest pieces -/
abbrev sB : MS := (mIfS (mAndT (mT (m2 mGt (mB mLen (mCons (mVar 1) mNil)) (mC (.int 1)))) (mAndT (mT (m2 (mEq false) (m2 mIx (mVar 2) (mC (.int 0))) (mC (.str ("between" : Str))))) (mT (mCall 3 m_is_needless (mCons (m2 mIx (mVar 1) (m1 mNeg (mC (.int 2)))) (mCons (m2 mIx (mVar 1) (m1 mNeg (mC (.int 1)))) (mCons (mVar 2) mNil))))))) (mSeq (mExpr (mPop (mVar 1)))
    (mSeq (mSet 3 (mPop (mVar 1)))
    (mExpr (mApp (mVar 1) (mTup (mCons (mC (.str ("between" : Str))) (mCons (m2 mIx (mVar 3) (mC (.int 1))) (mCons (m2 mIx (mVar 2) (mC (.int 2))) (mCons (m2 mIx (mVar 2) (mC (.int 3))) mNil))))))))) (mExpr (mApp (mVar 1) (mVar 2))))
theorem set_last {h : Hv} {a b : O} : (h ++ [a]).set h.length b = h ++ [b] := by simp
theorem sbody {p : Nat} {b : Option W} {h : Hv} {R : List Pc} {c : Pc} (hs : R.length < 1000) (al : Alt R) (ft : Fits R.length c) :
    ∃ b', sB [some (.ref p), some (.ref h.length), some (pW c), b] (h ++ [.lst (R.map pW)]) = .nx [some (.ref p), some (.ref h.length), some (pW c), b'] (h ++ [.lst ((stepR R c).map pW)]) := by
  have l : LP (h ++ [.lst (R.map pW)]) h.length R := get_last
  have l' : (h ++ [O.lst (R.map pW)])[h.length]? = some (.lst (R.map pW)) := get_last
  have ln := l.len
  have lm : (R.map pW).length < 100000 := by simp; omega
  have put : (mExpr (mApp (mVar 1) (mVar 2))) [some (.ref p), some (.ref h.length), some (pW c), b] (h ++ [.lst (R.map pW)]) = .nx [some (.ref p), some (.ref h.length), some (pW c), b] (h ++ [.lst ((R ++ [c]).map pW)]) := by
    rw [mExpr_eq]
    have v1 : ∀ g, mVar 1 [some (.ref p), some (.ref h.length), some (pW c), b] g = .val (.ref h.length) g := fun g => rfl
    have v2 : ∀ g, mVar 2 [some (.ref p), some (.ref h.length), some (pW c), b] g = .val (pW c) g := fun g => rfl
    simp only [mApp, v1, v2, bind_val, l', lm, if_true, andS_val, set_last, List.map_append, List.map_cons, List.map_nil]
  by_cases h1 : 1 < R.length
  · have h1i : (1 : Int) < (R.length : Int) := by omega
    rcases ft with ⟨_, x, t, rfl, _⟩ | ⟨ho, x, y, r, rfl, lr⟩
    · refine ⟨b, ?_⟩
      have e : stepR R (.at x t) = R ++ [.at x t] := rfl
      rw [e, ← put]
      simp [sB, ln, h1, eq_ab]
    · obtain ⟨xp, t, rp, fxp, ftp⟩ := al.ev (R.length - 1) (by omega) (by omega)
      obtain ⟨xl, yl, ll, rl, lnl⟩ := al.od (R.length - 2) (by omega) (by omega)
      have j1 := l.last rp
      have j2 := l.two h1 rl
      have nd := needless_ok (h := h ++ [.lst (R.map pW)]) (x1 := xl) (y1 := yl) (l := ll) (t := t) (x3 := x) (y3 := y) (r := r) fxp lnl
      have cnd : (mAndT (mT (m2 mGt (mB mLen (mCons (mVar 1) mNil)) (mC (.int 1)))) (mAndT (mT (m2 (mEq false) (m2 mIx (mVar 2) (mC (.int 0))) (mC (.str ("between" : Str))))) (mT (mCall 3 m_is_needless (mCons (m2 mIx (mVar 1) (m1 mNeg (mC (.int 2)))) (mCons (m2 mIx (mVar 1) (m1 mNeg (mC (.int 1)))) (mCons (mVar 2) mNil))))))) [some (.ref p), some (.ref h.length), some (pW (.bt x y r)), b] (h ++ [.lst (R.map pW)]) = .val (ndl ll t r xp) (h ++ [.lst (R.map pW)]) := by
        simp only [mAndT_eq, mT_eq, m2_eq, mB_eq, mCons_eq, mNil_eq, mVar0, mVarS, bind_val, ln, mC_eq, mGt_int, decide_eq_true h1i, asB_bl, if_true, ixB0, eq_bb, m1_eq, mNeg_int, j1, j2, mCall_eq, List.length_cons, List.length_nil, Nat.zero_add, Nat.reduceAdd, nd]
      cases hn : ndl ll t r xp with
      | false =>
        rw [hn] at cnd
        refine ⟨b, ?_⟩
        have e : stepR R (.bt x y r) = R ++ [.bt x y r] := by simp [stepR, rl, rp, hn]
        rw [e, ← put]
        unfold sB
        rw [mIfS_eq, cnd, andS_val]
        rfl
      | true =>
        rw [hn] at cnd
        have e5 : stepR R (.bt x y r) = R.take (R.length - 2) ++ [.bt xl y r] := by simp [stepR, rl, rp, hn, h1]
        have lm1 : (R.map pW).length = R.length := List.length_map ..
        have ul : (R.map pW)[(R.map pW).length - 1]? = some (pW (.at xp t)) := by rw [lm1, List.getElem?_map, rp]; rfl
        have p1 : mPopO (.ref h.length) (h ++ [.lst (R.map pW)]) = .val (pW (.at xp t)) (h ++ [.lst (R.map pW).dropLast]) := by
          simp only [mPopO, l', ul, set_last]
        have l2 : (h ++ [O.lst (R.map pW).dropLast])[h.length]? = some (.lst (R.map pW).dropLast) := get_last
        have u2 : (R.map pW).dropLast[(R.map pW).dropLast.length - 1]? = some (pW (.bt xl yl ll)) := by
          have e1 : (R.map pW).dropLast.length - 1 = R.length - 2 := by simp; omega
          rw [e1, List.dropLast_eq_take, List.getElem?_take_of_lt (by rw [lm1]; omega), List.getElem?_map, rl]
          rfl
        have p2 : mPopO (.ref h.length) (h ++ [.lst (R.map pW).dropLast]) = .val (pW (.bt xl yl ll)) (h ++ [.lst (R.map pW).dropLast.dropLast]) := by
          simp only [mPopO, l2, u2, set_last]
        have ed : (R.map pW).dropLast.dropLast = (R.take (R.length - 2)).map pW := by
          rw [List.dropLast_eq_take, List.dropLast_eq_take, List.length_take, List.take_take, lm1, List.map_take]
          congr 1
          omega
        rw [ed] at p2
        have l3 : (h ++ [O.lst ((R.take (R.length - 2)).map pW)])[h.length]? = some (.lst ((R.take (R.length - 2)).map pW)) := get_last
        have lm3 : ((R.take (R.length - 2)).map pW).length < 100000 := by simp; omega
        refine ⟨some (pW (.bt xl yl ll)), ?_⟩
        rw [e5]
        have pa : (mExpr (mPop (mVar 1))) [some (.ref p), some (.ref h.length), some (pW (.bt x y r)), b] (h ++ [.lst (R.map pW)]) = .nx [some (.ref p), some (.ref h.length), some (pW (.bt x y r)), b] (h ++ [.lst (R.map pW).dropLast]) := by
          have v1 : mVar 1 [some (.ref p), some (.ref h.length), some (pW (.bt x y r)), b] (h ++ [.lst (R.map pW)]) = .val (.ref h.length) (h ++ [.lst (R.map pW)]) := rfl
          simp only [mExpr_eq, mPop, v1, bind_val, p1, andS_val]
        have pb : (mSet 3 (mPop (mVar 1))) [some (.ref p), some (.ref h.length), some (pW (.bt x y r)), b] (h ++ [.lst (R.map pW).dropLast]) = .nx [some (.ref p), some (.ref h.length), some (pW (.bt x y r)), some (pW (.bt xl yl ll))] (h ++ [.lst ((R.take (R.length - 2)).map pW)]) := by
          have v1 : mVar 1 [some (.ref p), some (.ref h.length), some (pW (.bt x y r)), b] (h ++ [.lst (R.map pW).dropLast]) = .val (.ref h.length) (h ++ [.lst (R.map pW).dropLast]) := rfl
          simp only [mSet_eq, mPop, v1, bind_val, p2, andS_val, List.set]
        have pc : (mExpr (mApp (mVar 1) (mTup (mCons (mC (.str ("between" : Str))) (mCons (m2 mIx (mVar 3) (mC (.int 1))) (mCons (m2 mIx (mVar 2) (mC (.int 2))) (mCons (m2 mIx (mVar 2) (mC (.int 3))) mNil))))))) [some (.ref p), some (.ref h.length), some (pW (.bt x y r)), some (pW (.bt xl yl ll))] (h ++ [.lst ((R.take (R.length - 2)).map pW)]) = .nx [some (.ref p), some (.ref h.length), some (pW (.bt x y r)), some (pW (.bt xl yl ll))] (h ++ [.lst ((R.take (R.length - 2) ++ [Pc.bt xl y r]).map pW)]) := by
          have v1 : ∀ g, mVar 1 [some (.ref p), some (.ref h.length), some (pW (.bt x y r)), some (pW (.bt xl yl ll))] g = .val (.ref h.length) g := fun g => rfl
          rw [mExpr_eq]
          simp only [mApp, v1, bind_val, l3, mTup_eq, mCons_eq, mC_eq, m2_eq, mVar0, mVarS, ixB1, ixB2, ixB3, mNil_eq, List.length_cons, List.length_nil, Nat.zero_add, Nat.reduceAdd, show (4 : Nat) ≤ 100000 from by decide, if_true, lm3, andS_val, set_last, List.map_append, List.map_cons, List.map_nil]
          rfl
        unfold sB
        rw [mIfS_eq, cnd, andS_val, if_pos rfl, mSeq_eq, pa, thenS_nx, mSeq_eq, pb, thenS_nx, pc]
  · have h1i : ¬ (1 : Int) < (R.length : Int) := by omega
    refine ⟨b, ?_⟩
    have e : stepR R c = R ++ [c] := by
      unfold stepR
      split
      · rw [if_neg (fun z => h1 z.1)]
      · rfl
    rw [e, ← put]
    simp [sB, ln, h1i]
theorem shortest_ok {h : Hv} {p : Nat} {P : List Pc} (e : LP h p P) (al : Alt P) (hs : P.length ≤ 900) : m_shortest [.ref p] h = .val (.ref h.length) (h ++ [.lst ((shR P).map pW)]) := by
  let I : Nat → Ws → Hv → Prop := fun i r g => ∃ o b, r = [some (.ref p), some (.ref h.length), o, b] ∧ g = h ++ [.lst ((shR (P.take i)).map pW)] ∧ Alt (shR (P.take i)) ∧ (shR (P.take i)).length % 2 = i % 2 ∧ (shR (P.take i)).length ≤ i
  have keep : ∀ i r g, I i r g → g[p]? = some (.lst (P.map pW)) := by
    rintro i r g ⟨o, b, rfl, rfl, _⟩
    exact e.old _
  have step : ∀ (i : Nat) w, (P.map pW)[i]? = some w → ∀ r g, I i r g → ∃ r' g', sB (r.set 2 (some w)) g = .nx r' g' ∧ I (i + 1) r' g' := by
    rintro i w ew r g ⟨o, b, rfl, rfl, a1, a2, a3⟩
    rw [List.getElem?_map] at ew
    obtain ⟨c, ec, rfl⟩ := Option.map_eq_some_iff.mp ew
    have hi := lt_of_get ec
    have ft : Fits (shR (P.take i)).length c := by
      rcases al.fits ec with ⟨z, x⟩ | ⟨z, x⟩
      · exact .inl ⟨by omega, x⟩
      · exact .inr ⟨by omega, x⟩
    obtain ⟨b', s1⟩ := sbody (p := p) (b := b) (h := h) (by omega) a1 ft
    obtain ⟨t1, t2, t3⟩ := stepR_ok a1 ft
    refine ⟨_, _, s1, some (pW c), b', rfl, by rw [shR_next ec], ?_, ?_, ?_⟩
    · rw [shR_next ec]; exact t1
    · rw [shR_next ec, t2]; omega
    · rw [shR_next ec]; omega
  have i0 : I 0 [some (.ref p), some (.ref h.length), none, none] (h ++ [.lst []]) := ⟨none, none, rfl, rfl, ⟨fun i _ z => absurd z (Nat.not_lt_zero i), fun i _ z => absurd z (Nat.not_lt_zero i)⟩, rfl, Nat.le_refl _⟩
  have hl : (P.map pW).length = P.length := List.length_map ..
  obtain ⟨r1, g1, lp, o, b, rfl, rfl, _⟩ := for_seq I keep step (P.map pW).length 0 _ (h ++ [.lst []]) (by omega) i0
  rw [hl, List.take_length] at lp
  have st : startW ["pieces", "rows", "piece", "left"] [.ref p] = [some (.ref p), none, none, none] := rfl
  have s1 : (mSet 1 (mLst mNil)) [some (.ref p), none, none, none] h = .nx [some (.ref p), some (.ref h.length), none, none] (h ++ [.lst []]) := by
    simp
  have sr : (mSrc (mVar 0)) [some (.ref p), some (.ref h.length), none, none] (h ++ [.lst []]) = .val ⟨(P.map pW).length + 1, nxSeq p⟩ (h ++ [.lst []]) := by
    have e0 : (h ++ [O.lst []])[p]? = some (.lst (P.map pW)) := e.old _
    unfold mSrc
    rw [mVar0, bind_val]
    simp only [srcOf, e0]
  have fe : mFor (mSrc (mVar 0)) (mGn 2) sB [some (.ref p), some (.ref h.length), none, none] (h ++ [.lst []]) = .nx [some (.ref p), some (.ref h.length), o, b] (h ++ [.lst ((shR P).map pW)]) := by
    unfold mFor
    rw [sr, andS_val, hl]
    exact lp
  unfold m_shortest
  rw [mDef_eq, st, mSeq_eq, s1, thenS_nx, mSeq_eq]
  rw [fe, thenS_nx]
  rfl
end SHP
end
section
namespace SHP
open PySem L2 VL
/-! ### shapes -/
def Sh (h : Hv) (q q' : Nat) (R : List Pc) : Prop := h[q]? = some (.ins "S" [("rows", .ref q')]) ∧ LP h q' R
theorem Sh.ext {h g : Hv} {q q' : Nat} {P : List Pc} (e : Sh h q q' P) (k : Ext h g) : Sh g q q' P := ⟨k _ _ e.1, e.2.ext k⟩
theorem Sh.old {h : Hv} {q q' : Nat} {P : List Pc} (e : Sh h q q' P) (t : Hv) : Sh (h ++ t) q q' P := e.ext (Ext.more _ _)
theorem lk_rows {w : W} : List.lookup ("rows" : Str) [(("rows" : Str), w)] = some w := by
  have : (("rows" : Str) == ("rows" : Str)) = true := by decide +kernel
  rw [List.lookup_cons, this]
theorem init_ok {h : Hv} {p : Nat} {P : List Pc} (e : LP h p P) (wf : Wf P) (hs : P.length ≤ 900) :
    m_Shape_init [.ref h.length, .ref p] (h ++ [.ins "S" []]) = .val .non (h ++ [.ins "S" [("rows", .ref (h.length + 1))], .lst ((shR P).map pW)]) := by
  let h1 : Hv := h ++ [.ins "S" []]
  have hl1 : h1.length = h.length + 1 := by simp [h1]
  have e1 : LP h1 p P := e.old _
  have ap := pieces_ok e1 wf (by omega)
  have sh := shortest_ok e1 wf.alt hs
  rw [hl1] at sh
  have in1 : (h1 ++ [O.lst ((shR P).map pW)])[h.length]? = some (.ins "S" []) := get_old get_last
  have st : startW ["self", "pieces"] [.ref h.length, .ref p] = [some (.ref h.length), some (.ref p)] := rfl
  have a1 : (mIfS (mNotT (mT (mCall 1 m_are_pieces (mCons (mVar 1) mNil)))) (mRaise "a" "value" (mCons (mVar 1) mNil)) mNext) [some (.ref h.length), some (.ref p)] h1 = .nx [some (.ref h.length), some (.ref p)] h1 := by
    simp [ap]
  have b1 : (mCall 1 m_shortest (mCons (mVar 1) mNil)) [some (.ref h.length), some (.ref p)] h1 = .val (.ref (h.length + 1)) (h1 ++ [.lst ((shR P).map pW)]) := by
    simp [sh]
  have p1 : (mPutF "S" "rows" (mVar 0) (mCall 1 m_shortest (mCons (mVar 1) mNil))) [some (.ref h.length), some (.ref p)] h1 = .nx [some (.ref h.length), some (.ref p)] (h ++ [.ins "S" [("rows", .ref (h.length + 1))], .lst ((shR P).map pW)]) := by
    unfold mPutF
    rw [b1, andS_val, mVar0, andS_val]
    simp only [in1, List.length_nil, show (0 : Nat) < 1000 from by decide, and_self, if_true, putW]
    have : (h1 ++ [O.lst ((shR P).map pW)]).set h.length (.ins "S" [("rows", .ref (h.length + 1))]) = h ++ [.ins "S" [("rows", .ref (h.length + 1))], .lst ((shR P).map pW)] := by simp [h1]
    rw [this]
  unfold m_Shape_init
  rw [mDef_eq, st, mSeq_eq, a1, thenS_nx, p1]
  rfl
/-- the heap with a shape more -/
abbrev shH (h : Hv) (P : List Pc) : Hv := h ++ [.ins "S" [("rows", .ref (h.length + 1))], .lst ((shR P).map pW)]
theorem shH_sh (h : Hv) (P : List Pc) : Sh (shH h P) h.length (h.length + 1) (shR P) := by
  refine ⟨by simp [shH], ?_⟩
  show (shH h P)[h.length + 1]? = _
  simp [shH]
theorem make_ok {h0 h : Hv} {p : Nat} {P : List Pc} {r : Ws} {f : Ws → Hv → Res W} (fv : f r h0 = .val (.ref p) h) (e : LP h p P) (wf : Wf P) (hs : P.length ≤ 900) :
    mMake "S" 1 m_Shape_init (mCons f mNil) r h0 = .val (.ref h.length) (shH h P) := by
  have i1 := init_ok e wf hs
  have c : (mCons f mNil) r h0 = .val [.ref p] h := by rw [mCons_eq, fv, bind_val, mNil_eq, bind_val]
  unfold mMake
  rw [c, bind_val, if_pos (show [W.ref p].length = 1 from rfl), i1, bind_val]
section
variable {h : Hv} {q q' p : Nat} {R P : List Pc} {r : Ws} {i : Nat}
theorem fld_ok (s : Sh h q q' R) : mFldO "S" "rows" (.ref q) h = .val (.ref q') h := by
  simp only [mFldO, s.1, if_true, lk_rows, ofO]
theorem low_ok {x : QQ} {t : Option QQ} (s : Sh h q q' R) (hx : R[0]? = some (.at x t)) : mPropO "S" m_Shape_low (.ref q) h = .val (q2 x) h := by
  have f := fld_ok s
  have i0 : mIx (.ref q') (.int 0) h = .val (pW (.at x t)) h := s.2.ix (i := 0) hx
  have st : startW ["self"] [.ref q] = [some (.ref q)] := rfl
  have e : m_Shape_low [.ref q] h = .val (q2 x) h := by
    unfold m_Shape_low
    rw [mDef_eq, st, mRet_eq]
    simp only [m2_eq, mFld, mVar0, bind_val, f, mC_eq, i0, ixA1, andS_val, endS_rt]
  simp only [mPropO, s.1, if_true, e, noX]
/-- the end of the range -/
def hi : Pc → Option QQ
  | .at x _ => some x
  | .bt _ _ _ => none
theorem Like.hi {a c : Pc} (l : Like a c) : hi a = hi c := by
  cases c with
  | «at» x t => rw [show a = .at x t from l]
  | bt x y r =>
    obtain ⟨x', rfl⟩ := l
    rfl
theorem hi_ok {c : Pc} (e : LP h p P) (hc : P[P.length - 1]? = some c) : m_high_of [.ref p] h = .val (qo (hi c)) h := by
  have j := e.last hc
  have st2 : startW ["pieces"] [.ref p] = [some (.ref p)] := rfl
  unfold m_high_of
  rw [mDef_eq, st2, mRet_eq]
  cases c with
  | «at» x t => simp only [mIf_eq, mT_eq, m2_eq, mVar0, bind_val, m1_eq, mC_eq, mNeg_int, j, ixA0, eq_at, asB_bl, if_true, ixA1, andS_val, endS_rt, hi, qo_some]
  | bt x y t => simp only [mIf_eq, mT_eq, m2_eq, mVar0, bind_val, m1_eq, mC_eq, mNeg_int, j, ixB0, eq_ba, asB_bl, Bool.false_eq_true, if_false, andS_val, endS_rt, hi, qo_none]
theorem high_ok {c : Pc} (s : Sh h q q' R) (hc : R[R.length - 1]? = some c) : mPropO "S" m_Shape_high (.ref q) h = .val (qo (hi c)) h := by
  have f := fld_ok s
  have e0 := hi_ok s.2 hc
  have st : startW ["self"] [.ref q] = [some (.ref q)] := rfl
  have e : m_Shape_high [.ref q] h = .val (qo (hi c)) h := by
    unfold m_Shape_high
    rw [mDef_eq, st, mRet_eq, mCall_eq, mCons_eq]
    simp only [mFld, mVar0, bind_val, f, mNil_eq, List.length_cons, List.length_nil, Nat.zero_add, if_true, e0, andS_val, endS_rt]
  simp only [mPropO, s.1, if_true, e, noX]
end
/-! ### where x lies -/
instance (x y : QQ) : Decidable (Lt x y) := inferInstanceAs (Decidable (x.1 * y.2 - y.1 * x.2 < 0))
def In : Pc → QQ → Prop
  | .at y _, x => x = y
  | .bt a b _, x => Lt a x ∧ ∀ b', b = some b' → Lt x b'
def tm : Pc → QQ → Option QQ
  | .at _ t, _ => t
  | .bt _ _ l, x => vl l x
/-- x is not ahead of the first point, not behind the last -/
def Ge (R : List Pc) (x : QQ) : Prop := ∀ y t, R[0]? = some (.at y t) → ¬ Lt x y
def Le (R : List Pc) (x : QQ) : Prop := ∀ y t, R[R.length - 1]? = some (.at y t) → ¬ Lt y x
abbrev iT : Ws → Hv → Res Bool := mT (m2 mLt (mVar 2) (mVar 3))
abbrev iB : MS := (mSeq (mSet 4 (m2 mDiv (m2 mAdd (m2 mAdd (mVar 2) (mVar 3)) (mC (.int 1))) (mC (.int 2))))
    (mIfS (mT (m2 mLe (mCall 2 m_order_of (mCons (m2 mIx (m2 mIx (mVar 0) (m2 mMul (mC (.int 2)) (mVar 4))) (mC (.int 1))) (mCons (mVar 1) mNil))) (mC (.int 0)))) (mSet 2 (mVar 4)) (mSet 3 (m2 mSub (mVar 4) (mC (.int 1))))))
theorem div2 {i : Int} {h : Hv} : mDiv (.int i) (.int 2) h = .val (.int (i.fdiv 2)) h := mDiv_int (by decide) (by decide +kernel)
theorem sg_le {x y : QQ} (fx : Fq x) (fy : Fq y) : decide (sg (x.1 * y.2 - y.1 * x.2) ≤ 0) = decide (¬ Lt y x) := by
  rcases sg_tri fx fy with ⟨a, b⟩ | ⟨a, b⟩ | ⟨a, b⟩
  · rw [b]
    have : ¬ Lt y x := by unfold Lt at *; omega
    simp [this]
  · rw [b]
    subst a
    have := Lt.irrefl x
    simp [this]
  · rw [b]
    simp [a]
theorem iloop {h : Hv} {p : Nat} {R : List Pc} {x : QQ} (e : LP h p R) (wf : Wf R) (fx : Fq x) (hs : R.length ≤ 1000) : ∀ (n f l : Nat) (o : Option W), l - f < n → f ≤ l → 2 * l < R.length →
    (∀ y t, R[2 * f]? = some (.at y t) → ¬ Lt x y) → (∀ y t, R[2 * (l + 1)]? = some (.at y t) → Lt x y) →
    ∃ k o', whileM iT iB n [some (.ref p), some (q2 x), some (.int (f : Int)), some (.int (l : Int)), o] h = .nx [some (.ref p), some (q2 x), some (.int (k : Nat)), some (.int (k : Nat)), o'] h ∧ 2 * k < R.length ∧
      (∀ y t, R[2 * k]? = some (.at y t) → ¬ Lt x y) ∧ (∀ y t, R[2 * (k + 1)]? = some (.at y t) → Lt x y)
  | 0, f, l, o, hn, _, _, _, _ => absurd hn (Nat.not_lt_zero _)
  | n + 1, f, l, o, hn, hfl, hl, h1, h2 => by
    unfold whileM
    by_cases c : f < l
    · have ci : (f : Int) < (l : Int) := by omega
      let m := (f + l + 1) / 2
      have hm : ((f : Int) + (l : Int) + 1).fdiv 2 = ((m : Nat) : Int) := by
        rw [Int.fdiv_eq_ediv_of_nonneg _ (show (0 : Int) ≤ 2 by decide)]
        omega
      have m1 : f < m := by omega
      have m2' : m ≤ l := by omega
      obtain ⟨y, t, ey, fy, _⟩ := wf.ev (2 * m) (by omega) (by omega)
      have m64 : mMul (.int 2) (.int ((m : Nat) : Int)) h = .val (.int (2 * ((m : Nat) : Int))) h := mul64 (by decide) (by omega)
      have ix : mIx (.ref p) (.int (2 * ((m : Nat) : Int))) h = .val (pW (.at y t)) h := e.ixI (i := 2 * m) (by omega) ey
      have od := order_eq (h := h) fy fx
      have body : iB [some (.ref p), some (q2 x), some (.int (f : Int)), some (.int (l : Int)), o] h = if ¬ Lt x y then .nx [some (.ref p), some (q2 x), some (.int ((m : Nat) : Int)), some (.int (l : Int)), some (.int ((m : Nat) : Int))] h else .nx [some (.ref p), some (q2 x), some (.int (f : Int)), some (.int (((m : Nat) : Int) - 1)), some (.int ((m : Nat) : Int))] h := by
        clear_value m
        have s1 : (mSet 4 (m2 mDiv (m2 mAdd (m2 mAdd (mVar 2) (mVar 3)) (mC (.int 1))) (mC (.int 2)))) [some (.ref p), some (q2 x), some (.int (f : Int)), some (.int (l : Int)), o] h = .nx [some (.ref p), some (q2 x), some (.int (f : Int)), some (.int (l : Int)), some (.int ((m : Nat) : Int))] h := by
          simp only [mSet_eq, m2_eq, mVar0, mVarS, bind_val, mAdd_int, mC_eq, div2, hm, andS_val]
          rfl
        unfold iB
        rw [mSeq_eq, s1, thenS_nx, mIfS_eq]
        have t1 : (mT (m2 mLe (mCall 2 m_order_of (mCons (m2 mIx (m2 mIx (mVar 0) (m2 mMul (mC (.int 2)) (mVar 4))) (mC (.int 1))) (mCons (mVar 1) mNil))) (mC (.int 0)))) [some (.ref p), some (q2 x), some (.int (f : Int)), some (.int (l : Int)), some (.int ((m : Nat) : Int))] h = .val (decide (¬ Lt x y)) h := by
          simp only [mT_eq, m2_eq, mCall_eq, mCons_eq, mVar0, mVarS, bind_val, mC_eq, m64, ix, ixA1, mNil_eq, List.length_cons, List.length_nil, Nat.zero_add, Nat.reduceAdd, if_true, od, mLe_int, asB_bl, sg_le fy fx]
        rw [t1, andS_val]
        by_cases cl : Lt x y
        · simp [cl]
        · simp [cl]
      have tt : iT [some (.ref p), some (q2 x), some (.int (f : Int)), some (.int (l : Int)), o] h = .val true h := by
        simp [iT, c]
      by_cases cl : Lt x y
      · rw [if_neg (fun z => z cl)] at body
        have em : (((m : Nat) : Int) - 1) = ((m - 1 : Nat) : Int) := by omega
        rw [em] at body
        have ym : ∀ y' t', R[2 * (m - 1 + 1)]? = some (.at y' t') → Lt x y' := fun y' t' z => by
          have : 2 * (m - 1 + 1) = 2 * m := by omega
          rw [this, ey] at z
          cases z
          exact cl
        obtain ⟨k, o', r1, r2⟩ := iloop e wf fx hs n f (m - 1) (some (.int ((m : Nat) : Int))) (by omega) (by omega) (by omega) h1 ym
        refine ⟨k, o', ?_, r2⟩
        rw [tt, andS_val, if_pos rfl, body]
        exact r1
      · rw [if_pos cl] at body
        have ym : ∀ y' t', R[2 * m]? = some (.at y' t') → ¬ Lt x y' := fun y' t' z => by
          rw [ey] at z
          cases z
          exact cl
        obtain ⟨k, o', r1, r2⟩ := iloop e wf fx hs n m l (some (.int ((m : Nat) : Int))) (by omega) (by omega) hl ym h2
        refine ⟨k, o', ?_, r2⟩
        rw [tt, andS_val, if_pos rfl, body]
        exact r1
    · have efl : f = l := by omega
      subst efl
      refine ⟨f, o, ?_, hl, h1, h2⟩
      have tt : iT [some (.ref p), some (q2 x), some (.int (f : Int)), some (.int (f : Int)), o] h = .val false h := by
        simp [iT]
      rw [tt]
      rfl
theorem idx_ok {h : Hv} {p : Nat} {R : List Pc} {x : QQ} (e : LP h p R) (wf : Wf R) (fx : Fq x) (hs : R.length ≤ 1000) (ge : Ge R x) (le : Le R x) :
    ∃ (i : Nat) (c : Pc), m_index_of [.ref p, q2 x] h = .val (.int (i : Int)) h ∧ R[i]? = some c ∧ In c x := by
  have n0 := wf.ne
  let m := (R.length - 1) / 2
  have hm : ((R.length : Int) - 1).fdiv 2 = ((m : Nat) : Int) := by
    rw [Int.fdiv_eq_ediv_of_nonneg _ (show (0 : Int) ≤ 2 by decide)]
    omega
  obtain ⟨k, o', w1, k1, k2, k3⟩ := iloop e wf fx hs (m + 1) 0 m none (by omega) (Nat.zero_le _) (by omega) (fun y t z => ge y t z) (fun y t z => absurd (lt_of_get z) (by omega))
  have st : startW ["pieces", "x", "first", "last", "half"] [.ref p, q2 x] = [some (.ref p), some (q2 x), none, none, none] := rfl
  have s1 : (mPar 2 3 (mCons (mC (.int 0)) (mCons (m2 mDiv (m2 mSub (mB mLen (mCons (mVar 0) mNil)) (mC (.int 1))) (mC (.int 2))) mNil))) [some (.ref p), some (q2 x), none, none, none] h = .nx [some (.ref p), some (q2 x), some (.int 0), some (.int ((m : Nat) : Int)), none] h := by
    unfold mPar
    simp only [mCons_eq, mC_eq, bind_val, m2_eq, mB_eq, mVar0, mNil_eq, e.len, mSub_int, div2, hm, andS_val]
    rfl
  have s2 : mWhile fuel_index_of iT iB [some (.ref p), some (q2 x), some (.int 0), some (.int ((m : Nat) : Int)), none] h = .nx [some (.ref p), some (q2 x), some (.int (k : Nat)), some (.int (k : Nat)), o'] h := by
    have fu : fuel_index_of [some (.ref p), some (q2 x), some (.int 0), some (.int ((m : Nat) : Int)), none] h = m + 1 := by
      show ((((m : Nat) : Int) - 0).toNat + 1) = m + 1
      omega
    unfold mWhile
    rw [fu]
    exact w1
  obtain ⟨y, t, ey, fy, _⟩ := wf.ev (2 * k) (by omega) k1
  have m64 : mMul (.int 2) (.int ((k : Nat) : Int)) h = .val (.int (2 * ((k : Nat) : Int))) h := mul64 (by decide) (by omega)
  have ix : mIx (.ref p) (.int (2 * ((k : Nat) : Int))) h = .val (pW (.at y t)) h := e.ixI (i := 2 * k) (by omega) ey
  have c1 : mEq false (q2 y) (q2 x) h = .val (.bl (decide (y = x))) h := by rw [cmp_q]; rfl
  have fin : m_index_of [.ref p, q2 x] h = .val (.int (if y = x then 2 * ((k : Nat) : Int) else 2 * ((k : Nat) : Int) + 1)) h := by
    unfold m_index_of
    rw [mDef_eq, st, mSeq_eq, s1, thenS_nx, mSeq_eq, s2, thenS_nx, mRet_eq]
    by_cases cy : y = x
    · simp only [mIf_eq, mT_eq, m2_eq, mVar0, mVarS, bind_val, mC_eq, m64, ix, ixA1, c1, decide_eq_true cy, asB_bl, if_true, andS_val, endS_rt, if_pos cy]
    · simp only [mIf_eq, mT_eq, m2_eq, mVar0, mVarS, bind_val, mC_eq, m64, ix, ixA1, c1, decide_eq_false cy, asB_bl, Bool.false_eq_true, if_false, mAdd_int, andS_val, endS_rt, if_neg cy]
  by_cases cy : y = x
  · subst cy
    rw [if_pos rfl] at fin
    refine ⟨2 * k, _, ?_, ey, rfl⟩
    rw [fin]
    rfl
  · rw [if_neg cy] at fin
    have ltx : Lt y x := by
      rcases Lt.tri fy fx with z | z | z
      · exact z
      · exact absurd z cy
      · exact absurd z (k2 y t ey)
    have hlen : 2 * k + 1 < R.length := by
      refine Nat.lt_of_not_le fun z => ?_
      have e1 : R.length - 1 = 2 * k := by omega
      exact le y t (by rw [e1]; exact ey) ltx
    obtain ⟨x', t', y', l', b1, b2, b3, b4, b5, b6, b7⟩ := wf.od (2 * k + 1) (by omega) hlen
    have b1' : R[2 * k]? = some (.at x' t') := b1
    rw [ey] at b1'
    cases b1'
    refine ⟨2 * k + 1, _, by rw [fin]; rfl, b2, ltx, fun b' hb => ?_⟩
    have h3 : 2 * k + 1 + 1 < R.length := by
      refine Nat.lt_of_not_le fun z => ?_
      have := b7 (by omega)
      rw [hb] at this
      cases this
    obtain ⟨y2, t2, e2, e3⟩ := b6 h3
    rw [hb] at e2
    cases e2
    have e4 : 2 * (k + 1) = 2 * k + 1 + 1 := by omega
    exact k3 _ t2 (by rw [e4]; exact e3)
end SHP
end
section
namespace SHP
open PySem L2 VL
theorem wf_at {R : List Pc} (wf : Wf R) {i : Nat} {y : QQ} {t : Option QQ} (e : R[i]? = some (.at y t)) : i % 2 = 0 ∧ Fq y ∧ FqO t := by
  have l := lt_of_get e
  rcases Nat.mod_two_eq_zero_or_one i with h | h
  · obtain ⟨x', t', a, b, c⟩ := wf.ev i h l
    rw [e] at a
    cases a
    exact ⟨h, b, c⟩
  · obtain ⟨x, t, y, l, _, a2, _⟩ := wf.od i h l
    rw [e] at a2
    cases a2
theorem wf_bt {R : List Pc} (wf : Wf R) {i : Nat} {a : QQ} {b l : Option QQ} (e : R[i]? = some (.bt a b l)) : i % 2 = 1 ∧ Fq a ∧ FqO b ∧ LnO l ∧ (∀ b', b = some b' → Lt a b') ∧ (∃ t, R[i - 1]? = some (.at a t)) ∧ (i + 1 < R.length → ∃ y' t', b = some y' ∧ R[i + 1]? = some (.at y' t')) ∧ (i + 1 = R.length → b = none) := by
  have hl := lt_of_get e
  rcases Nat.mod_two_eq_zero_or_one i with h | h
  · obtain ⟨x', t', a, b, c⟩ := wf.ev i h hl
    rw [e] at a
    cases a
  · obtain ⟨x, t, y, l', a1, a2, a3, a4, a5, a6, a7⟩ := wf.od i h hl
    rw [e] at a2
    cases a2
    obtain ⟨x', t', b1, b2, _⟩ := wf.ev (i - 1) (by omega) (by omega)
    rw [a1] at b1
    cases b1
    exact ⟨h, b2, a3, a4, a5, ⟨_, a1⟩, a6, a7⟩
/-- the pieces that end at x or have it in them; that begin at x or have it in them -/
def InL : Pc → QQ → Prop
  | .at _ _, _ => False
  | .bt a b _, x => Lt a x ∧ ∀ b', b = some b' → ¬ Lt b' x
def InR : Pc → QQ → Prop
  | .at _ _, _ => False
  | .bt a b _, x => ¬ Lt x a ∧ ∀ b', b = some b' → Lt x b'
def ln : Pc → Option QQ
  | .at _ _ => none
  | .bt _ _ l => l
theorem mod2n {i : Nat} {h : Hv} : mMod (.int (i : Int)) (.int 2) h = .val (.int ((i : Int).fmod 2)) h := mod2
section
variable {h : Hv} {p : Nat} {R : List Pc} {x : QQ}
theorem time_ok (e : LP h p R) (wf : Wf R) (fx : Fq x) (hs : R.length ≤ 1000) (ge : Ge R x) (le : Le R x) : ∃ c, c ∈ R ∧ In c x ∧ m_time_at [.ref p, q2 x] h = .val (qo (tm c x)) h := by
  obtain ⟨i, c, i1, i2, i3⟩ := idx_ok e wf fx hs ge le
  refine ⟨c, List.mem_of_getElem? i2, i3, ?_⟩
  have j := e.ix i2
  have st : startW ["pieces", "x", "piece"] [.ref p, q2 x] = [some (.ref p), some (q2 x), none] := rfl
  unfold m_time_at
  rw [mDef_eq, st]
  cases c with
  | «at» y t =>
    simp only [mSeq_eq, mSet_eq, m2_eq, mCall_eq, mCons_eq, mVar0, mVarS, bind_val, mNil_eq, List.length_cons, List.length_nil, Nat.zero_add, Nat.reduceAdd, if_true, i1, j, andS_val, thenS_nx, List.set, mRet_eq, mIf_eq, mT_eq, ixA0, mC_eq, eq_at, asB_bl, ixA2, endS_rt, tm]
  | bt a b l =>
    have ll := (wf_bt wf i2).2.2.2.1
    have v := von_eq (h := h) (l := l) fx ll
    simp only [mSeq_eq, mSet_eq, m2_eq, mCall_eq, mCons_eq, mVar0, mVarS, bind_val, mNil_eq, List.length_cons, List.length_nil, Nat.zero_add, Nat.reduceAdd, if_true, i1, j, andS_val, thenS_nx, List.set, mRet_eq, mIf_eq, mT_eq, ixB0, mC_eq, eq_ba, asB_bl, Bool.false_eq_true, if_false, ixB3, v, endS_rt, tm]
theorem before_ok (e : LP h p R) (wf : Wf R) (fx : Fq x) (hs : R.length ≤ 1000) (ge : Ge R x) (le : Le R x) (nl : ∀ t, R[0]? ≠ some (.at x t)) : ∃ c, c ∈ R ∧ InL c x ∧ LnO (ln c) ∧ m_line_before [.ref p, q2 x] h = .val (qo (ln c)) h := by
  obtain ⟨i, c, i1, i2, i3⟩ := idx_ok e wf fx hs ge le
  have j := e.ix i2
  have st : startW ["pieces", "x", "index"] [.ref p, q2 x] = [some (.ref p), some (q2 x), none] := rfl
  cases c with
  | «at» y t =>
    have exy : x = y := i3
    subst exy
    obtain ⟨ev, _⟩ := wf_at wf i2
    have ip : 0 < i := by
      rcases (Nat.eq_zero_or_pos i) with z | z
      · rw [z] at i2
        exact absurd i2 (nl t)
      · exact z
    obtain ⟨a, t', b, l, b1, b2, b3, b4, b5, b6, b7⟩ := wf.od (i - 1) (by omega) (by have := lt_of_get i2; omega)
    have ei : i - 1 + 1 = i := by omega
    rw [ei] at b6
    obtain ⟨y', t2, rfl, b8⟩ := b6 (lt_of_get i2)
    rw [i2] at b8
    cases b8
    refine ⟨_, List.mem_of_getElem? b2, ⟨b5 _ rfl, fun b' hb => by cases hb; exact Lt.irrefl _⟩, b4, ?_⟩
    have j2 : mIx (.ref p) (.int ((i : Int) - 1)) h = .val (pW (.bt a (some x) l)) h := e.ixI (i := i - 1) (by omega) b2
    unfold m_line_before
    rw [mDef_eq, st]
    simp only [mSeq_eq, mSet_eq, mCall_eq, mCons_eq, mVar0, mVarS, bind_val, mNil_eq, List.length_cons, List.length_nil, Nat.zero_add, Nat.reduceAdd, if_true, i1, andS_val, thenS_nx, List.set, mRet_eq, mIf_eq, mT_eq, m2_eq, mC_eq, mod2n, fmod2_even ev, eq_int, decide_true, asB_bl, mSub_int, j2, ixB3, endS_rt, ln]
  | bt a b l =>
    obtain ⟨od, _, _, ll, _⟩ := wf_bt wf i2
    refine ⟨_, List.mem_of_getElem? i2, ⟨i3.1, fun b' hb z => ?_⟩, ll, ?_⟩
    · have := i3.2 b' hb
      unfold Lt at *
      omega
    · unfold m_line_before
      rw [mDef_eq, st]
      simp only [mSeq_eq, mSet_eq, mCall_eq, mCons_eq, mVar0, mVarS, bind_val, mNil_eq, List.length_cons, List.length_nil, Nat.zero_add, Nat.reduceAdd, if_true, i1, andS_val, thenS_nx, List.set, mRet_eq, mIf_eq, mT_eq, m2_eq, mC_eq, mod2n, fmod2_odd od, eq_int, show decide ((1 : Int) = 0) = false from rfl, asB_bl, Bool.false_eq_true, if_false, j, ixB3, endS_rt, ln]
theorem after_ok (e : LP h p R) (wf : Wf R) (fx : Fq x) (hs : R.length ≤ 1000) (ge : Ge R x) (le : Le R x) (nh : ∀ t, R[R.length - 1]? ≠ some (.at x t)) : ∃ c, c ∈ R ∧ InR c x ∧ LnO (ln c) ∧ m_line_after [.ref p, q2 x] h = .val (qo (ln c)) h := by
  obtain ⟨i, c, i1, i2, i3⟩ := idx_ok e wf fx hs ge le
  have j := e.ix i2
  have st : startW ["pieces", "x", "index"] [.ref p, q2 x] = [some (.ref p), some (q2 x), none] := rfl
  cases c with
  | «at» y t =>
    have exy : x = y := i3
    subst exy
    obtain ⟨ev, _⟩ := wf_at wf i2
    have hl := lt_of_get i2
    have ip : i + 1 < R.length := by
      refine Nat.lt_of_not_le fun z => ?_
      have ei : R.length - 1 = i := by omega
      exact nh t (by rw [ei]; exact i2)
    obtain ⟨a, t', b, l, b1, b2, b3, b4, b5, b6, b7⟩ := wf.od (i + 1) (by omega) ip
    have b1' : R[i]? = some (.at a t') := b1
    rw [i2] at b1'
    cases b1'
    refine ⟨_, List.mem_of_getElem? b2, ⟨Lt.irrefl _, b5⟩, b4, ?_⟩
    have j2 : mIx (.ref p) (.int ((i : Int) + 1)) h = .val (pW (.bt x b l)) h := e.ixI (i := i + 1) (by omega) b2
    unfold m_line_after
    rw [mDef_eq, st]
    simp only [mSeq_eq, mSet_eq, mCall_eq, mCons_eq, mVar0, mVarS, bind_val, mNil_eq, List.length_cons, List.length_nil, Nat.zero_add, Nat.reduceAdd, if_true, i1, andS_val, thenS_nx, List.set, mRet_eq, mIf_eq, mT_eq, m2_eq, mC_eq, mod2n, fmod2_even ev, eq_int, decide_true, asB_bl, mAdd_int, j2, ixB3, endS_rt, ln]
  | bt a b l =>
    obtain ⟨od, _, _, ll, _⟩ := wf_bt wf i2
    refine ⟨_, List.mem_of_getElem? i2, ⟨fun z => ?_, i3.2⟩, ll, ?_⟩
    · have := i3.1
      unfold Lt at *
      omega
    · unfold m_line_after
      rw [mDef_eq, st]
      simp only [mSeq_eq, mSet_eq, mCall_eq, mCons_eq, mVar0, mVarS, bind_val, mNil_eq, List.length_cons, List.length_nil, Nat.zero_add, Nat.reduceAdd, if_true, i1, andS_val, thenS_nx, List.set, mRet_eq, mIf_eq, mT_eq, m2_eq, mC_eq, mod2n, fmod2_odd od, eq_int, show decide ((1 : Int) = 0) = false from rfl, asB_bl, Bool.false_eq_true, if_false, j, ixB3, endS_rt, ln]
end
/-! ### the methods -/
theorem sg_neg {x y : QQ} (fx : Fq x) (fy : Fq y) : decide (sg (x.1 * y.2 - y.1 * x.2) < 0) = decide (Lt x y) := by
  rcases sg_tri fx fy with ⟨a, b⟩ | ⟨a, b⟩ | ⟨a, b⟩
  · rw [b]; simp [a]
  · rw [b]
    subst a
    have := Lt.irrefl x
    simp [this]
  · rw [b]
    have : ¬ Lt x y := by unfold Lt at *; omega
    simp [this]
theorem sg_gt {x y : QQ} (fx : Fq x) (fy : Fq y) : decide (0 < sg (x.1 * y.2 - y.1 * x.2)) = decide (Lt y x) := by
  rcases sg_tri fx fy with ⟨a, b⟩ | ⟨a, b⟩ | ⟨a, b⟩
  · rw [b]
    have : ¬ Lt y x := by unfold Lt at *; omega
    simp [this]
  · rw [b]
    subst a
    have := Lt.irrefl x
    simp [this]
  · rw [b]; simp [a]
section
variable {h : Hv} {q q' : Nat} {R : List Pc} {x : QQ}
abbrev i1S : MS := (mIfS (mOrT (mNotT (mT (mCall 1 m_is_slowness (mCons (mVar 1) mNil)))) (mT (m2 mLt (mCall 2 m_order_of (mCons (mVar 1) (mCons (mProp "S" m_Shape_low (mVar 0)) mNil))) (mC (.int 0))))) (mRaise "b" "value" (mCons (mVar 1) mNil)) mNext)
abbrev i2S : MS := (mIfS (mAndT (mT (m2 (mIs true) (mProp "S" m_Shape_high (mVar 0)) (mC .non))) (mT (m2 mGt (mCall 2 m_order_of (mCons (mVar 1) (mCons (mProp "S" m_Shape_high (mVar 0)) mNil))) (mC (.int 0))))) (mRaise "b" "value" (mCons (mVar 1) mNil)) mNext)
theorem i1_of (s : Sh h q q' R) (wf : Wf R) (fx : Fq x) {y : QQ} {t : Option QQ} (hy : R[0]? = some (.at y t)) :
    i1S [some (.ref q), some (q2 x)] h = if 0 ≤ x.1 ∧ ¬ Lt x y then .nx [some (.ref q), some (q2 x)] h else .exc "b" (some h.length) [some (.ref q), some (q2 x)] (h ++ [.xd [("value", q2 x)]]) := by
  obtain ⟨_, fy, _⟩ := wf_at wf hy
  have lo := low_ok s hy
  have od := order_eq (h := h) fx fy
  have sl := slow_ok (h := h) fx
  have tst : (mOrT (mNotT (mT (mCall 1 m_is_slowness (mCons (mVar 1) mNil)))) (mT (m2 mLt (mCall 2 m_order_of (mCons (mVar 1) (mCons (mProp "S" m_Shape_low (mVar 0)) mNil))) (mC (.int 0))))) [some (.ref q), some (q2 x)] h = .val (decide (¬ (0 ≤ x.1 ∧ ¬ Lt x y))) h := by
    by_cases c0 : 0 ≤ x.1
    · simp only [mOrT_eq, mNotT_eq, mT_eq, mCall_eq, mCons_eq, mVar0, mVarS, bind_val, mNil_eq, List.length_cons, List.length_nil, Nat.zero_add, Nat.reduceAdd, if_true, sl, decide_eq_true c0, asB_bl, Bool.not_true, Bool.false_eq_true, if_false, m2_eq, mProp, lo, od, mC_eq, mLt_int, sg_neg fx fy]
      by_cases c1 : Lt x y <;> simp [c0, c1]
    · simp only [mOrT_eq, mNotT_eq, mT_eq, mCall_eq, mCons_eq, mVar0, mVarS, bind_val, mNil_eq, List.length_cons, List.length_nil, Nat.zero_add, Nat.reduceAdd, if_true, sl, decide_eq_false c0, asB_bl, Bool.not_false]
      simp [c0]
  unfold i1S
  rw [mIfS_eq, tst, andS_val]
  by_cases c : 0 ≤ x.1 ∧ ¬ Lt x y
  · rw [if_pos c, decide_eq_false (fun z => z c)]
    rfl
  · rw [if_neg c, decide_eq_true c]
    rfl
theorem i2_of (s : Sh h q q' R) (wf : Wf R) (fx : Fq x) {c : Pc} (hc : R[R.length - 1]? = some c) :
    i2S [some (.ref q), some (q2 x)] h = if ∀ y, hi c = some y → ¬ Lt y x then .nx [some (.ref q), some (q2 x)] h else .exc "b" (some h.length) [some (.ref q), some (q2 x)] (h ++ [.xd [("value", q2 x)]]) := by
  have hg := high_ok s hc
  cases c with
  | bt a b l =>
    rw [if_pos (fun y z => by cases z)]
    unfold i2S
    simp only [mIfS_eq, mAndT_eq, mT_eq, m2_eq, mProp, mVar0, bind_val, hg, mC_eq, hi, qo_none, is_non, if_true, Bool.not_true, decide_true, asB_bl, Bool.false_eq_true, if_false, andS_val, mNext_eq]
  | «at» y t =>
    obtain ⟨_, fy, _⟩ := wf_at wf hc
    have od := order_eq (h := h) fx fy
    have tst : (mAndT (mT (m2 (mIs true) (mProp "S" m_Shape_high (mVar 0)) (mC .non))) (mT (m2 mGt (mCall 2 m_order_of (mCons (mVar 1) (mCons (mProp "S" m_Shape_high (mVar 0)) mNil))) (mC (.int 0))))) [some (.ref q), some (q2 x)] h = .val (decide (Lt y x)) h := by
      have hg' : mPropO "S" m_Shape_high (.ref q) h = .val (q2 y) h := hg
      have nn : mIs true (q2 y) .non h = .val (.bl true) h := by simp
      simp only [mAndT_eq, mT_eq, m2_eq, mProp, mVar0, mVarS, bind_val, hg', mC_eq, nn, asB_bl, if_true, mCall_eq, mCons_eq, mNil_eq, List.length_cons, List.length_nil, Nat.zero_add, Nat.reduceAdd, od, mGt_int, sg_gt fx fy]
    unfold i2S
    rw [mIfS_eq, tst, andS_val]
    by_cases cl : Lt y x
    · rw [if_neg (show ¬ (∀ y', hi (Pc.at y t) = some y' → ¬ Lt y' x) from fun z => z y rfl cl), decide_eq_true cl]
      rfl
    · rw [if_pos (show ∀ y', hi (Pc.at y t) = some y' → ¬ Lt y' x from fun y' z => by cases z; exact cl), decide_eq_false cl]
      rfl
theorem inside_eq (g1 : ResS) (g2 : ResS) (e1 : i1S [some (.ref q), some (q2 x)] h = g1) : m_Shape_require_inside [.ref q, q2 x] h = endS (thenS g1 i2S) := by
  have st : startW ["self", "x"] [.ref q, q2 x] = [some (.ref q), some (q2 x)] := rfl
  unfold i1S at e1
  unfold m_Shape_require_inside
  rw [mDef_eq, st, mSeq_eq, e1]
/-- x is in the range -/
structure Rg (R : List Pc) (x : QQ) : Prop where
  fx : Fq x
  nn : 0 ≤ x.1
  ge : Ge R x
  le : Le R x
theorem inside_ok (s : Sh h q q' R) (wf : Wf R) (r : Rg R x) : m_Shape_require_inside [.ref q, q2 x] h = .val .non h := by
  obtain ⟨y, t, hy, _⟩ := wf.first
  have n0 := wf.ne
  obtain ⟨c, hc⟩ : ∃ c, R[R.length - 1]? = some c := ⟨_, List.getElem?_eq_getElem (by omega)⟩
  have a := i1_of s wf r.fx hy
  rw [if_pos ⟨r.nn, r.ge y t hy⟩] at a
  have b := i2_of s wf r.fx hc
  rw [if_pos (fun y z => by
    cases c with
    | «at» y' t' =>
      cases z
      exact r.le _ _ hc
    | bt _ _ _ => cases z)] at b
  rw [inside_eq _ (.nx [] h) a, thenS_nx, b]
  rfl
theorem inside_no (s : Sh h q q' R) (wf : Wf R) (fx : Fq x) (n : ¬ Rg R x) : m_Shape_require_inside [.ref q, q2 x] h = .exc "b" (some h.length) (h ++ [.xd [("value", q2 x)]]) := by
  obtain ⟨y, t, hy, _⟩ := wf.first
  have n0 := wf.ne
  obtain ⟨c, hc⟩ : ∃ c, R[R.length - 1]? = some c := ⟨_, List.getElem?_eq_getElem (by omega)⟩
  have a := i1_of s wf fx hy
  by_cases c1 : 0 ≤ x.1 ∧ ¬ Lt x y
  · rw [if_pos c1] at a
    have b := i2_of s wf fx hc
    rw [if_neg (fun z => n ⟨fx, c1.1, fun y' t' h' => by rw [hy] at h'; cases h'; exact c1.2, fun y' t' h' => by
      rw [hc] at h'
      cases h'
      exact z _ rfl⟩)] at b
    rw [inside_eq _ (.nx [] h) a, thenS_nx, b]
    rfl
  · rw [if_neg c1] at a
    rw [inside_eq _ (.nx [] h) a]
    rfl
/-- what is no slowness at all -/
theorem inside_odd {w : W} (hw : m_is_slowness [w] h = .val (.bl false) h) : m_Shape_require_inside [.ref q, w] h = .exc "b" (some h.length) (h ++ [.xd [("value", w)]]) := by
  have st : startW ["self", "x"] [.ref q, w] = [some (.ref q), some w] := rfl
  have a : i1S [some (.ref q), some w] h = .exc "b" (some h.length) [some (.ref q), some w] (h ++ [.xd [("value", w)]]) := by
    unfold i1S
    simp only [mIfS_eq, mOrT_eq, mNotT_eq, mT_eq, mCall_eq, mCons_eq, mVar0, mVarS, bind_val, mNil_eq, List.length_cons, List.length_nil, Nat.zero_add, if_true, hw, asB_bl, Bool.not_false, andS_val, mRaise]
  unfold m_Shape_require_inside
  rw [mDef_eq, st, mSeq_eq]
  unfold i1S at a
  rw [a]
  rfl
theorem lk_req {w : W} : List.lookup ("require_inside" : Str) [(("rows" : Str), w)] = none := by
  have : (("require_inside" : Str) == ("rows" : Str)) = false := by decide +kernel
  rw [List.lookup_cons, this]
  rfl
theorem reqM {w : W} (s : Sh h q q' R) : (mMeth "S" "require_inside" 1 m_Shape_require_inside (mVar 0) (mCons (mVar 1) mNil)) [some (.ref q), some w] h = m_Shape_require_inside [.ref q, w] h := by
  unfold mMeth
  rw [mVar0, bind_val]
  simp only [mMethO, s.1, lk_req, and_self, if_true, mCons_eq, mVar0, mVarS, bind_val, mNil_eq, List.length_cons, List.length_nil, Nat.zero_add]
theorem call_ok (s : Sh h q q' R) (wf : Wf R) (r : Rg R x) (hs : R.length ≤ 1000) : ∃ c, c ∈ R ∧ In c x ∧ m_Shape_call [.ref q, q2 x] h = .val (qo (tm c x)) h := by
  obtain ⟨c, c1, c2, c3⟩ := time_ok s.2 wf r.fx hs r.ge r.le
  refine ⟨c, c1, c2, ?_⟩
  have st : startW ["self", "x"] [.ref q, q2 x] = [some (.ref q), some (q2 x)] := rfl
  have a := (reqM (w := q2 x) s).trans (inside_ok s wf r)
  unfold m_Shape_call
  rw [mDef_eq, st, mSeq_eq, mExpr_eq, a, andS_val, thenS_nx, mRet_eq, mCall_eq, mCons_eq]
  simp only [mFld, mVar0, mVarS, bind_val, fld_ok s, mCons_eq, mNil_eq, List.length_cons, List.length_nil, Nat.zero_add, Nat.reduceAdd, if_true, c3, andS_val, endS_rt]
theorem no_of {m : MFn} {rest : MS} {w : W} (hm : m = mDef ["self", "x"] (mSeq (mExpr (mMeth "S" "require_inside" 1 m_Shape_require_inside (mVar 0) (mCons (mVar 1) mNil))) rest)) (s : Sh h q q' R) (n : m_Shape_require_inside [.ref q, w] h = .exc "b" (some h.length) (h ++ [.xd [("value", w)]])) :
    m [.ref q, w] h = .exc "b" (some h.length) (h ++ [.xd [("value", w)]]) := by
  have st : startW ["self", "x"] [.ref q, w] = [some (.ref q), some w] := rfl
  rw [hm, mDef_eq, st, mSeq_eq, mExpr_eq, reqM s, n]
  rfl
theorem call_no {w : W} (s : Sh h q q' R) (n : m_Shape_require_inside [.ref q, w] h = .exc "b" (some h.length) (h ++ [.xd [("value", w)]])) : m_Shape_call [.ref q, w] h = .exc "b" (some h.length) (h ++ [.xd [("value", w)]]) := no_of rfl s n
theorem bef_no {w : W} (s : Sh h q q' R) (n : m_Shape_require_inside [.ref q, w] h = .exc "b" (some h.length) (h ++ [.xd [("value", w)]])) : m_Shape_before [.ref q, w] h = .exc "b" (some h.length) (h ++ [.xd [("value", w)]]) := no_of rfl s n
theorem aft_no {w : W} (s : Sh h q q' R) (n : m_Shape_require_inside [.ref q, w] h = .exc "b" (some h.length) (h ++ [.xd [("value", w)]])) : m_Shape_after [.ref q, w] h = .exc "b" (some h.length) (h ++ [.xd [("value", w)]]) := no_of rfl s n
theorem bef_eq (s : Sh h q q' R) (wf : Wf R) (r : Rg R x) (hs : R.length ≤ 1000) :
    ((∃ t, R[0]? = some (.at x t)) ∧ m_Shape_before [.ref q, q2 x] h = .exc "b" (some h.length) (h ++ [.xd [("value", q2 x)]])) ∨ ((∀ t, R[0]? ≠ some (.at x t)) ∧ ∃ c, c ∈ R ∧ InL c x ∧ m_Shape_before [.ref q, q2 x] h = .val (qo (vl (ln c) x)) h) := by
  obtain ⟨y, t, hy, _⟩ := wf.first
  have lo := low_ok s hy
  have a := (reqM (w := q2 x) s).trans (inside_ok s wf r)
  have st : startW ["self", "x"] [.ref q, q2 x] = [some (.ref q), some (q2 x)] := rfl
  have c1 : mEq false (q2 x) (q2 y) h = .val (.bl (decide (x = y))) h := by rw [cmp_q]; rfl
  by_cases c : x = y
  · subst c
    refine .inl ⟨⟨t, hy⟩, ?_⟩
    unfold m_Shape_before
    rw [mDef_eq, st, mSeq_eq, mExpr_eq, a, andS_val, thenS_nx, mSeq_eq]
    simp only [mIfS_eq, mT_eq, m2_eq, mVar0, mVarS, bind_val, mProp, lo, c1, decide_true, asB_bl, andS_val, if_true, mRaise, mCons_eq, mNil_eq, thenS_exc, endS_exc]
  · have nl : ∀ t, R[0]? ≠ some (.at x t) := fun t' z => by
      rw [hy] at z
      cases z
      exact c rfl
    obtain ⟨cc, d1, d2, d3, d4⟩ := before_ok s.2 wf r.fx hs r.ge r.le nl
    refine .inr ⟨nl, cc, d1, d2, ?_⟩
    have v := von_eq (h := h) r.fx d3
    unfold m_Shape_before
    rw [mDef_eq, st, mSeq_eq, mExpr_eq, a, andS_val, thenS_nx, mSeq_eq]
    simp only [mIfS_eq, mT_eq, m2_eq, mVar0, mVarS, bind_val, mProp, lo, c1, decide_eq_false c, asB_bl, andS_val, Bool.false_eq_true, if_false, mNext_eq, thenS_nx, mRet_eq, mCall_eq, mCons_eq, mFld, fld_ok s, mNil_eq, List.length_cons, List.length_nil, Nat.zero_add, Nat.reduceAdd, if_true, d4, v, endS_rt]
theorem aft_eq (s : Sh h q q' R) (wf : Wf R) (r : Rg R x) (hs : R.length ≤ 1000) :
    ((∃ t, R[R.length - 1]? = some (.at x t)) ∧ m_Shape_after [.ref q, q2 x] h = .exc "b" (some h.length) (h ++ [.xd [("value", q2 x)]])) ∨ ((∀ t, R[R.length - 1]? ≠ some (.at x t)) ∧ ∃ c, c ∈ R ∧ InR c x ∧ m_Shape_after [.ref q, q2 x] h = .val (qo (vl (ln c) x)) h) := by
  have n0 := wf.ne
  obtain ⟨c0, hc⟩ : ∃ c, R[R.length - 1]? = some c := ⟨_, List.getElem?_eq_getElem (by omega)⟩
  have hg := high_ok s hc
  have a := (reqM (w := q2 x) s).trans (inside_ok s wf r)
  have st : startW ["self", "x"] [.ref q, q2 x] = [some (.ref q), some (q2 x)] := rfl
  have c1 : mEq false (q2 x) (qo (hi c0)) h = .val (.bl (decide (some x = hi c0))) h := by
    have z := cmp_o (h := h) (o := some x) (u := hi c0) (neg := false)
    simpa using z
  by_cases c : some x = hi c0
  · have ec : ∃ t, c0 = .at x t := by
      cases c0 with
      | «at» y t => cases c; exact ⟨t, rfl⟩
      | bt _ _ _ => cases c
    obtain ⟨t, rfl⟩ := ec
    refine .inl ⟨⟨t, hc⟩, ?_⟩
    unfold m_Shape_after
    rw [mDef_eq, st, mSeq_eq, mExpr_eq, a, andS_val, thenS_nx, mSeq_eq]
    simp only [mIfS_eq, mT_eq, m2_eq, mVar0, mVarS, bind_val, mProp, hg, c1, decide_eq_true c, asB_bl, andS_val, if_true, mRaise, mCons_eq, mNil_eq, thenS_exc, endS_exc]
  · have nh : ∀ t, R[R.length - 1]? ≠ some (.at x t) := fun t' z => by
      rw [hc] at z
      cases z
      exact c rfl
    obtain ⟨cc, d1, d2, d3, d4⟩ := after_ok s.2 wf r.fx hs r.ge r.le nh
    refine .inr ⟨nh, cc, d1, d2, ?_⟩
    have v := von_eq (h := h) r.fx d3
    unfold m_Shape_after
    rw [mDef_eq, st, mSeq_eq, mExpr_eq, a, andS_val, thenS_nx, mSeq_eq]
    simp only [mIfS_eq, mT_eq, m2_eq, mVar0, mVarS, bind_val, mProp, hg, c1, decide_eq_false c, asB_bl, andS_val, Bool.false_eq_true, if_false, mNext_eq, thenS_nx, mRet_eq, mCall_eq, mCons_eq, mFld, fld_ok s, mNil_eq, List.length_cons, List.length_nil, Nat.zero_add, Nat.reduceAdd, if_true, d4, v, endS_rt]
end
end SHP
end
section
namespace SHP
open PySem L2 VL
theorem Lt.asym {x y : QQ} (a : Lt x y) : ¬ Lt y x := by
  unfold Lt at *
  omega
/-! ### points grow -/
theorem pts_lt {R : List Pc} (wf : Wf R) : ∀ (k i : Nat) {x y : QQ} {t u : Option QQ}, R[2 * i]? = some (.at x t) → R[2 * (i + k + 1)]? = some (.at y u) → Lt x y
  | k, i, x, y, t, u, e1, e2 => by
    have l2 := lt_of_get e2
    obtain ⟨x', t', y', l, b1, b2, b3, b4, b5, b6, b7⟩ := wf.od (2 * i + 1) (by omega) (by omega)
    have b1' : R[2 * i]? = some (.at x' t') := b1
    rw [e1] at b1'
    cases b1'
    obtain ⟨z, tz, rfl, ez⟩ := b6 (by omega)
    have l1 := b5 z rfl
    match k with
    | 0 =>
      have e9 : 2 * i + 1 + 1 = 2 * (i + 0 + 1) := by omega
      rw [e9, e2] at ez
      cases ez
      exact l1
    | k + 1 =>
      have e9 : 2 * i + 1 + 1 = 2 * (i + 1) := by omega
      rw [e9] at ez
      have e8 : 2 * (i + (k + 1) + 1) = 2 * (i + 1 + k + 1) := by omega
      rw [e8] at e2
      have r := pts_lt wf k (i + 1) ez e2
      exact l1.trans (wf_at wf e1).2.1.ps (wf_at wf ez).2.1.ps (wf_at wf e2).2.1.ps r
theorem pts_lt' {R : List Pc} (wf : Wf R) {i j : Nat} (h : i < j) {x y : QQ} {t u : Option QQ} (e1 : R[2 * i]? = some (.at x t)) (e2 : R[2 * j]? = some (.at y u)) : Lt x y := by
  have e : j = i + (j - i - 1) + 1 := by omega
  rw [e] at e2
  exact pts_lt wf _ i e1 e2
/-- the point ahead of a piece and the one behind -/
theorem ends {R : List Pc} (wf : Wf R) {i : Nat} {c : Pc} (e : R[i]? = some c) : ∃ k y t, (i = 2 * k ∨ i = 2 * k + 1) ∧ R[2 * k]? = some (.at y t) ∧ (i = 2 * k → c = .at y t) ∧ (i = 2 * k + 1 → ∃ b l, c = .bt y b l ∧ ∀ z u, R[2 * (k + 1)]? = some (.at z u) → b = some z) := by
  have hl := lt_of_get e
  refine ⟨i / 2, ?_⟩
  rcases Nat.mod_two_eq_zero_or_one i with h | h
  · obtain ⟨y, t, a, b, d⟩ := wf.ev i h hl
    have ei : 2 * (i / 2) = i := by omega
    rw [ei]
    refine ⟨y, t, .inl rfl, a, fun _ => ?_, fun z => by omega⟩
    rw [e] at a
    cases a
    rfl
  · obtain ⟨x, t, y, l, a1, a2, a3, a4, a5, a6, a7⟩ := wf.od i h hl
    have ei : 2 * (i / 2) = i - 1 := by omega
    rw [ei]
    refine ⟨x, t, .inr (by omega), a1, fun z => by omega, fun _ => ⟨y, l, ?_, fun z u hz => ?_⟩⟩
    · rw [e] at a2
      cases a2
      rfl
    · have e9 : 2 * (i / 2 + 1) = i + 1 := by omega
      rw [e9] at hz
      obtain ⟨y', t', h1, h2⟩ := a6 (lt_of_get hz)
      rw [hz] at h2
      cases h2
      exact h1
theorem nlt_trans {x y z : QQ} (hx : 0 < x.2) (hy : 0 < y.2) (hz : 0 < z.2) (a : ¬ Lt x y) (b : ¬ Lt y z) : ¬ Lt x z := fun c => by
  by_cases q : Lt y x
  · exact b (q.trans hy hx hz c)
  · have e : x.1 * y.2 = y.1 * x.2 := by unfold Lt at a q; omega
    apply b
    unfold Lt at c ⊢
    have h1 : (x.1 * z.2 - z.1 * x.2) * y.2 < 0 := Int.mul_neg_of_neg_of_pos c hy
    have h2 : (y.1 * z.2 - z.1 * y.2) * x.2 = (x.1 * z.2 - z.1 * x.2) * y.2 := by
      simp only [Int.sub_mul]
      have a1 : x.1 * z.2 * y.2 = x.1 * y.2 * z.2 := by ac_rfl
      have a2 : y.1 * z.2 * x.2 = y.1 * x.2 * z.2 := by ac_rfl
      have a3 : z.1 * x.2 * y.2 = z.1 * y.2 * x.2 := by ac_rfl
      rw [a1, a2, a3, e]
    refine Int.not_le.mp fun q2 => ?_
    have := Int.mul_nonneg q2 (Int.le_of_lt hx)
    omega
section
variable {R : List Pc} {x : QQ}
/-- what lies in a piece is not ahead of its point, and ahead of the next one -/
theorem in_lo (wf : Wf R) {i : Nat} {c : Pc} (e : R[i]? = some c) (h : In c x) : ∃ k y t, (i = 2 * k ∨ i = 2 * k + 1) ∧ R[2 * k]? = some (.at y t) ∧ (i = 2 * k → x = y) ∧ (i = 2 * k + 1 → Lt y x) ∧ (∀ z u, R[2 * (k + 1)]? = some (.at z u) → Lt x z) := by
  obtain ⟨k, y, t, a1, a2, a3, a4⟩ := ends wf e
  refine ⟨k, y, t, a1, a2, fun z => ?_, fun z => ?_, fun z u hz => ?_⟩
  · have q := a3 z
    subst q
    exact h
  · obtain ⟨b, l, q, _⟩ := a4 z
    subst q
    exact h.1
  · rcases a1 with q | q
    · have q3 := a3 q
      subst q3
      have h2 : x = y := h
      rw [h2]
      exact pts_lt' wf (Nat.lt_succ_self k) a2 hz
    · obtain ⟨b, l, q4, q5⟩ := a4 q
      subst q4
      exact h.2 z (q5 z u hz)
theorem in_one (wf : Wf R) (fx : Fq x) {i j : Nat} {c d : Pc} (e : R[i]? = some c) (f : R[j]? = some d) (hc : In c x) (hd : In d x) : c = d := by
  obtain ⟨k, y, t, a1, a2, a3, a4, a5⟩ := in_lo wf e hc
  obtain ⟨m, z, u, b1, b2, b3, b4, b5⟩ := in_lo wf f hd
  have fy := (wf_at wf a2).2.1
  have fz := (wf_at wf b2).2.1
  have key : ∀ {i' j' : Nat} {y' z' : QQ} {t' u' : Option QQ}, i' < j' → R[2 * i']? = some (.at y' t') → R[2 * j']? = some (.at z' u') → (∀ w v, R[2 * (i' + 1)]? = some (.at w v) → Lt x w) → ¬ Lt x z' → False := fun {i' j' y' z' t' u'} hlt h1 h2 h3 h4 => by
    by_cases hj : j' = i' + 1
    · subst hj
      exact h4 (h3 _ _ h2)
    · obtain ⟨w, v, ew, fw, _⟩ := wf.ev (2 * (i' + 1)) (by omega) (by have := lt_of_get h2; omega)
      have l1 := h3 _ _ ew
      have l2 := pts_lt' wf (show i' + 1 < j' by omega) ew h2
      exact h4 (l1.trans fx.ps fw.ps (wf_at wf h2).2.1.ps l2)
  have nx : ¬ Lt x y := by
    rcases a1 with q | q
    · rw [a3 q]; exact Lt.irrefl _
    · exact (a4 q).asym
  have nz : ¬ Lt x z := by
    rcases b1 with q | q
    · rw [b3 q]; exact Lt.irrefl _
    · exact (b4 q).asym
  have ekm : k = m := by
    rcases Nat.lt_trichotomy k m with q | q | q
    · exact (key q a2 b2 a5 nz).elim
    · exact q
    · exact (key q b2 a2 b5 nx).elim
  subst ekm
  rw [a2] at b2
  cases b2
  have eij : i = j := by
    rcases a1 with q | q <;> rcases b1 with q2 | q2
    · omega
    · have h1 := a3 q
      have h2 := b4 q2
      rw [h1] at h2
      exact (Lt.irrefl _ h2).elim
    · have h1 := b3 q2
      have h2 := a4 q
      rw [h1] at h2
      exact (Lt.irrefl _ h2).elim
    · omega
  subst eij
  rw [e] at f
  exact Option.some.inj f
theorem mem_ix {c : Pc} (h : c ∈ R) : ∃ i : Nat, R[i]? = some c := by
  obtain ⟨i, hi, e⟩ := List.getElem_of_mem h
  exact ⟨i, by rw [List.getElem?_eq_getElem hi, e]⟩
theorem tm_one (wf : Wf R) (fx : Fq x) {c d : Pc} (hc : c ∈ R) (hd : d ∈ R) (ic : In c x) (id : In d x) : c = d := by
  obtain ⟨i, e⟩ := mem_ix hc
  obtain ⟨j, f⟩ := mem_ix hd
  exact in_one wf fx e f ic id
/-- open pieces by their sides -/
theorem bt_ends (wf : Wf R) {i : Nat} {a : QQ} {b l : Option QQ} (e : R[i]? = some (.bt a b l)) : ∃ k t, i = 2 * k + 1 ∧ R[2 * k]? = some (.at a t) ∧ (∀ z u, R[2 * (k + 1)]? = some (.at z u) → b = some z) := by
  obtain ⟨k, y, t, a1, a2, a3, a4⟩ := ends wf e
  rcases a1 with q | q
  · have := a3 q
    cases this
  · obtain ⟨b', l', q4, q5⟩ := a4 q
    cases q4
    exact ⟨k, t, q, a2, q5⟩
theorem side_one (wf : Wf R) (fx : Fq x) {φ : Pc → QQ → Prop} (h1 : ∀ a b l, φ (.bt a b l) x → ¬ Lt x a ∧ ∀ b', b = some b' → ¬ Lt b' x) (h2 : ∀ a b l a' b' l', φ (.bt a b l) x → φ (.bt a' b' l') x → b ≠ some a') (h0 : ∀ y t, ¬ φ (.at y t) x) {c d : Pc} (hc : c ∈ R) (hd : d ∈ R) (ic : φ c x) (id : φ d x) : c = d := by
  obtain ⟨i, e⟩ := mem_ix hc
  obtain ⟨j, f⟩ := mem_ix hd
  cases c with
  | «at» y t => exact (h0 _ _ ic).elim
  | bt a b l =>
    cases d with
    | «at» y t => exact (h0 _ _ id).elim
    | bt a' b' l' =>
      obtain ⟨k, t, k1, k2, k3⟩ := bt_ends wf e
      obtain ⟨m, u, m1, m2, m3⟩ := bt_ends wf f
      have key : ∀ {k m : Nat} {a a' : QQ} {b b' l l' t u : Option QQ}, k < m → R[2 * k]? = some (.at a t) → R[2 * m]? = some (.at a' u) → (∀ z u, R[2 * (k + 1)]? = some (.at z u) → b = some z) → φ (.bt a b l) x → φ (.bt a' b' l') x → False := fun {k m a a' b b' l l' t u} hlt e1 e2 e3 p1 p2 => by
        obtain ⟨w, v, ew, fw, _⟩ := wf.ev (2 * (k + 1)) (by omega) (by have := lt_of_get e2; omega)
        have hb := e3 _ _ ew
        by_cases hm : m = k + 1
        · subst hm
          rw [e2] at ew
          cases ew
          exact h2 _ _ _ _ _ _ p1 p2 hb
        · have l2 := pts_lt' wf (show k + 1 < m by omega) ew e2
          have n1 := (h1 _ _ _ p1).2 w hb
          have n2 := (h1 _ _ _ p2).1
          exact nlt_trans fw.ps fx.ps (wf_at wf e2).2.1.ps n1 n2 l2
      have ekm : k = m := by
        rcases Nat.lt_trichotomy k m with q | q | q
        · exact (key q k2 m2 k3 ic id).elim
        · exact q
        · exact (key q m2 k2 m3 id ic).elim
      subst ekm
      rw [k1] at e
      rw [m1, e] at f
      exact Option.some.inj f
theorem inL_one (wf : Wf R) (fx : Fq x) {c d : Pc} (hc : c ∈ R) (hd : d ∈ R) (ic : InL c x) (id : InL d x) : c = d :=
  side_one wf fx (φ := InL) (fun a b l h => ⟨h.1.asym, h.2⟩) (fun a b l a' b' l' h h' z => h.2 _ z h'.1) (fun _ _ h => h) hc hd ic id
theorem inR_one (wf : Wf R) (fx : Fq x) {c d : Pc} (hc : c ∈ R) (hd : d ∈ R) (ic : InR c x) (id : InR d x) : c = d :=
  side_one wf fx (φ := InR) (fun a b l h => ⟨h.1, fun b' hb => (h.2 b' hb).asym⟩) (fun a b l a' b' l' h h' z => h'.1 (h.2 _ z)) (fun _ _ h => h) hc hd ic id
end
/-! ### what shortening keeps -/
structure Mg (xl xp : QQ) (y l t r : Option QQ) : Prop where
  fl : Fq xl
  fp : Fq xp
  fy : FqO y
  lt : Lt xl xp
  eq : l = r
  tm : t = vl r xp
  nx : ∀ b', y = some b' → Lt xp b'
theorem step_has {R : List Pc} {c : Pc} (w : Wq R) (n : Nx R c) {φ : Pc → Prop} (hm : ∀ xl xp y l t r, Mg xl xp y l t r → (φ (.bt xl (some xp) l) ∨ φ (.at xp t) ∨ φ (.bt xp y r)) → φ (.bt xl y r)) (h : ∃ d ∈ R ++ [c], φ d) : ∃ d ∈ stepR R c, φ d := by
  obtain ⟨d, hd, pd⟩ := h
  have app : stepR R c = R ++ [c] → ∃ d ∈ stepR R c, φ d := fun e => ⟨d, by rw [e]; exact hd, pd⟩
  cases c with
  | «at» x t => exact app rfl
  | bt x y r =>
    obtain ⟨n0, n1, n2, n3, t, n4⟩ := id n
    by_cases h1 : 1 < R.length
    · obtain ⟨xl, tl, yl, l, b1, b2, b3, b4, b5, b6⟩ := w.od (R.length - 2) (by omega) (by omega)
      have i1 : R.length - 2 + 1 = R.length - 1 := by omega
      rw [i1] at b6
      obtain ⟨y', t', rfl, b7⟩ := b6 (by omega)
      rw [n4] at b7
      cases b7
      cases hn : ndl l t r x with
      | false => exact app (by simp [stepR, b2, n4, hn])
      | true =>
        have e5 : stepR R (.bt x y r) = R.take (R.length - 2) ++ [.bt xl y r] := by simp [stepR, b2, n4, hn, h1]
        obtain ⟨xa, ta, fa1, fa2, _⟩ := w.ev (R.length - 2 - 1) (by omega) (by omega)
        rw [b1] at fa1
        cases fa1
        obtain ⟨xb, tb, fb1, fb2, _⟩ := w.ev (R.length - 1) (by omega) (by omega)
        rw [n4] at fb1
        cases fb1
        have mg : Mg xl x y l t r := ⟨fa2, fb2, n1, b5 _ rfl, ndl_eq hn, ndl_t hn, n3⟩
        have new : φ (.bt xl y r) → ∃ d ∈ stepR R (.bt x y r), φ d := fun q => ⟨_, by rw [e5]; simp, q⟩
        have hR : R = R.take (R.length - 2) ++ [.bt xl (some x) l, .at x t] := by
          have e1 : R.take (R.length - 2 + 1) = R.take (R.length - 2) ++ [.bt xl (some x) l] := take_next b2
          have e2 : R.take (R.length - 1 + 1) = R.take (R.length - 1) ++ [.at x t] := take_next n4
          have e3 : R.length - 1 + 1 = R.length := by omega
          rw [e3, List.take_length, ← i1, e1] at e2
          rw [e2]
          simp
        rcases List.mem_append.mp hd with q | q
        · rw [hR] at q
          rcases List.mem_append.mp q with q | q
          · exact ⟨d, by rw [e5]; exact List.mem_append_left _ q, pd⟩
          · simp only [List.mem_cons, List.not_mem_nil, or_false] at q
            rcases q with rfl | rfl
            · exact new (hm _ _ _ _ _ _ mg (.inl pd))
            · exact new (hm _ _ _ _ _ _ mg (.inr (.inl pd)))
        · have q2 : d = .bt x y r := List.mem_singleton.mp q
          subst q2
          exact new (hm _ _ _ _ _ _ mg (.inr (.inr pd)))
    · refine app ?_
      unfold stepR
      split
      · rename_i q1 _ _
        cases q1
        rw [if_neg (fun z => h1 z.1)]
      · rfl
theorem shR_nx {P : List Pc} (wf : Wf P) {i : Nat} {c : Pc} (ec : P[i]? = some c) : Nx (shR (P.take i)) c := by
  have hi := lt_of_get ec
  obtain ⟨a1, a2, a3, a4, a5⟩ := shR_wq wf i (by omega)
  rcases Nat.mod_two_eq_zero_or_one i with h | h
  · obtain ⟨x, t, e1, f1, f2⟩ := wf.ev i h (by omega)
    rw [ec] at e1
    cases e1
    refine ⟨by omega, f1, f2, fun hp => ?_⟩
    have ip : 0 < i := by
      cases i with
      | zero => simp [shR] at hp
      | succ i => omega
    obtain ⟨x', t', y', l', w1, w2, w3, w4, w5, w6, w7⟩ := wf.od (i - 1) (by omega) (by omega)
    obtain ⟨a, b1, b2⟩ := a5 _ ip w2
    obtain ⟨xx, rfl⟩ := b2
    have i2 : i - 1 + 1 = i := by omega
    rw [i2] at w6
    obtain ⟨y2, t2, rfl, w8⟩ := w6 (by omega)
    rw [ec] at w8
    cases w8
    exact ⟨xx, l', b1⟩
  · obtain ⟨x', t', y', l', w1, w2, w3, w4, w5, w6, w7⟩ := wf.od i h (by omega)
    rw [ec] at w2
    cases w2
    obtain ⟨a, b1, b2⟩ := a5 _ (by omega) w1
    have b3 : a = .at x' t' := b2
    subst b3
    exact ⟨by omega, w3, w4, w5, t', b1⟩
theorem shR_has {P : List Pc} (wf : Wf P) {φ : Pc → Prop} (hm : ∀ xl xp y l t r, Mg xl xp y l t r → (φ (.bt xl (some xp) l) ∨ φ (.at xp t) ∨ φ (.bt xp y r)) → φ (.bt xl y r)) (h : ∃ d ∈ P, φ d) : ∃ d ∈ shR P, φ d := by
  have key : ∀ i, i ≤ P.length → (∃ d ∈ P.take i, φ d) → ∃ d ∈ shR (P.take i), φ d := by
    intro i
    induction i with
    | zero =>
      rintro _ ⟨d, hd, _⟩
      simp at hd
    | succ i ih =>
      rintro hi ⟨d, hd, pd⟩
      have ec : P[i]? = some (P[i]'(by omega)) := List.getElem?_eq_getElem (by omega)
      generalize P[i]'(by omega) = c at ec
      rw [take_next ec] at hd
      rw [shR_next ec]
      obtain ⟨a1, _⟩ := shR_wq wf i (by omega)
      refine step_has a1 (shR_nx wf ec) hm ?_
      rcases List.mem_append.mp hd with q | q
      · obtain ⟨e, he, pe⟩ := ih (by omega) ⟨d, q, pd⟩
        exact ⟨e, List.mem_append_left _ he, pe⟩
      · exact ⟨d, List.mem_append_right _ q, pd⟩
  have := key P.length (Nat.le_refl _)
  rw [List.take_length] at this
  exact this h
theorem shR_in {P : List Pc} (wf : Wf P) {x : QQ} (fx : Fq x) {v : Option QQ} (h : ∃ d ∈ P, In d x ∧ tm d x = v) : ∃ d ∈ shR P, In d x ∧ tm d x = v :=
  shR_has wf (φ := fun d => In d x ∧ tm d x = v) (fun xl xp y l t r m q => by
    have py : ∀ b', y = some b' → 0 < b'.2 := fun b' hb => by have := m.fy; rw [hb] at this; exact Fq.ps this
    rcases q with ⟨⟨q1, q2⟩, q3⟩ | ⟨q1, q3⟩ | ⟨⟨q1, q2⟩, q3⟩
    · exact ⟨⟨q1, fun b' hb => (q2 xp rfl).trans fx.ps m.fp.ps (py b' hb) (m.nx b' hb)⟩, by rw [← q3]; show vl r x = vl l x; rw [m.eq]⟩
    · have q1' : x = xp := q1
      subst q1'
      exact ⟨⟨m.lt, m.nx⟩, by rw [← q3]; exact m.tm.symm⟩
    · exact ⟨⟨m.lt.trans m.fl.ps m.fp.ps fx.ps q1, q2⟩, q3⟩) h
theorem shR_inL {P : List Pc} (wf : Wf P) {x : QQ} (fx : Fq x) {v : Option QQ} (h : ∃ d ∈ P, InL d x ∧ vl (ln d) x = v) : ∃ d ∈ shR P, InL d x ∧ vl (ln d) x = v :=
  shR_has wf (φ := fun d => InL d x ∧ vl (ln d) x = v) (fun xl xp y l t r m q => by
    have py : ∀ b', y = some b' → 0 < b'.2 := fun b' hb => by have := m.fy; rw [hb] at this; exact Fq.ps this
    rcases q with ⟨⟨q1, q2⟩, q3⟩ | ⟨q1, q3⟩ | ⟨⟨q1, q2⟩, q3⟩
    · exact ⟨⟨q1, fun b' hb z => q2 xp rfl ((m.nx b' hb).trans m.fp.ps (py b' hb) fx.ps z)⟩, by rw [← q3]; show vl r x = vl l x; rw [m.eq]⟩
    · exact q1.elim
    · exact ⟨⟨m.lt.trans m.fl.ps m.fp.ps fx.ps q1, q2⟩, q3⟩) h
theorem shR_inR {P : List Pc} (wf : Wf P) {x : QQ} (fx : Fq x) {v : Option QQ} (h : ∃ d ∈ P, InR d x ∧ vl (ln d) x = v) : ∃ d ∈ shR P, InR d x ∧ vl (ln d) x = v :=
  shR_has wf (φ := fun d => InR d x ∧ vl (ln d) x = v) (fun xl xp y l t r m q => by
    have py : ∀ b', y = some b' → 0 < b'.2 := fun b' hb => by have := m.fy; rw [hb] at this; exact Fq.ps this
    rcases q with ⟨⟨q1, q2⟩, q3⟩ | ⟨q1, q3⟩ | ⟨⟨q1, q2⟩, q3⟩
    · exact ⟨⟨q1, fun b' hb => (q2 xp rfl).trans fx.ps m.fp.ps (py b' hb) (m.nx b' hb)⟩, by rw [← q3]; show vl r x = vl l x; rw [m.eq]⟩
    · exact q1.elim
    · exact ⟨⟨fun z => q1 (z.trans fx.ps m.fl.ps m.fp.ps m.lt), q2⟩, q3⟩) h
theorem shR_rg {P : List Pc} (wf : Wf P) {x : QQ} (r : Rg P x) : Rg (shR P) x := by
  obtain ⟨wfs, _, _, a, c, hc, ha, lk⟩ := shR_wf wf
  obtain ⟨y, t, hy, _⟩ := wf.first
  refine ⟨r.fx, r.nn, fun y' t' h => ?_, fun y' t' h => ?_⟩
  · rw [shR_first hy] at h
    cases h
    exact r.ge _ _ hy
  · rw [ha] at h
    cases h
    cases c with
    | «at» z u =>
      have : Pc.at y' t' = .at z u := lk
      cases this
      exact r.le _ _ hc
    | bt z u v =>
      obtain ⟨q, hq⟩ := lk
      cases hq
theorem rg_shR {P : List Pc} (wf : Wf P) {x : QQ} (r : Rg (shR P) x) : Rg P x := by
  obtain ⟨wfs, _, _, a, c, hc, ha, lk⟩ := shR_wf wf
  obtain ⟨y, t, hy, _⟩ := wf.first
  refine ⟨r.fx, r.nn, fun y' t' h => ?_, fun y' t' h => ?_⟩
  · rw [hy] at h
    cases h
    exact r.ge _ _ (shR_first hy)
  · rw [hc] at h
    cases h
    have : a = .at y' t' := lk
    subst this
    exact r.le _ _ ha
end SHP
end
section
namespace SHP
open PySem L2 VL
/-! ### the drawn numbers -/
def IsI (w : W) : Prop := ∃ i : Int, w = .int i ∧ 0 ≤ i ∧ i < 420
theorem app_last {h : Hv} {r : Ws} {acc : List W} {w : W} {fo fe : Ws → Hv → Res W} (hl : acc.length < 100000) (e1 : fo r (h ++ [.lst acc]) = .val (.ref h.length) (h ++ [.lst acc])) (e2 : fe r (h ++ [.lst acc]) = .val w (h ++ [.lst acc])) :
    mApp fo fe r (h ++ [.lst acc]) = .val .non (h ++ [.lst (acc ++ [w])]) := by
  have s : (h ++ [O.lst acc]).set h.length (.lst (acc ++ [w])) = h ++ [.lst (acc ++ [w])] := by simp
  simp [mApp, e1, e2, hl, s]
theorem sz_at {h t : Hv} {p : Nat} {m : Nat} {i : Nat} (e : h[p]? = some (.lst (List.replicate m (.int 420)))) (hi : i < m) : mIx (.ref p) (.int (i : Int)) (h ++ t) = .val (.int 420) (h ++ t) :=
  mIx_lst (get_old e) (atI_nat (by simp [hi]))

abbrev numBody : MS := (mIfS (mAndT (mT (m2 mGe (mVar 3) (m2 mPow (mC (.int 10)) (mC (.int 18))))) (mT (m2 mGt (mVar 4) (mC (.int 0))))) (mSeq (mExpr (mApp (mVar 5) (m2 mMod (mVar 4) (m2 mIx (mVar 2) (mVar 6)))))
    (mSet 4 (m2 mDiv (mVar 4) (m2 mIx (mVar 2) (mVar 6))))) (mSeq (mSet 7 (m2 mMod (m2 mPow (m2 mAdd (m2 mAdd (m2 mMod (mVar 3) (mC (.int 2147483629))) (m2 mMul (mC (.int 7919)) (mVar 1))) (mC (.int 1))) (mC (.int 3))) (mC (.int 2147483647))))
    (mSeq (mSet 7 (m2 mMod (m2 mMul (m2 mAdd (mVar 7) (m2 mMul (mC (.int 104729)) (m2 mAdd (mVar 6) (mC (.int 1))))) (m2 mAdd (mVar 6) (mC (.int 3)))) (mC (.int 2147483629))))
    (mSeq (mSet 7 (m2 mMod (m2 mMul (m2 mMod (m2 mPow (mVar 7) (mC (.int 5))) (mC (.int 2147483647))) (mC (.int 48271))) (mC (.int 2147483629))))
    (mExpr (mApp (mVar 5) (m2 mMod (m2 mDiv (mVar 7) (mC (.int 16))) (m2 mIx (mVar 2) (mVar 6)))))))))
abbrev numEnv (cell salt : Int) (p : Nat) (wh lf : Int) (q : Nat) (kk on : Option W) : Ws := [some (.int cell), some (.int salt), some (.ref p), some (.int wh), some (.int lf), some (.ref q), kk, on]
theorem num_big {h : Hv} {p m i : Nat} {cell salt wh lf : Int} {on : Option W} {acc : List W} (e : h[p]? = some (.lst (List.replicate m (.int 420)))) (hi : i < m) (al : acc.length < 100000) (c1 : (1000000000000000000 : Int) ≤ wh) (c2 : 0 < lf) :
    numBody (numEnv cell salt p wh lf h.length (some (.int i)) on) (h ++ [.lst acc]) = .nx (numEnv cell salt p wh (lf.fdiv 420) h.length (some (.int i)) on) (h ++ [.lst (acc ++ [.int (lf.fmod 420)])]) := by
  have ix := sz_at (t := [.lst acc]) e hi
  have ix2 := sz_at (t := [.lst (acc ++ [.int (lf.fmod 420)])]) e hi
  have ap : mApp (mVar 5) (m2 mMod (mVar 4) (m2 mIx (mVar 2) (mVar 6))) (numEnv cell salt p wh lf h.length (some (.int i)) on) (h ++ [.lst acc]) = .val .non (h ++ [.lst (acc ++ [.int (lf.fmod 420)])]) :=
    app_last al (by simp [numEnv]) (by simp [numEnv, ix, mod420])
  simp only [numEnv] at ap
  simp [numEnv, numBody, pow18, c1, c2, ap, ix2, div420]
theorem num_small {h : Hv} {p m i : Nat} {cell salt wh lf : Int} {on : Option W} {acc : List W} (e : h[p]? = some (.lst (List.replicate m (.int 420)))) (hi : i < m) (hm : m ≤ 1000) (al : acc.length < 100000) (s0 : 0 ≤ salt) (s1 : salt ≤ 100000) (c : ¬ ((1000000000000000000 : Int) ≤ wh ∧ 0 < lf)) :
    ∃ v o : Int, (0 ≤ v ∧ v < 420) ∧ numBody (numEnv cell salt p wh lf h.length (some (.int i)) on) (h ++ [.lst acc]) = .nx (numEnv cell salt p wh lf h.length (some (.int i)) (some (.int o))) (h ++ [.lst (acc ++ [.int v])]) := by
  have ix := sz_at (t := [.lst acc]) e hi
  obtain ⟨a1, a2⟩ := fmod_in wh (show (0 : Int) < 2147483629 by decide)
  have b1 : (wh.fmod 2147483629 + 7919 * salt + 1).natAbs < 2 ^ 64 := by omega
  generalize hx : ((wh.fmod 2147483629 + 7919 * salt + 1) ^ 3).fmod 2147483647 = x
  obtain ⟨x1, x2⟩ := fmod_in ((wh.fmod 2147483629 + 7919 * salt + 1) ^ 3) (show (0 : Int) < 2147483647 by decide)
  rw [hx] at x1 x2
  generalize hy : ((x + 104729 * ((i : Int) + 1)) * ((i : Int) + 3)).fmod 2147483629 = y
  obtain ⟨y1, y2⟩ := fmod_in ((x + 104729 * ((i : Int) + 1)) * ((i : Int) + 3)) (show (0 : Int) < 2147483629 by decide)
  rw [hy] at y1 y2
  obtain ⟨z1, z2⟩ := fmod_in (y ^ 5) (show (0 : Int) < 2147483647 by decide)
  have t1 : (if (1000000000000000000 : Int) ≤ wh then decide (0 < lf) else false) = false := by
    split
    · rename_i q
      exact decide_eq_false fun z => c ⟨q, z⟩
    · rfl
  refine ⟨(((((y ^ 5).fmod 2147483647) * 48271).fmod 2147483629).fdiv 16).fmod 420, (((y ^ 5).fmod 2147483647) * 48271).fmod 2147483629, fmod_in _ (by decide), ?_⟩
  have p3 := pow64 (h := h ++ [.lst acc]) b1 (show 3 ≤ 1000 by decide)
  have p5 := pow64 (i := y) (h := h ++ [.lst acc]) (by omega) (show 5 ≤ 1000 by decide)
  have q1 := mul64 (i := 7919) (j := salt) (h := h ++ [.lst acc]) (by decide) (by omega)
  have q2 := mul64 (i := 104729) (j := (i : Int) + 1) (h := h ++ [.lst acc]) (by decide) (by omega)
  have q3 := mul64 (i := x + 104729 * ((i : Int) + 1)) (j := (i : Int) + 3) (h := h ++ [.lst acc]) (by omega) (by omega)
  have q4 := mul64 (i := (y ^ 5).fmod 2147483647) (j := 48271) (h := h ++ [.lst acc]) (by omega) (by decide)
  have p3' : mPow (.int (wh.fmod 2147483629 + 7919 * salt + 1)) (.int 3) (h ++ [.lst acc]) = .val (.int ((wh.fmod 2147483629 + 7919 * salt + 1) ^ 3)) (h ++ [.lst acc]) := p3
  have p5' : mPow (.int y) (.int 5) (h ++ [.lst acc]) = .val (.int (y ^ 5)) (h ++ [.lst acc]) := p5
  have ap : ∀ o : Int, mApp (mVar 5) (m2 mMod (m2 mDiv (mVar 7) (mC (.int 16))) (m2 mIx (mVar 2) (mVar 6))) (numEnv cell salt p wh lf h.length (some (.int i)) (some (.int o))) (h ++ [.lst acc]) = .val .non (h ++ [.lst (acc ++ [.int ((o.fdiv 16).fmod 420)])]) := fun o =>
    app_last al (by simp [numEnv]) (by simp [numEnv, ix, mod420, div16])
  have t2 : (mAndT (mT (m2 mGe (mVar 3) (m2 mPow (mC (.int 10)) (mC (.int 18))))) (mT (m2 mGt (mVar 4) (mC (.int 0))))) (numEnv cell salt p wh lf h.length (some (.int i)) on) (h ++ [.lst acc]) = .val false (h ++ [.lst acc]) := by
    by_cases q : (1000000000000000000 : Int) ≤ wh
    · have : ¬ 0 < lf := fun z => c ⟨q, z⟩
      simp [numEnv, pow18, q, this]
    · simp [numEnv, pow18, q]
  simp only [numBody, mIfS_eq, t2, andS_val, mSeq_eq]
  simp only [mSet_eq, m2_eq, mVar0, mVarS, bind_val, mC_eq, modM, modN, q1, mAdd_int, p3', hx, andS_val, thenS_nx, mSeq_eq, List.set, q2, q3, hy, p5', q4, mExpr_eq]
  simp only [if_false, Bool.false_eq_true, andS_val, thenS_nx, List.set, mSeq_eq, mSet_eq, m2_eq, mVar0, mVarS, bind_val, mC_eq, modM, modN, q1, mAdd_int, p3', hx, q2, q3, hy, p5', q4, mExpr_eq]
  have ap1 := ap ((((y ^ 5).fmod 2147483647) * 48271).fmod 2147483629)
  rw [ap1]
  rfl

theorem numbers_run {h : Hv} {p m : Nat} {cell salt wh lf : Int} {kk on : Option W} {acc : List W} (e : h[p]? = some (.lst (List.replicate m (.int 420)))) (hm : m ≤ 1000)
    (e1 : VL.forM (nxR 0 m) (mGn 6) numBody (m + 1) 0 (numEnv cell salt p (max cell (-1 - cell)) (max cell (-1 - cell)) h.length none none) (h ++ [.lst []]) = .nx (numEnv cell salt p wh lf h.length kk on) (h ++ [.lst acc])) :
    m__law_numbers [.int cell, .int salt, .ref p] h = .val (.ref h.length) (h ++ [.lst acc]) := by
  have el : mLen [.ref p] (h ++ [.lst []]) = .val (.int m) (h ++ [.lst []]) := by
    simp [mLen, get_old e]
  have rg : rgB (m : Int) = true := rgB_small hm
  have z : (m : Int).toNat = m := by omega
  have fr : mFor (mRng (mCons (mB mLen (mCons (mVar 2) mNil)) mNil)) (mGn 6) numBody (numEnv cell salt p (max cell (-1 - cell)) (max cell (-1 - cell)) h.length none none) (h ++ [.lst []]) = .nx (numEnv cell salt p wh lf h.length kk on) (h ++ [.lst acc]) := by
    have src : mRng (mCons (mB mLen (mCons (mVar 2) mNil)) mNil) (numEnv cell salt p (max cell (-1 - cell)) (max cell (-1 - cell)) h.length none none) (h ++ [.lst []]) = .val ⟨m + 1, nxR 0 m⟩ (h ++ [.lst []]) :=
      mRng_of hm (by simp only [mCons_eq, mB_eq, mVarS, mVar0, mNil_eq, bind_val, el])
    unfold mFor
    rw [src, andS_val]
    exact e1
  unfold m__law_numbers
  rw [mDef_eq]
  simp only [mSeq_eq]
  have st1 : (mSet 3 (mB mMax (mCons (mVar 0) (mCons (m2 mSub (m1 mNeg (mC (.int 1))) (mVar 0)) mNil)))) (startW ["_law_cell", "_law_salt", "_law_sizes", "_law_whole", "_law_left", "_law_result", "_law_k", "_law_one"] [.int cell, .int salt, .ref p]) h = .nx [some (.int cell), some (.int salt), some (.ref p), some (.int (max cell (-1 - cell))), none, none, none, none] h := by
    simp [startW]
  rw [st1, thenS_nx]
  simp only [mSeq_eq, mSet_eq, mVarS, mVar0, andS_val, thenS_nx, List.set, mLst_eq, mNil_eq, bind_val, List.length_nil, Nat.zero_le, if_true, mNew_eq]
  show endS (thenS (mFor _ _ numBody (numEnv cell salt p (max cell (-1 - cell)) (max cell (-1 - cell)) h.length none none) (h ++ [.lst []])) _) = _
  rw [fr]
  rfl
theorem numbers_ok {h : Hv} {p m : Nat} {cell salt : Int} (e : h[p]? = some (.lst (List.replicate m (.int 420)))) (hm : m ≤ 1000) (s0 : 0 ≤ salt) (s1 : salt ≤ 100000) :
    ∃ acc, m__law_numbers [.int cell, .int salt, .ref p] h = .val (.ref h.length) (h ++ [.lst acc]) ∧ (∀ w ∈ acc, IsI w) ∧ acc.length = m := by
  have lp := for_rng (n := m) (lo := 0) (s := 6) (b := numBody) (fun i r g => ∃ (wh lf : Int) (kk on : Option W) (acc : List W), r = numEnv cell salt p wh lf h.length kk on ∧ g = h ++ [.lst acc] ∧ acc.length = i ∧ ∀ w ∈ acc, IsI w) ?_
  · obtain ⟨r', g', e1, wh, lf, kk, on, acc, rfl, rfl, hl, ha⟩ := lp m 0 (numEnv cell salt p (max cell (-1 - cell)) (max cell (-1 - cell)) h.length none none) (h ++ [.lst []]) (by omega) ⟨_, _, none, none, [], rfl, rfl, rfl, by simp⟩
    exact ⟨acc, numbers_run e hm e1, ha, hl⟩
  · rintro i r g hi ⟨wh, lf, kk, on, acc, rfl, rfl, hl, ha⟩
    have al : acc.length < 100000 := by omega
    have zi : (0 : Int) + (i : Int) = (i : Int) := by omega
    have se : (numEnv cell salt p wh lf h.length kk on).set 6 (some (.int (0 + (i : Int)))) = numEnv cell salt p wh lf h.length (some (.int i)) on := by rw [zi]; rfl
    rw [se]
    have mem : ∀ v : Int, 0 ≤ v ∧ v < 420 → ∀ w ∈ acc ++ [W.int v], IsI w := fun v hv w hw => by
      rcases List.mem_append.mp hw with q | q
      · exact ha w q
      · exact ⟨v, List.mem_singleton.mp q, hv⟩
    by_cases c : (1000000000000000000 : Int) ≤ wh ∧ 0 < lf
    · exact ⟨_, _, num_big e hi al c.1 c.2, wh, _, _, on, _, rfl, rfl, by simp [hl], mem _ (fmod_in _ (by decide))⟩
    · obtain ⟨v, o, hv, q⟩ := num_small (cell := cell) (on := on) e hi hm al s0 s1 c
      exact ⟨_, _, q, wh, lf, _, _, _, rfl, rfl, by simp [hl], mem _ hv⟩


def I420 (a : Int) : Prop := 0 ≤ a ∧ a < 420
theorem ints_of : ∀ {acc : List W}, (∀ w ∈ acc, IsI w) → ∃ ds : List Int, acc = ds.map W.int ∧ ∀ d ∈ ds, I420 d
  | [], _ => ⟨[], rfl, fun d hd => by cases hd⟩
  | w :: acc, h => by
    obtain ⟨ds, e, g⟩ := ints_of (acc := acc) fun x hx => h x (List.mem_cons_of_mem _ hx)
    obtain ⟨i, rfl, b⟩ := h w List.mem_cons_self
    exact ⟨i :: ds, by rw [e]; rfl, fun d hd => by
      rcases List.mem_cons.mp hd with rfl | q
      · exact b
      · exact g d q⟩

/-! ### the law's own fraction and value -/
theorem lf_loop (n d : W) : ∀ (k : Nat) (o t : Int) (h : Hv), 0 ≤ o → 0 ≤ t → o.natAbs < k →
    whileM (mT (m2 mGt (mVar 2) (mC (.int 0)))) (mPar 2 3 (mCons (m2 mMod (mVar 3) (mVar 2)) (mCons (mVar 2) mNil))) k [some n, some d, some (.int o), some (.int t)] h = .nx [some n, some d, some (.int 0), some (.int (Int.gcd o t : Int))] h
  | 0, o, t, h, h1, h2, hk => by omega
  | k + 1, o, t, h, h1, h2, hk => by
    unfold whileM
    by_cases ho : o = 0
    · subst ho
      have e : (t.natAbs : Int) = t := by omega
      simp [e]
    · have p : 0 < o := by omega
      have s := fmod_small t o ho
      have nn : 0 ≤ t.fmod o := Int.fmod_nonneg_of_pos t p
      have ih := lf_loop n d k (t.fmod o) o h nn h1 (by omega)
      have g : Int.gcd (t.fmod o) o = Int.gcd o t := by rw [Int.gcd_comm, fmod_gcd, Int.gcd_comm]
      rw [g] at ih
      simp [p, mPar, mMod_int ho]
      exact ih

theorem lfr_eq {h : Hv} {n d : Int} (hd : 0 < d) (hs : Sm d) : m__law_fraction [.int n, .int d] h = .val (q2 (fr n d)) h := by
  have hd0 : d ≠ 0 := by omega
  have g1 := gcd_sm (n := n) hd0 hs
  have g0 := gcd_pos (n := n) hd0
  have l1 : (Int.gcd n d).log2 < 9000 := Nat.lt_trans (log_le g1 (by decide)) (by decide)
  have e : frG n d = (Int.gcd n d : Int) := by simp [frG, show ¬ d < 0 by omega]
  have ne : (Int.gcd n d : Int) ≠ 0 := by omega
  have l2 : ((Int.gcd n d : Int)).natAbs.log2 < 9000 := by simpa using l1
  have ab : max n (-n) = (n.natAbs : Int) := by omega
  have lp := lf_loop (.int n) (.int d) (n.natAbs + 1) (n.natAbs : Int) d h (by omega) (by omega) (by omega)
  have gg : Int.gcd (n.natAbs : Int) d = Int.gcd n d := by simp [Int.gcd]
  rw [gg] at lp
  simp only [m__law_fraction, mDef_eq, startW, mSeq_eq, List.map, List.length, List.replicate, List.cons_append, List.nil_append, Nat.reduceSub, Nat.reduceAdd]
  have st : (mPar 2 3 (mCons (mB mMax (mCons (mVar 0) (mCons (m1 mNeg (mVar 0)) mNil))) (mCons (mVar 1) mNil))) [some (.int n), some (.int d), none, none] h = .nx [some (.int n), some (.int d), some (.int (n.natAbs : Int)), some (.int d)] h := by
    simp [mPar, ab]
  rw [st]
  simp only [thenS_nx, mSeq_eq, mWhile, fuel__law_fraction, List.getElem?_cons_succ, List.getElem?_cons_zero, Int.natAbs_natCast]
  rw [lp]
  simp [mDiv_int ne l2, fr, e]
theorem lvalue_ok {h : Hv} {l : Option QQ} {x : QQ} (fx : Fq x) (ll : LnO l) : m__law_value [qo l, q2 x] h = .val (qo (vl l x)) h := by
  cases l with
  | none => simp [m__law_value, mDef_eq, startW, vl]
  | some l =>
    have f := lfr_eq (h := h) (n := l.1 * x.1 + l.2 * x.2) (d := x.2) fx.ps fx.s2
    simp [m__law_value, mDef_eq, startW, vl, lv, mul_sm ll.1 fx.s1, mul_sm ll.2 fx.s2, f]
/-! ### the points that are drawn -/
def Inc (xs : List QQ) : Prop := ∀ i a b, xs[i]? = some a → xs[i + 1]? = some b → Lt a b
structure Gd (k : Nat) (x : QQ) : Prop where
  fq : Fq x
  nn : 0 ≤ x.1
  b1 : Bn k x.1
  b2 : Bn k x.2

theorem fr_le {n d : Int} (hd : 0 < d) : (fr n d).1.natAbs ≤ n.natAbs ∧ (fr n d).2.natAbs ≤ d.natAbs := by
  have g := gcd_pos (n := n) (show d ≠ 0 by omega)
  have e : frG n d = (Int.gcd n d : Int) := by simp [frG, show ¬ d < 0 by omega]
  unfold fr
  rw [e]
  exact ⟨fdiv_le g, fdiv_le g⟩
theorem fr_fq {n d : Int} (hd : 0 < d) (h1 : Sm n) (h2 : Sm d) : Fq (fr n d) := by
  obtain ⟨a, b⟩ := fr_le (n := n) hd
  exact ⟨fr_pos (by omega), fr_one (by omega), Nat.lt_of_le_of_lt a h1, Nat.lt_of_le_of_lt b h2⟩
theorem fr_nn {n d : Int} (hd : 0 < d) (hn : 0 ≤ n) : 0 ≤ (fr n d).1 := by
  have g := gcd_pos (n := n) (show d ≠ 0 by omega)
  have e : frG n d = (Int.gcd n d : Int) := by simp [frG, show ¬ d < 0 by omega]
  unfold fr
  rw [e]
  exact Int.fdiv_nonneg hn (Int.le_of_lt g)

def nxt (x : QQ) (s t : Int) : QQ := fr (x.1 * s + x.2 * t) (x.2 * s)
theorem bn3 {s : Int} (h : 1 ≤ s ∧ s ≤ 5) : Bn 3 s := by
  unfold Bn
  have : (2 : Nat) ^ 3 = 8 := rfl
  omega
theorem nxt_ok {k : Nat} {x : QQ} {s t : Int} (g : Gd k x) (hs : 1 ≤ s ∧ s ≤ 5) (ht : 1 ≤ t ∧ t ≤ 3) (hk : k + 5 ≤ 1000) : Gd (k + 5) (nxt x s t) ∧ Lt x (nxt x s t) ∧ Sm (x.1 * s) ∧ Sm (x.2 * s) ∧ 0 < x.2 * s := by
  have p2 := g.fq.ps
  have a1 := g.b1.mul (bn3 hs)
  have a2 := g.b2.mul (bn3 hs)
  have a3 := g.b2.mul (bn3 (s := t) (by omega))
  have a4 := a1.add a3
  have dp : 0 < x.2 * s := Int.mul_pos p2 (by omega)
  have np : 0 ≤ x.1 * s + x.2 * t := Int.add_nonneg (Int.mul_nonneg g.nn (by omega)) (Int.le_of_lt (Int.mul_pos p2 (by omega)))
  obtain ⟨l1, l2⟩ := fr_le (n := x.1 * s + x.2 * t) dp
  refine ⟨⟨fr_fq dp (a4.sm (by omega)) (a2.sm (by omega)), fr_nn dp np, ?_, ?_⟩, ?_, a1.sm (by omega), a2.sm (by omega), dp⟩
  · exact Bn.mono (k := k + 3 + 1) (Nat.lt_of_le_of_lt l1 a4) (by omega)
  · exact Bn.mono (k := k + 3) (Nat.lt_of_le_of_lt l2 a2) (by omega)
  · unfold Lt nxt
    have v := fr_val (x.1 * s + x.2 * t) (x.2 * s)
    have q := fr_pos (n := x.1 * s + x.2 * t) (show x.2 * s ≠ 0 by omega)
    generalize fr (x.1 * s + x.2 * t) (x.2 * s) = y at v q
    have e : (x.1 * y.2 - y.1 * x.2) * s = -(x.2 * t * y.2) := by
      have e1 : y.1 * (x.2 * s) = y.1 * x.2 * s := by ac_rfl
      have e2 : (x.1 * s + x.2 * t) * y.2 = x.1 * y.2 * s + x.2 * t * y.2 := by
        rw [Int.add_mul]
        have : x.1 * s * y.2 = x.1 * y.2 * s := by ac_rfl
        rw [this]
      rw [Int.sub_mul]
      omega
    have m : 0 < x.2 * t * y.2 := Int.mul_pos (Int.mul_pos p2 (by omega)) q
    refine Int.not_le.mp fun z => ?_
    have := Int.mul_nonneg z (show 0 ≤ s by omega)
    omega

theorem Inc.snoc {xs : List QQ} {x y : QQ} (a : Inc (xs ++ [x])) (l : Lt x y) : Inc (xs ++ [x] ++ [y]) := by
  intro i u v e1 e2
  have l2 := lt_of_get e2
  by_cases lt : i + 1 < (xs ++ [x]).length
  · rw [get_app_lt (by omega)] at e1
    rw [get_app_lt lt] at e2
    exact a i u v e1 e2
  · have ei : i + 1 = (xs ++ [x]).length := by
      rw [List.length_append] at l2
      simp only [List.length_cons, List.length_nil] at l2
      omega
    rw [ei, get_app_eq] at e2
    cases e2
    rw [get_app_lt (by omega)] at e1
    have e3 : i = xs.length := by simp at ei; omega
    rw [e3, get_app_eq] at e1
    cases e1
    exact l

end SHP
end
section
namespace SHP
open PySem L2 VL
/-! ### the points -/
abbrev ptB : MS := (mSeq (mExpr (mApp (mVar 1) (mVar 2)))
    (mSeq (mSet 4 (m2 mAdd (mC (.int 1)) (m2 mMod (mB mInt (mCons (mVar 3) mNil)) (mC (.int 5)))))
    (mSet 2 (mCall 2 m__law_fraction (mCons (m2 mAdd (m2 mMul (m2 mIx (mVar 2) (mC (.int 0))) (mVar 4)) (m2 mMul (m2 mIx (mVar 2) (mC (.int 1))) (m2 mAdd (mC (.int 1)) (m2 mMod (mB mInt (mCons (m2 mDiv (mVar 3) (mC (.int 5))) mNil)) (mC (.int 3)))))) (mCons (m2 mMul (m2 mIx (mVar 2) (mC (.int 1))) (mVar 4)) mNil))))))
theorem set_two {h : Hv} {a b c : O} : (h ++ [a, b]).set h.length c = h ++ [c, b] := by simp
theorem pt_body {p : Nat} {o4 : Option W} {d : Int} {h : Hv} {L : O} {acc : List QQ} {x : QQ} {k : Nat} (hs : acc.length < 1000) (gd : Gd k x) (hk : k + 5 ≤ 900) :
    let s := 1 + d.fmod 5
    let t := 1 + (d.fdiv 5).fmod 3
    ptB [some (.ref p), some (.ref h.length), some (q2 x), some (.int d), o4] (h ++ [.lst (acc.map q2), L]) = .nx [some (.ref p), some (.ref h.length), some (q2 (nxt x s t)), some (.int d), some (.int s)] (h ++ [.lst ((acc ++ [x]).map q2), L]) := by
  intro s t
  have l : (h ++ [O.lst (acc.map q2), L])[h.length]? = some (.lst (acc.map q2)) := by simp
  have hs2 : (acc.map q2).length < 100000 := by simp; omega
  have f5 := fmod_in d (show (0 : Int) < 5 by decide)
  have f3 := fmod_in (d.fdiv 5) (show (0 : Int) < 3 by decide)
  obtain ⟨n1, n2, n3, n4, n5⟩ := nxt_ok (s := s) (t := t) gd ⟨by omega, by omega⟩ ⟨by omega, by omega⟩ (by omega)
  have ss : Sm s := (bn3 (s := s) (by omega)).sm (by decide)
  have st : Sm t := (bn3 (s := t) (by omega)).sm (by decide)
  have ap : (mExpr (mApp (mVar 1) (mVar 2))) [some (.ref p), some (.ref h.length), some (q2 x), some (.int d), o4] (h ++ [.lst (acc.map q2), L]) = .nx [some (.ref p), some (.ref h.length), some (q2 x), some (.int d), o4] (h ++ [.lst ((acc ++ [x]).map q2), L]) := by
    have v1 : ∀ g, mVar 1 [some (.ref p), some (.ref h.length), some (q2 x), some (.int d), o4] g = .val (.ref h.length) g := fun g => rfl
    have v2 : ∀ g, mVar 2 [some (.ref p), some (.ref h.length), some (q2 x), some (.int d), o4] g = .val (q2 x) g := fun g => rfl
    rw [mExpr_eq]
    simp only [mApp, v1, v2, bind_val, l, hs2, if_true, set_two, andS_val, List.map_append, List.map_cons, List.map_nil]
  generalize h ++ [O.lst ((acc ++ [x]).map q2), L] = g1 at ap
  have m1 : mMul (.int x.1) (.int s) g1 = .val (.int (x.1 * s)) g1 := mul_sm (gd.b1.sm (by omega)) ss
  have m2' : mMul (.int x.2) (.int t) g1 = .val (.int (x.2 * t)) g1 := mul_sm (gd.b2.sm (by omega)) st
  have m3 : mMul (.int x.2) (.int s) g1 = .val (.int (x.2 * s)) g1 := mul_sm (gd.b2.sm (by omega)) ss
  have fe := lfr_eq (h := g1) (n := x.1 * s + x.2 * t) n5 n4
  have s4 : (mSet 4 (m2 mAdd (mC (.int 1)) (m2 mMod (mB mInt (mCons (mVar 3) mNil)) (mC (.int 5))))) [some (.ref p), some (.ref h.length), some (q2 x), some (.int d), o4] g1 = .nx [some (.ref p), some (.ref h.length), some (q2 x), some (.int d), some (.int s)] g1 := by
    simp [mod5, s]
  have fin : (mCall 2 m__law_fraction (mCons (m2 mAdd (m2 mMul (m2 mIx (mVar 2) (mC (.int 0))) (mVar 4)) (m2 mMul (m2 mIx (mVar 2) (mC (.int 1))) (m2 mAdd (mC (.int 1)) (m2 mMod (mB mInt (mCons (m2 mDiv (mVar 3) (mC (.int 5))) mNil)) (mC (.int 3)))))) (mCons (m2 mMul (m2 mIx (mVar 2) (mC (.int 1))) (mVar 4)) mNil))) [some (.ref p), some (.ref h.length), some (q2 x), some (.int d), some (.int s)] g1 = .val (q2 (nxt x s t)) g1 := by
    clear_value s
    have et : (1 : Int) + (d.fdiv 5).fmod 3 = t := rfl
    simp only [mCall_eq, mCons_eq, m2_eq, mVar0, mVarS, bind_val, VL.ix_tup, atI0, atI1, ofO_some, mC_eq, m1, mB_eq, mNil_eq, div5, mInt_int, mod3, mAdd_int, et, m2', m3, List.length_cons, List.length_nil, Nat.zero_add, Nat.reduceAdd, if_true, fe]
    rfl
  unfold ptB
  rw [mSeq_eq, ap, thenS_nx, mSeq_eq, s4, thenS_nx, mSet_eq, fin, andS_val]
  rfl
theorem points_ok {h : Hv} {p : Nat} {d0 : Int} {ds : List Int} (e : h[p]? = some (.lst ((d0 :: ds).map W.int))) (hl : ds.length ≤ 10) :
    ∃ xs : List QQ, m__law_points [.ref p] h = .val (.ref h.length) (h ++ [.lst (xs.map q2), .lst (ds.map W.int)]) ∧ xs.length = ds.length ∧ Inc xs ∧ (∀ x ∈ xs, Gd 60 x) := by
  let L : List W := ds.map W.int
  have f3 := fmod_in d0 (show (0 : Int) < 3 by decide)
  have gd0 : Gd 5 (d0.fmod 3, 1) := by
    have b1 : Bn 5 (d0.fmod 3) := by unfold Bn; have : (2 : Nat) ^ 5 = 32 := rfl; omega
    refine ⟨⟨by show (0 : Int) < 1; decide, by simp, b1.sm (by decide), by show (1 : Int).natAbs < 2 ^ 1000; decide +kernel⟩, f3.1, b1, by show (1 : Int).natAbs < 2 ^ 5; decide⟩
  let I : Nat → Ws → Hv → Prop := fun i r g => ∃ o3 o4 acc x, r = [some (.ref p), some (.ref h.length), some (q2 x), o3, o4] ∧ g = h ++ [.lst (acc.map q2), .lst L] ∧ acc.length = i ∧ Gd (5 * i + 5) x ∧ Inc (acc ++ [x]) ∧ (∀ y ∈ acc, Gd 60 y)
  have keep : ∀ i r g, I i r g → g[h.length + 1]? = some (.lst L) := by
    rintro i r g ⟨o3, o4, acc, x, _, rfl, _⟩
    simp
  have step : ∀ (i : Nat) w, L[i]? = some w → ∀ r g, I i r g → ∃ r' g', ptB (r.set 3 (some w)) g = .nx r' g' ∧ I (i + 1) r' g' := by
    rintro i w ew r g ⟨o3, o4, acc, x, rfl, rfl, a3, a5, a6, a7⟩
    have hi := lt_of_get ew
    have hL : L.length ≤ 10 := by simp only [L, List.length_map]; exact hl
    obtain ⟨d, hd⟩ : ∃ d, w = .int d := by
      have m := List.mem_of_getElem? ew
      obtain ⟨d, _, q⟩ := List.mem_map.mp m
      exact ⟨d, q.symm⟩
    subst hd
    have b := pt_body (p := p) (o4 := o4) (d := d) (h := h) (L := .lst L) (acc := acc) (by omega) a5 (by omega)
    have f5 := fmod_in d (show (0 : Int) < 5 by decide)
    have f3 := fmod_in (d.fdiv 5) (show (0 : Int) < 3 by decide)
    obtain ⟨n1, n2, n3, n4, n5⟩ := nxt_ok (s := 1 + d.fmod 5) (t := 1 + (d.fdiv 5).fmod 3) a5 ⟨by omega, by omega⟩ ⟨by omega, by omega⟩ (by omega)
    refine ⟨_, _, b, _, _, acc ++ [x], nxt x (1 + d.fmod 5) (1 + (d.fdiv 5).fmod 3), rfl, rfl, by simp [a3], ?_, a6.snoc n2, ?_⟩
    · have e5 : 5 * (i + 1) + 5 = 5 * i + 5 + 5 := by omega
      rw [e5]; exact n1
    · intro y hy
      rcases List.mem_append.mp hy with z | z
      · exact a7 y z
      · rw [List.mem_singleton.mp
          z]
        exact ⟨a5.fq, a5.nn, a5.b1.mono (by omega), a5.b2.mono (by omega)⟩
  have i0 : I 0 [some (.ref p), some (.ref h.length), some (q2 (d0.fmod 3, 1)), none, none] (h ++ [.lst [], .lst L]) :=
    ⟨none, none, [], (d0.fmod 3, 1), rfl, rfl, rfl, gd0, fun i a b q1 q2 => by simp at q2, fun y hy => by simp at hy⟩
  obtain ⟨r1, g3, lp, o3, o4, acc, x, rfl, rfl, a3, a5, a6, a7⟩ := for_seq I keep step L.length 0 _ (h ++ [.lst [], .lst L]) (by omega) i0
  refine ⟨acc, ?_, by rw [a3]; simp [L], ?_, a7⟩
  · have st : startW ["_law_digits", "_law_points_here", "_law_x", "_law_digit", "_law_step"] [.ref p] = [some (.ref p), none, none, none, none] := rfl
    have e0 : (h ++ [O.lst []])[p]? = some (.lst ((d0 :: ds).map W.int)) := get_old e
    have ix1 : mIx (.ref p) (.int 0) (h ++ [.lst []]) = .val (.int d0) (h ++ [.lst []]) := mIx_lst e0 atI0
    have s1 : (mPar 1 2 (mCons (mLst mNil) (mCons (mTup (mCons (m2 mMod (mB mInt (mCons (m2 mIx (mVar 0) (mC (.int 0))) mNil)) (mC (.int 3))) (mCons (mC (.int 1)) mNil))) mNil))) [some (.ref p), none, none, none, none] h = .nx [some (.ref p), some (.ref h.length), some (q2 (d0.fmod 3, 1)), none, none] (h ++ [.lst []]) := by
      unfold mPar
      simp only [mCons_eq, mLst_eq, mNil_eq, bind_val, List.length_nil, Nat.zero_le, if_true, mNew_eq, mTup_eq, m2_eq, mB_eq, mVar0, mC_eq, ix1, mInt_int, mod3, List.length_cons, Nat.zero_add, Nat.reduceAdd, show (2 : Nat) ≤ 100000 from by decide, andS_val]
      rfl
    have sr : (mSrc (mSl (mVar 0) (mPart (some (mC (.int 1)))) (mPart none))) [some (.ref p), some (.ref h.length), some (q2 (d0.fmod 3, 1)), none, none] (h ++ [.lst []]) = .val ⟨L.length + 1, nxSeq (h.length + 1)⟩ (h ++ [.lst [], .lst L]) := by
      have ct : cutW ((d0 :: ds).map W.int) (some 1) none = L := cut_drop _ 1 (by simp)
      have q : (mSl (mVar 0) (mPart (some (mC (.int 1)))) (mPart none)) [some (.ref p), some (.ref h.length), some (q2 (d0.fmod 3, 1)), none, none] (h ++ [.lst []]) = .val (.ref (h.length + 1)) (h ++ [.lst [], .lst L]) := by
        simp only [mSl, mPart, mVar0, bind_val, mC_eq, mCut, e0, ct]
        simp
      have e2 : (h ++ [O.lst [], .lst L])[h.length + 1]? = some (.lst L) := by simp
      unfold mSrc
      rw [q, bind_val]
      simp only [srcOf, e2]
    have fe : mFor (mSrc (mSl (mVar 0) (mPart (some (mC (.int 1)))) (mPart none))) (mGn 3) ptB [some (.ref p), some (.ref h.length), some (q2 (d0.fmod 3, 1)), none, none] (h ++ [.lst []]) = .nx [some (.ref p), some (.ref h.length), some (q2 x), o3, o4] (h ++ [.lst (acc.map q2), .lst L]) := by
      unfold mFor
      rw [sr, andS_val]
      exact lp
    unfold m__law_points
    rw [mDef_eq, st, mSeq_eq, s1, thenS_nx, mSeq_eq]
    rw [fe, thenS_nx]
    rfl
  · intro i a b q1 q2
    have l3 := lt_of_get q2
    exact a6 i a b (by rw [get_app_lt (by omega)]; exact q1) (by rw [get_app_lt l3]; exact q2)
def LbO : Option QQ → Prop
  | none => True
  | some l => Bn 10 l.1 ∧ Bn 10 l.2
theorem LbO.ln {l : Option QQ} (h : LbO l) : LnO l := by
  cases l with
  | none => trivial
  | some l => exact ⟨h.1.sm (by decide), h.2.sm (by decide)⟩

theorem line_ok {g : Hv} {s : Nat} {a0 a1 : Int} {r : List W} (e : g[s]? = some (.lst (.int a0 :: .int a1 :: r))) (b0 : I420 a0) (b1 : I420 a1) :
    ∃ tl l, m__law_line [.ref s] g = .val (q2 l) (g ++ tl) ∧ LbO (some l) := by
  let u : Int := a1.fmod 9 - 4
  let v : Int := a1 - 200
  let k : Int := (a0.fdiv 7).fmod 2
  have ix0 : mIx (.ref s) (.int 0) g = .val (.int a0) g := mIx_lst e atI0
  have ix1 : mIx (.ref s) (.int 1) g = .val (.int a1) g := mIx_lst e atI1
  have e1 : (g ++ [O.lst [.int u, .int v]])[s]? = some (.lst (.int a0 :: .int a1 :: r)) := get_old e
  have jx0 : mIx (.ref s) (.int 0) (g ++ [.lst [.int u, .int v]]) = .val (.int a0) (g ++ [.lst [.int u, .int v]]) := mIx_lst e1 atI0
  have f2 := fmod_in (a0.fdiv 7) (show (0 : Int) < 2 by decide)
  have f9 := fmod_in a1 (show (0 : Int) < 9 by decide)
  have f7 := fmod_in a0 (show (0 : Int) < 7 by decide)
  have p10 : (2 : Nat) ^ 10 = 1024 := rfl
  obtain ⟨c, hc, hcb⟩ : ∃ c : Int, atI [W.int u, W.int v] k = some (.int c) ∧ Bn 10 c := by
    rcases (show k = 0 ∨ k = 1 by omega) with q | q
    · exact ⟨u, by rw [q]; exact atI0, by unfold Bn; rw [p10]; have := b1.1; have := b1.2; omega⟩
    · exact ⟨v, by rw [q]; exact atI1, by unfold Bn; rw [p10]; have := b1.1; have := b1.2; omega⟩
  have il : mIx (.ref g.length) (.int k) (g ++ [.lst [.int u, .int v]]) = .val (.int c) (g ++ [.lst [.int u, .int v]]) := mIx_lst get_last hc
  have ls : (mLst (mCons (m2 mSub (m2 mMod (mB mInt (mCons (m2 mIx (mVar 0) (mC (.int 1))) mNil)) (mC (.int 9))) (mC (.int 4))) (mCons (m2 mSub (m2 mIx (mVar 0) (mC (.int 1))) (mC (.int 200))) mNil))) [some (.ref s)] g = .val (.ref g.length) (g ++ [.lst [.int u, .int v]]) := by
    simp [ix1, mod9, u, v]
  have ek : (a0.fdiv 7).fmod 2 = k := rfl
  refine ⟨[.lst [.int u, .int v]], (a0.fmod 7 - 3, c), ?_, ?_, hcb⟩
  · have st : startW ["_law_digits"] [.ref s] = [some (.ref s)] := rfl
    have q1 : (m2 mSub (m2 mMod (mB mInt (mCons (m2 mIx (mVar 0) (mC (.int 0))) mNil)) (mC (.int 7))) (mC (.int 3))) [some (.ref s)] g = .val (.int (a0.fmod 7 - 3)) g := by
      simp [ix0, mod7]
    unfold m__law_line
    rw [mDef_eq, st, mRet_eq, mTup_eq, mCons_eq, q1, bind_val, mCons_eq, m2_eq, ls, bind_val]
    generalize g ++ [O.lst [.int u, .int v]] = g1 at *
    clear_value k u v
    simp [jx0, div7, mod2, ek, il]
  · have z : Bn 10 (a0.fmod 7 - 3) := by unfold Bn; omega
    exact z
/-- all that stays while the pieces are made -/
structure St (h : Hv) (p pp q : Nat) (ds : List Int) (xs : List QQ) (P : List Pc) (g : Hv) : Prop where
  dg : g[p]? = some (.lst (ds.map W.int))
  pt : g[pp]? = some (.lst (xs.map q2))
  pc : LP g q P
  ex : Ext h g
  n1 : p ≠ q
  n2 : pp ≠ q
  hq : h.length ≤ q
section
variable {h : Hv} {p pp q : Nat} {ds : List Int} {xs : List QQ} {P : List Pc} {g : Hv}
theorem St.old (s : St h p pp q ds xs P g) (t : Hv) : St h p pp q ds xs P (g ++ t) :=
  ⟨get_old s.dg, get_old s.pt, s.pc.old t, s.ex.trans (Ext.more _ _), s.n1, s.n2, s.hq⟩
theorem St.put (s : St h p pp q ds xs P g) (c : Pc) : St h p pp q ds xs (P ++ [c]) (g.set q (.lst ((P ++ [c]).map pW))) := by
  have k : Kp q g (g.set q (.lst ((P ++ [c]).map pW))) := Kp.set _ _ _
  exact ⟨k p _ s.n1 s.dg, k pp _ s.n2 s.pt, List.getElem?_set_self s.pc.lt, k.ext s.ex s.hq, s.n1, s.n2, s.hq⟩
end
abbrev pE (p pp q : Nat) (e : Int) (i : Nat) (x : QQ) (w6 w7 w8 w9 : Option W) : Ws := [some (.ref p), some (.ref pp), some (.ref q), some (.int e), some (.int (i : Int)), some (q2 x), w6, w7, w8, w9]
theorem five_of : ∀ {l : List Int}, l.length = 5 → ∃ a0 a1 a2 a3 a4, l = [a0, a1, a2, a3, a4]
  | [a0, a1, a2, a3, a4], _ => ⟨a0, a1, a2, a3, a4, rfl⟩

abbrev b6 : MS := mSet 6 (mSl (mVar 0) (mPart (some (m2 mAdd (mC (.int 6)) (m2 mMul (mC (.int 5)) (mVar 4))))) (mPart (some (m2 mAdd (mC (.int 11)) (m2 mMul (mC (.int 5)) (mVar 4))))))
abbrev b7 : MS := (mSet 7 (mIf (mT (m2 mGt (m2 mMod (mB mInt (mCons (m2 mIx (mVar 6) (mC (.int 2))) mNil)) (mC (.int 6))) (mC (.int 0)))) (mCall 1 m__law_line (mCons (mVar 6) mNil)) (mC .non)))
abbrev b8 : MS := (mSet 8 (mTup (mCons (m2 mMod (mB mInt (mCons (m2 mIx (mVar 6) (mC (.int 4))) mNil)) (mC (.int 9))) (mCons (m2 mAdd (mC (.int 1)) (m2 mMod (mB mInt (mCons (m2 mDiv (m2 mIx (mVar 6) (mC (.int 4))) (mC (.int 9))) mNil)) (mC (.int 3)))) mNil))))
abbrev b9 : MS := (mSet 9 (m2 mIx (mLst (mCons (mCall 2 m__law_value (mCons (mVar 7) (mCons (mVar 5) mNil))) (mCons (mC .non) (mCons (mVar 8) mNil)))) (m2 mIx (mLst (mCons (mC (.int 0)) (mCons (mC (.int 0)) (mCons (mC (.int 0)) (mCons (mC (.int 1)) (mCons (mC (.int 2)) (mCons (mC (.int 2)) mNil))))))) (m2 mMod (mB mInt (mCons (m2 mIx (mVar 6) (mC (.int 3))) mNil)) (mC (.int 6))))))
abbrev b10 : MS := (mSet 9 (mIf (mT (m2 (mIs false) (mVar 9) (mC .non))) (mC .non) (mCall 2 m__law_fraction (mCons (m2 mIx (mVar 9) (mC (.int 0))) (mCons (m2 mIx (mVar 9) (mC (.int 1))) mNil)))))
abbrev b11 : MS := (mIfS (mAndT (mT (m2 (mEq false) (m2 mMod (mB mInt (mCons (m2 mDiv (m2 mIx (mVar 6) (mC (.int 3))) (mC (.int 6))) mNil)) (mC (.int 2))) (mC (.int 0)))) (mT (m2 (mEq true) (mVar 2) (mLst mNil)))) (mSeq (mSet 9 (mCall 2 m__law_value (mCons (m2 mIx (m2 mIx (mVar 2) (m1 mNeg (mC (.int 1)))) (mC (.int 3))) (mCons (mVar 5) mNil))))
    (mSet 7 (mIf (mT (m2 (mEq false) (m2 mMod (mB mInt (mCons (m2 mDiv (m2 mIx (mVar 6) (mC (.int 3))) (mC (.int 12))) mNil)) (mC (.int 2))) (mC (.int 0)))) (m2 mIx (m2 mIx (mVar 2) (m1 mNeg (mC (.int 1)))) (mC (.int 3))) (mVar 7)))) mNext)
abbrev b12 : MS := (mExpr (mApp (mVar 2) (mTup (mCons (mC (.str ("at" : Str))) (mCons (mVar 5) (mCons (mVar 9) mNil))))))
abbrev b13 : MS := (mIfS (mOrT (mT (m2 mLt (m2 mAdd (mVar 4) (mC (.int 1))) (mB mLen (mCons (mVar 1) mNil)))) (mT (m2 (mEq false) (mVar 3) (mC (.int 1))))) (mExpr (mApp (mVar 2) (mTup (mCons (mC (.str ("between" : Str))) (mCons (mVar 5) (mCons (mIf (mT (m2 mLt (m2 mAdd (mVar 4) (mC (.int 1))) (mB mLen (mCons (mVar 1) mNil)))) (m2 mIx (mVar 1) (m2 mAdd (mVar 4) (mC (.int 1)))) (mC .non)) (mCons (mVar 7) mNil))))))) mNext)
abbrev pcB : MS := mSeq b6 (mSeq b7 (mSeq b8 (mSeq b9 (mSeq b10 (mSeq b11 (mSeq b12 b13))))))

section
variable {p pp q i : Nat} {e : Int} {x : QQ} {w6 w7 w8 w9 : Option W} {g : Hv} {ds : List Int}
theorem r6 (dg : g[p]? = some (.lst (ds.map W.int))) (hd : ∀ d ∈ ds, I420 d) (hl : 42 ≤ ds.length) (hi : i ≤ 5) :
    ∃ a0 a1 a2 a3 a4, I420 a0 ∧ I420 a1 ∧ I420 a2 ∧ I420 a3 ∧ I420 a4 ∧ b6 (pE p pp q e i x w6 w7 w8 w9) g = .nx (pE p pp q e i x (some (.ref g.length)) w7 w8 w9) (g ++ [.lst [.int a0, .int a1, .int a2, .int a3, .int a4]]) := by
  obtain ⟨a0, a1, a2, a3, a4, ea⟩ := five_of (l := (ds.drop (6 + 5 * i)).take 5) (by simp; omega)
  have mem : ∀ a ∈ [a0, a1, a2, a3, a4], I420 a := fun a ha => by
    rw [← ea] at ha
    exact hd a (List.mem_of_mem_drop (List.mem_of_mem_take ha))
  refine ⟨a0, a1, a2, a3, a4, mem _ (by simp), mem _ (by simp), mem _ (by simp), mem _ (by simp), mem _ (by simp), ?_⟩
  have i6 : (6 : Int) + 5 * (i : Int) = ((6 + 5 * i : Nat) : Int) := by omega
  have i11 : (11 : Int) + 5 * (i : Int) = ((11 + 5 * i : Nat) : Int) := by omega
  have m5 : mMul (.int 5) (.int (i : Int)) g = .val (.int (5 * (i : Int))) g := mul64 (by decide) (by omega)
  have ct : cutW (ds.map W.int) (some ((6 + 5 * i : Nat) : Int)) (some ((11 + 5 * i : Nat) : Int)) = [.int a0, .int a1, .int a2, .int a3, .int a4] := by
    rw [cut_mid _ _ _ (by omega) (by simp; omega)]
    have : 11 + 5 * i - (6 + 5 * i) = 5 := by omega
    rw [this, ← List.map_drop, ← List.map_take, ea]
    rfl
  simp only [b6, pE, mSet_eq, mSl, mPart, mVar0, mVarS, bind_val, m2_eq, mC_eq, m5, mAdd_int, i6, i11, mCut, dg, ct, mNew_eq, andS_val, List.set]
theorem r7 {s : Nat} {a0 a1 a2 a3 a4 : Int} (es : g[s]? = some (.lst [.int a0, .int a1, .int a2, .int a3, .int a4])) (c0 : I420 a0) (c1 : I420 a1) :
    ∃ tl l, b7 (pE p pp q e i x (some (.ref s)) w7 w8 w9) g = .nx (pE p pp q e i x (some (.ref s)) (some (qo l)) w8 w9) (g ++ tl) ∧ LbO l := by
  have ix2 : mIx (.ref s) (.int 2) g = .val (.int a2) g := mIx_lst es atI2
  by_cases hc : 0 < a2.fmod 6
  · obtain ⟨tl, l, x1, x3⟩ := line_ok es c0 c1
    exact ⟨tl, some l, by simp [b7, pE, ix2, mod6, hc, x1], x3⟩
  · exact ⟨[], none, by simp [b7, pE, ix2, mod6, hc], trivial⟩
theorem r8 {s : Nat} {a0 a1 a2 a3 a4 : Int} (es : g[s]? = some (.lst [.int a0, .int a1, .int a2, .int a3, .int a4])) :
    b8 (pE p pp q e i x (some (.ref s)) w7 w8 w9) g = .nx (pE p pp q e i x (some (.ref s)) w7 (some (q2 (a4.fmod 9, 1 + (a4.fdiv 9).fmod 3))) w9) g := by
  have ix4 : mIx (.ref s) (.int 4) g = .val (.int a4) g := mIx_lst es atI4
  simp [b8, pE, ix4, mod9, div9, mod3]
/-- a time: none, or two numbers -/
def PosO : Option QQ → Prop
  | none => True
  | some t => 0 < t.2 ∧ Bn 80 t.1 ∧ Bn 80 t.2
/-- a fraction that is not long -/
def TbO : Option QQ → Prop
  | none => True
  | some t => Fq t ∧ Bn 80 t.1 ∧ Bn 80 t.2
theorem TbO.fq {t : Option QQ} (h : TbO t) : FqO t := by
  cases t with
  | none => trivial
  | some t => exact h.1
theorem fr_bn {n d : Int} {k l : Nat} (hd : 0 < d) (h1 : Bn k n) (h2 : Bn l d) : Bn k (fr n d).1 ∧ Bn l (fr n d).2 := ⟨Nat.lt_of_le_of_lt (fr_le hd).1 h1, Nat.lt_of_le_of_lt (fr_le hd).2 h2⟩
theorem vl_fq {l : Option QQ} {x : QQ} (ll : LbO l) (g : Gd 60 x) : FqO (vl l x) := by
  cases l with
  | none => trivial
  | some l =>
    obtain ⟨b1, b2⟩ := ll
    exact fr_fq g.fq.ps (((b1.mul g.b1).add (b2.mul g.b2)).sm (by decide)) g.fq.s2
theorem vl_tb {l : Option QQ} {x : QQ} (ll : LbO l) (g : Gd 60 x) : TbO (vl l x) := by
  have f := vl_fq ll g
  cases l with
  | none => trivial
  | some l =>
    obtain ⟨b1, b2⟩ := ll
    have z := fr_bn g.fq.ps ((b1.mul g.b1).add (b2.mul g.b2)) g.b2
    exact ⟨f, z.1.mono (by decide), z.2.mono (by decide)⟩
theorem six_of {v : Int} (h0 : 0 ≤ v) (h1 : v < 6) : ∃ s : Int, (s = 0 ∨ s = 1 ∨ s = 2) ∧ atI [W.int 0, .int 0, .int 0, .int 1, .int 2, .int 2] v = some (.int s) := by
  have c : v = 0 ∨ v = 1 ∨ v = 2 ∨ v = 3 ∨ v = 4 ∨ v = 5 := by omega
  rcases c with rfl | rfl | rfl | rfl | rfl | rfl
  · exact ⟨0, .inl rfl, atI0⟩
  · exact ⟨0, .inl rfl, atI1⟩
  · exact ⟨0, .inl rfl, atI2⟩
  · exact ⟨1, .inr (.inl rfl), atI3⟩
  · exact ⟨2, .inr (.inr rfl), atI4⟩
  · exact ⟨2, .inr (.inr rfl), atI5⟩

theorem r9 {s : Nat} {l : Option QQ} {f : QQ} {a0 a1 a2 a3 a4 : Int} (es : g[s]? = some (.lst [.int a0, .int a1, .int a2, .int a3, .int a4])) (gx : Gd 60 x) (ll : LbO l) (pf : PosO (some f)) :
    ∃ tl t, b9 (pE p pp q e i x (some (.ref s)) (some (qo l)) (some (q2 f)) w9) g = .nx (pE p pp q e i x (some (.ref s)) (some (qo l)) (some (q2 f)) (some (qo t))) (g ++ tl) ∧ PosO t := by
  have lvv := lvalue_ok (h := g) (l := l) gx.fq ll.ln
  have fq := vl_tb ll gx
  have pv : PosO (vl l x) := by
    cases hv : vl l x with
    | none => trivial
    | some y => rw [hv] at fq; exact ⟨fq.1.ps, fq.2.1, fq.2.2⟩
  let A : O := .lst [qo (vl l x), .non, q2 f]
  let B : O := .lst [.int 0, .int 0, .int 0, .int 1, .int 2, .int 2]
  have es3 : (g ++ [A] ++ [B])[s]? = some (.lst [.int a0, .int a1, .int a2, .int a3, .int a4]) := get_old (get_old es)
  have f6 := fmod_in a3 (show (0 : Int) < 6 by decide)
  obtain ⟨σ, hσ, eσ⟩ := six_of f6.1 f6.2
  have ix3 : mIx (.ref s) (.int 3) (g ++ [A] ++ [B]) = .val (.int a3) (g ++ [A] ++ [B]) := mIx_lst es3 atI3
  have iB : mIx (.ref (g ++ [A]).length) (.int (a3.fmod 6)) (g ++ [A] ++ [B]) = .val (.int σ) (g ++ [A] ++ [B]) := mIx_lst get_last eσ
  have eA : (g ++ [A] ++ [B])[g.length]? = some A := get_old (get_last (h := g))
  obtain ⟨t, h1, h3⟩ : ∃ t, atI [qo (vl l x), .non, q2 f] σ = some (qo t) ∧ PosO t := by
    rcases hσ with rfl | rfl | rfl
    · exact ⟨_, atI0, pv⟩
    · exact ⟨none, atI1, trivial⟩
    · exact ⟨some f, atI2, pf⟩
  have iA : mIx (.ref g.length) (.int σ) (g ++ [A] ++ [B]) = .val (qo t) (g ++ [A] ++ [B]) := mIx_lst eA h1
  have ap : g ++ [A, B] = g ++ [A] ++ [B] := by simp
  refine ⟨[A, B], t, ?_, h3⟩
  rw [ap]
  have lA : (mLst (mCons (mCall 2 m__law_value (mCons (mVar 7) (mCons (mVar 5) mNil))) (mCons (mC .non) (mCons (mVar 8) mNil)))) (pE p pp q e i x (some (.ref s)) (some (qo l)) (some (q2 f)) w9) g = .val (.ref g.length) (g ++ [A]) := by
    simp [pE, lvv, A]
  have lB : (mLst (mCons (mC (.int 0)) (mCons (mC (.int 0)) (mCons (mC (.int 0)) (mCons (mC (.int 1)) (mCons (mC (.int 2)) (mCons (mC (.int 2)) mNil))))))) (pE p pp q e i x (some (.ref s)) (some (qo l)) (some (q2 f)) w9) (g ++ [A]) = .val (.ref (g ++ [A]).length) (g ++ [A] ++ [B]) := by
    generalize g ++ [A] = g2
    simp [pE, B]
  unfold b9
  rw [mSet_eq, m2_eq, lA, bind_val, m2_eq, lB, bind_val]
  generalize g ++ [A] ++ [B] = g3 at *
  generalize (g ++ [A]).length = n2 at *
  simp [pE, ix3, mod6, iB, iA]
theorem r10 {t : Option QQ} (pt : PosO t) :
    ∃ t', b10 (pE p pp q e i x w6 w7 w8 (some (qo t))) g = .nx (pE p pp q e i x w6 w7 w8 (some (qo t'))) g ∧ TbO t' := by
  cases t with
  | none => exact ⟨none, by simp [b10, pE], trivial⟩
  | some t =>
    have f := lfr_eq (h := g) (n := t.1) pt.1 (pt.2.2.sm (by decide))
    exact ⟨some (fr t.1 t.2), by simp [b10, pE, f], fr_fq pt.1 (pt.2.1.sm (by decide)) (pt.2.2.sm (by decide)), fr_bn pt.1 pt.2.1 pt.2.2⟩
theorem cmp_nil {P : List Pc} {neg : Bool} (l : LP g q P) : mEq neg (.ref q) (.ref g.length) (g ++ [.lst []]) = .val (.bl (if neg then !decide (P = []) else decide (P = []))) (g ++ [.lst []]) := cmp_lists (l.old _) (show LP (g ++ [.lst []]) g.length [] from get_last)
theorem r11 {h : Hv} {xs : List QQ} {P : List Pc} {s : Nat} {l t : Option QQ} {a0 a1 a2 a3 a4 : Int} (st : St h p pp q ds xs P g) (es : g[s]? = some (.lst [.int a0, .int a1, .int a2, .int a3, .int a4])) (gx : Gd 60 x) (ll : LbO l) (ft : TbO t)
    (hP : 0 < P.length → ∃ x' y' l', P[P.length - 1]? = some (.bt x' y' l') ∧ LbO l') :
    ∃ tl l2 t2, b11 (pE p pp q e i x (some (.ref s)) (some (qo l)) w8 (some (qo t))) g = .nx (pE p pp q e i x (some (.ref s)) (some (qo l2)) w8 (some (qo t2))) (g ++ tl) ∧ LbO l2 ∧ TbO t2 := by
  have ix3 : mIx (.ref s) (.int 3) g = .val (.int a3) g := mIx_lst es atI3
  by_cases c1 : (a3.fdiv 6).fmod 2 = 0
  · have cm := cmp_nil (neg := true) st.pc
    have le : (mLst mNil) (pE p pp q e i x (some (.ref s)) (some (qo l)) w8 (some (qo t))) g = .val (.ref g.length) (g ++ [.lst []]) := by simp
    have t1 : (mAndT (mT (m2 (mEq false) (m2 mMod (mB mInt (mCons (m2 mDiv (m2 mIx (mVar 6) (mC (.int 3))) (mC (.int 6))) mNil)) (mC (.int 2))) (mC (.int 0)))) (mT (m2 (mEq true) (mVar 2) (mLst mNil)))) (pE p pp q e i x (some (.ref s)) (some (qo l)) w8 (some (qo t))) g = .val (!decide (P = [])) (g ++ [.lst []]) := by
      simp only [mAndT_eq, mT_eq, m2_eq, mB_eq, mCons_eq, mNil_eq, mVar0, mVarS, bind_val, mC_eq, ix3, div6, mInt_int, mod2, eq_int, c1, decide_true, asB_bl, if_true, le, cm]
    by_cases c2 : P = []
    · rw [decide_eq_true c2] at t1
      refine ⟨[.lst []], l, t, ?_, ll, ft⟩
      unfold b11
      rw [mIfS_eq, t1, andS_val]
      rfl
    · rw [decide_eq_false c2] at t1
      have np : 0 < P.length := by
        cases P with
        | nil => exact absurd rfl c2
        | cons a b => simp
      obtain ⟨x', y', l', hl1, hl2⟩ := hP np
      have pc1 : LP (g ++ [.lst []]) q P := st.pc.old _
      have j1 := pc1.last hl1
      have lvv := lvalue_ok (h := g ++ [.lst []]) (l := l') gx.fq hl2.ln
      have ix3' : mIx (.ref s) (.int 3) (g ++ [.lst []]) = .val (.int a3) (g ++ [.lst []]) := mIx_lst (get_old es) atI3
      have s9 : (mSet 9 (mCall 2 m__law_value (mCons (m2 mIx (m2 mIx (mVar 2) (m1 mNeg (mC (.int 1)))) (mC (.int 3))) (mCons (mVar 5) mNil)))) (pE p pp q e i x (some (.ref s)) (some (qo l)) w8 (some (qo t))) (g ++ [.lst []]) = .nx (pE p pp q e i x (some (.ref s)) (some (qo l)) w8 (some (qo (vl l' x)))) (g ++ [.lst []]) := by
        simp [pE, j1, lvv]
      have ft2 := vl_tb hl2 gx
      by_cases c3 : (a3.fdiv 12).fmod 2 = 0
      · have s7 : (mSet 7 (mIf (mT (m2 (mEq false) (m2 mMod (mB mInt (mCons (m2 mDiv (m2 mIx (mVar 6) (mC (.int 3))) (mC (.int 12))) mNil)) (mC (.int 2))) (mC (.int 0)))) (m2 mIx (m2 mIx (mVar 2) (m1 mNeg (mC (.int 1)))) (mC (.int 3))) (mVar 7))) (pE p pp q e i x (some (.ref s)) (some (qo l)) w8 (some (qo (vl l' x)))) (g ++ [.lst []]) = .nx (pE p pp q e i x (some (.ref s)) (some (qo l')) w8 (some (qo (vl l' x)))) (g ++ [.lst []]) := by
          simp [pE, ix3', div12, mod2, c3, j1]
        refine ⟨[.lst []], l', vl l' x, ?_, hl2, ft2⟩
        unfold b11
        rw [mIfS_eq, t1, andS_val, if_pos (show (!false) = true from rfl), mSeq_eq, s9, thenS_nx, s7]
      · have s7 : (mSet 7 (mIf (mT (m2 (mEq false) (m2 mMod (mB mInt (mCons (m2 mDiv (m2 mIx (mVar 6) (mC (.int 3))) (mC (.int 12))) mNil)) (mC (.int 2))) (mC (.int 0)))) (m2 mIx (m2 mIx (mVar 2) (m1 mNeg (mC (.int 1)))) (mC (.int 3))) (mVar 7))) (pE p pp q e i x (some (.ref s)) (some (qo l)) w8 (some (qo (vl l' x)))) (g ++ [.lst []]) = .nx (pE p pp q e i x (some (.ref s)) (some (qo l)) w8 (some (qo (vl l' x)))) (g ++ [.lst []]) := by
          simp [pE, ix3', div12, mod2, c3]
        refine ⟨[.lst []], l, vl l' x, ?_, ll, ft2⟩
        unfold b11
        rw [mIfS_eq, t1, andS_val, if_pos (show (!false) = true from rfl), mSeq_eq, s9, thenS_nx, s7]
  · refine ⟨[], l, t, ?_, ll, ft⟩
    rw [List.append_nil]
    simp [b11, pE, ix3, div6, mod2, c1]
end
/-! ### what is made, by its places -/
structure Wp (xs : List QQ) (m : Nat) (P : List Pc) : Prop where
  len : P.length = m
  at_ : ∀ j, 2 * j < m → ∃ x t, xs[j]? = some x ∧ P[2 * j]? = some (.at x t) ∧ TbO t
  bt_ : ∀ j, 2 * j + 1 < m → ∃ x l, xs[j]? = some x ∧ P[2 * j + 1]? = some (.bt x xs[j + 1]? l) ∧ LbO l
section
variable {xs : List QQ} {i m : Nat} {P : List Pc} {x : QQ} {t l : Option QQ}
theorem Wp.addA (w : Wp xs (2 * i) P) (hx : xs[i]? = some x) (ft : TbO t) : Wp xs (2 * i + 1) (P ++ [.at x t]) := by
  have hl := w.len
  refine ⟨by simp [hl], fun j hj => ?_, fun j hj => ?_⟩
  · by_cases lt : 2 * j < 2 * i
    · obtain ⟨x', t', a, b, c⟩ := w.at_ j lt
      exact ⟨x', t', a, by rw [get_app_lt (by omega)]; exact b, c⟩
    · have e : j = i := by omega
      subst e
      exact ⟨x, t, hx, by rw [← hl]; exact get_app_eq, ft⟩
  · obtain ⟨x', t', a, b, c⟩ := w.bt_ j (by omega)
    exact ⟨x', t', a, by rw [get_app_lt (by omega)]; exact b, c⟩
theorem Wp.addB (w : Wp xs (2 * i + 1) P) (hx : xs[i]? = some x) (ll : LbO l) : Wp xs (2 * i + 2) (P ++ [.bt x xs[i + 1]? l]) := by
  have hl := w.len
  refine ⟨by simp [hl], fun j hj => ?_, fun j hj => ?_⟩
  · obtain ⟨x', t', a, b, c⟩ := w.at_ j (by omega)
    exact ⟨x', t', a, by rw [get_app_lt (by omega)]; exact b, c⟩
  · by_cases lt : 2 * j + 1 < 2 * i + 1
    · obtain ⟨x', t', a, b, c⟩ := w.bt_ j lt
      exact ⟨x', t', a, by rw [get_app_lt (by omega)]; exact b, c⟩
    · have e : j = i := by omega
      subst e
      exact ⟨x, l, hx, by rw [← hl]; exact get_app_eq, ll⟩
theorem Wp.wf (w : Wp xs m P) (hn : 0 < xs.length) (hm : m = 2 * xs.length ∨ m + 1 = 2 * xs.length) (inc : Inc xs) (gd : ∀ x ∈ xs, Gd 60 x) : Wf P := by
  have hl := w.len
  have gm : ∀ {j : Nat} {x : QQ}, xs[j]? = some x → Gd 60 x := fun h => gd _ (List.mem_of_getElem? h)
  refine ⟨by omega, ?_, fun i h1 h2 => ?_, fun i h1 h2 => ?_⟩
  · obtain ⟨x, t, a, b, c⟩ := w.at_ 0 (by omega)
    exact ⟨x, t, b, (gm a).nn⟩
  · obtain ⟨x, t, a, b, c⟩ := w.at_ (i / 2) (by omega)
    have e : 2 * (i / 2) = i := by omega
    rw [e] at b
    exact ⟨x, t, b, (gm a).fq, c.fq⟩
  · obtain ⟨x, l, a, b, c⟩ := w.bt_ (i / 2) (by omega)
    obtain ⟨x', t, a', b', c'⟩ := w.at_ (i / 2) (by omega)
    have e : 2 * (i / 2) + 1 = i := by omega
    have e2 : 2 * (i / 2) = i - 1 := by omega
    rw [e] at b
    rw [e2] at b'
    rw [a] at a'
    cases a'
    refine ⟨x, t, xs[i / 2 + 1]?, l, b', b, ?_, c.ln, fun y' hy => inc _ _ _ a hy, fun h3 => ?_, fun h3 => ?_⟩
    · cases hy : xs[i / 2 + 1]? with
      | none => trivial
      | some y => exact (gm hy).fq
    · obtain ⟨y, t2, a2, b2, c2⟩ := w.at_ (i / 2 + 1) (by omega)
      have e3 : 2 * (i / 2 + 1) = i + 1 := by omega
      rw [e3] at b2
      exact ⟨y, t2, a2, b2⟩
    · exact List.getElem?_eq_none (by omega)
end

end SHP
end
section
namespace SHP
open PySem L2 VL
section
variable {p pp q i : Nat} {e : Int} {x : QQ} {w6 w7 w8 w9 : Option W} {g : Hv} {ds : List Int}
theorem r12 {h : Hv} {xs : List QQ} {P : List Pc} {t : Option QQ} (st : St h p pp q ds xs P g) (hs : P.length < 1000) :
    b12 (pE p pp q e i x w6 w7 w8 (some (qo t))) g = .nx (pE p pp q e i x w6 w7 w8 (some (qo t))) (g.set q (.lst ((P ++ [Pc.at x t]).map pW))) := by
  have l : g[q]? = some (.lst (P.map pW)) := st.pc
  have lm : (P.map pW).length < 100000 := by simp; omega
  have v2 : mVar 2 (pE p pp q e i x w6 w7 w8 (some (qo t))) g = .val (.ref q) g := rfl
  have v5 : mVar 5 (pE p pp q e i x w6 w7 w8 (some (qo t))) g = .val (q2 x) g := rfl
  have v9 : mVar 9 (pE p pp q e i x w6 w7 w8 (some (qo t))) g = .val (qo t) g := rfl
  unfold b12
  rw [mExpr_eq]
  simp only [mApp, v2, bind_val, l, mTup_eq, mCons_eq, mC_eq, v5, v9, mNil_eq, List.length_cons, List.length_nil, Nat.zero_add, Nat.reduceAdd, show (3 : Nat) ≤ 100000 from by decide, lm, if_true, andS_val, List.map_append, List.map_cons, List.map_nil]
  rfl
theorem r13 {h : Hv} {xs : List QQ} {P : List Pc} {l : Option QQ} (st : St h p pp q ds xs P g) (hs : P.length < 1000) (hxs : xs.length < 1000) :
    b13 (pE p pp q e i x w6 (some (qo l)) w8 w9) g = .nx (pE p pp q e i x w6 (some (qo l)) w8 w9) (if i + 1 < xs.length ∨ e = 1 then g.set q (.lst ((P ++ [Pc.bt x xs[i + 1]? l]).map pW)) else g) := by
  have ln := len_lst st.pt
  rw [List.length_map] at ln
  have ci : ((i : Int) + 1 < (xs.length : Int)) ↔ i + 1 < xs.length := by omega
  have tst : (mT (m2 mLt (m2 mAdd (mVar 4) (mC (.int 1))) (mB mLen (mCons (mVar 1) mNil)))) (pE p pp q e i x w6 (some (qo l)) w8 w9) g = .val (decide (i + 1 < xs.length)) g := by
    simp [pE, ln, ci]
  have cnd : (mOrT (mT (m2 mLt (m2 mAdd (mVar 4) (mC (.int 1))) (mB mLen (mCons (mVar 1) mNil)))) (mT (m2 (mEq false) (mVar 3) (mC (.int 1))))) (pE p pp q e i x w6 (some (qo l)) w8 w9) g = .val (decide (i + 1 < xs.length ∨ e = 1)) g := by
    rw [mOrT_eq, tst, bind_val]
    by_cases c : i + 1 < xs.length
    · simp [c]
    · simp [c, pE, eq_int]
  by_cases c : i + 1 < xs.length ∨ e = 1
  · have sel : (mIf (mT (m2 mLt (m2 mAdd (mVar 4) (mC (.int 1))) (mB mLen (mCons (mVar 1) mNil)))) (m2 mIx (mVar 1) (m2 mAdd (mVar 4) (mC (.int 1)))) (mC .non)) (pE p pp q e i x w6 (some (qo l)) w8 w9) g = .val (qo xs[i + 1]?) g := by
      rw [mIf_eq, tst, bind_val]
      by_cases c2 : i + 1 < xs.length
      · have hx : xs[i + 1]? = some xs[i + 1] := List.getElem?_eq_getElem c2
        have ix : mIx (.ref pp) (.int ((i : Int) + 1)) g = .val (q2 xs[i + 1]) g := ix_nat (j := i + 1) st.pt (by rw [List.getElem?_map, hx]; rfl)
        rw [hx]
        simp [pE, c2, ix]
      · have hx : xs[i + 1]? = none := List.getElem?_eq_none (by omega)
        rw [hx]
        simp [c2]
    have lq : g[q]? = some (.lst (P.map pW)) := st.pc
    have lm : (P.map pW).length < 100000 := by simp; omega
    have v2 : mVar 2 (pE p pp q e i x w6 (some (qo l)) w8 w9) g = .val (.ref q) g := rfl
    have v5 : mVar 5 (pE p pp q e i x w6 (some (qo l)) w8 w9) g = .val (q2 x) g := rfl
    have v7 : mVar 7 (pE p pp q e i x w6 (some (qo l)) w8 w9) g = .val (qo l) g := rfl
    unfold b13
    rw [mIfS_eq, cnd, andS_val, decide_eq_true c, if_pos rfl, mExpr_eq, if_pos c]
    simp only [mApp, v2, bind_val, lq, mTup_eq, mCons_eq, mC_eq, v5, v7, sel, mNil_eq, List.length_cons, List.length_nil, Nat.zero_add, Nat.reduceAdd, show (4 : Nat) ≤ 100000 from by decide, lm, if_true, andS_val, List.map_append, List.map_cons, List.map_nil]
    rfl
  · unfold b13
    rw [mIfS_eq, cnd, andS_val, decide_eq_false c, if_neg (by decide), if_neg c]
    rfl
end
theorem lpieces_ok {h : Hv} {p : Nat} {ds : List Int} (ed : h[p]? = some (.lst (ds.map W.int))) (hd : ∀ d ∈ ds, I420 d) (hl : 42 ≤ ds.length) :
    ∃ (q : Nat) (g : Hv) (P : List Pc) (xs : List QQ) (m : Nat), m__law_pieces [.ref p] h = .val (.ref q) g ∧ LP g q P ∧ Wf P ∧ P.length ≤ 12 ∧ Ext h g ∧ Wp xs m P ∧ (∀ x ∈ xs, Gd 60 x) ∧ h.length ≤ q := by
  obtain ⟨d0, d1, dr, rfl⟩ : ∃ d0 d1 dr, ds = d0 :: d1 :: dr := by
    match ds, hl with
    | d0 :: d1 :: dr, _ => exact ⟨d0, d1, dr, rfl⟩
    | [a], h => simp at h
    | [], h => simp at h
  have f5 := fmod_in (d0.fdiv 3) (show (0 : Int) < 5 by decide)
  obtain ⟨k, hk, hk5⟩ : ∃ k : Nat, (d0.fdiv 3).fmod 5 = (k : Int) ∧ k < 5 := ⟨((d0.fdiv 3).fmod 5).toNat, by omega, by omega⟩
  let rest : List Int := (d1 :: dr).take (1 + k)
  let h1 : Hv := h ++ [.lst ((d0 :: rest).map W.int)]
  have hp : p < h.length := lt_of_get ed
  have lr : rest.length = 1 + k := by simp only [rest, List.length_take]; simp at hl ⊢; omega
  have ix0 : mIx (.ref p) (.int 0) h = .val (.int d0) h := mIx_lst ed atI0
  obtain ⟨xs, q1, q4, q5, q6⟩ := points_ok (h := h1) (p := h.length) (d0 := d0) (ds := rest) get_last (by omega)
  have l1 : h1.length = h.length + 1 := by simp [h1]
  let G : Hv := h1 ++ [.lst (xs.map q2), .lst (rest.map W.int)]
  have x0 : Ext h G := (Ext.more h _).trans (Ext.more _ _)
  let e : Int := (d1.fdiv 3).fmod 2
  let pp := h1.length
  let q := G.length
  have lG : G.length = h.length + 3 := by simp [G, h1]
  have n0 : 0 < xs.length := by omega
  have ptG : G[pp]? = some (.lst (xs.map q2)) := by simp [G, pp]
  have st0 : St h p pp q (d0 :: d1 :: dr) xs [] (G ++ [.lst []]) := ⟨get_old (x0 _ _ ed), get_old ptG, get_last, x0.trans (Ext.more _ _), by show p ≠ G.length; omega, by show h1.length ≠ G.length; omega, by show h.length ≤ G.length; omega⟩
  let I : Nat → Ws → Hv → Prop := fun i r g => ∃ w4 w5 w6 w7 w8 w9 P, r = [some (.ref p), some (.ref pp), some (.ref q), some (.int e), w4, w5, w6, w7, w8, w9] ∧ St h p pp q (d0 :: d1 :: dr) xs P g ∧ (i < xs.length → Wp xs (2 * i) P) ∧ (i = xs.length → ∃ m, Wp xs m P ∧ (m = 2 * xs.length ∨ m + 1 = 2 * xs.length))
  have keep : ∀ i r g, I i r g → g[pp]? = some (.lst (xs.map q2)) := by
    rintro i r g ⟨w4, w5, w6, w7, w8, w9, P, _, s, _⟩
    exact s.pt
  have step : ∀ (i : Nat) w, (xs.map q2)[i]? = some w → ∀ r g, I i r g → ∃ r' g', pcB ((r.set 4 (some (.int i))).set 5 (some w)) g = .nx r' g' ∧ I (i + 1) r' g' := by
    rintro i w ew r g ⟨w4, w5, w6, w7, w8, w9, P, rfl, st, wp, _⟩
    rw [List.getElem?_map] at ew
    obtain ⟨x, ex, rfl⟩ := Option.map_eq_some_iff.mp ew
    have hix := lt_of_get ex
    have wp := wp hix
    have gx : Gd 60 x := q6 x (List.mem_of_getElem? ex)
    show ∃ r' g', pcB (pE p pp q e i x w6 w7 w8 w9) g = .nx r' g' ∧ I (i + 1) r' g'
    obtain ⟨a0, a1, a2, a3, a4, c0, c1, c2, c3, c4, s6⟩ := r6 (pp := pp) (q := q) (x := x) (e := e) (w6 := w6) (w7 := w7) (w8 := w8) (w9 := w9) st.dg hd hl (i := i) (by omega)
    have st1 := st.old [.lst [.int a0, .int a1, .int a2, .int a3, .int a4]]
    have es1 : (g ++ [O.lst [.int a0, .int a1, .int a2, .int a3, .int a4]])[g.length]? = some (.lst [.int a0, .int a1, .int a2, .int a3, .int a4]) := get_last
    generalize hG1 : g ++ [O.lst [.int a0, .int a1, .int a2, .int a3, .int a4]] = G1 at s6 st1 es1
    generalize g.length = sp at s6 es1
    obtain ⟨tl7, l7, s7, ll7⟩ := r7 (p := p) (pp := pp) (q := q) (x := x) (i := i) (e := e) (w7 := w7) (w8 := w8) (w9 := w9) es1 c0 c1
    have st2 := st1.old tl7
    have es2 := get_old (t := tl7) es1
    generalize hG2 : G1 ++ tl7 = G2 at s7 st2 es2
    have s8 := r8 (p := p) (pp := pp) (q := q) (x := x) (i := i) (e := e) (w7 := some (qo l7)) (w8 := w8) (w9 := w9) es2
    have f9 := fmod_in a4 (show (0 : Int) < 9 by decide)
    have f3 := fmod_in (a4.fdiv 9) (show (0 : Int) < 3 by decide)
    have pf : PosO (some (a4.fmod 9, 1 + (a4.fdiv 9).fmod 3)) := by
      have p10 : (2 : Nat) ^ 10 = 1024 := rfl
      have z1 : Bn 10 (a4.fmod 9) := by unfold Bn; omega
      have z2 : Bn 10 (1 + (a4.fdiv 9).fmod 3) := by unfold Bn; omega
      exact ⟨by show 0 < 1 + (a4.fdiv 9).fmod 3; omega, z1.mono (by decide), z2.mono (by decide)⟩
    obtain ⟨tl9, t9, s9, pt9⟩ := r9 (p := p) (pp := pp) (q := q) (i := i) (e := e) (w9 := w9) es2 gx ll7 pf
    have st4 := st2.old tl9
    have es4 := get_old (t := tl9) es2
    generalize hG4 : G2 ++ tl9 = G4 at s9 st4 es4
    generalize (a4.fmod 9, 1 + (a4.fdiv 9).fmod 3) = far at s8 s9 pf
    obtain ⟨t10, s10, ft10⟩ := r10 (g := G4) (p := p) (pp := pp) (q := q) (x := x) (i := i) (e := e) (w6 := some (.ref sp)) (w7 := some (qo l7)) (w8 := some (q2 far)) pt9
    have hP : 0 < P.length → ∃ x' y' l', P[P.length - 1]? = some (.bt x' y' l') ∧ LbO l' := fun h0 => by
      have hlen := wp.len
      obtain ⟨x', l', a, b, c⟩ := wp.bt_ (i - 1) (by omega)
      have e1 : 2 * (i - 1) + 1 = P.length - 1 := by omega
      rw [e1] at b
      exact ⟨x', _, l', b, c⟩
    obtain ⟨tl11, l2, t2, s11, ll2, ft2⟩ := r11 (i := i) (e := e) (w8 := some (q2 far)) st4 es4 gx ll7 ft10 hP
    have st6 := st4.old tl11
    generalize hG6 : G4 ++ tl11 = G6 at s11 st6
    have hPl : P.length < 1000 := by have := wp.len; omega
    have s12 := r12 (i := i) (e := e) (x := x) (t := t2) (w6 := some (.ref sp)) (w7 := some (qo l2)) (w8 := some (q2 far)) st6 hPl
    have st7 := st6.put (.at x t2)
    have wpA := wp.addA ex ft2
    generalize hG7 : G6.set q (.lst ((P ++ [Pc.at x t2]).map pW)) = G7 at s12 st7
    have s13 := r13 (i := i) (e := e) (x := x) (l := l2) (w6 := some (.ref sp)) (w8 := some (q2 far)) (w9 := some (qo t2)) st7 (by have := wpA.len; omega) (by omega)
    by_cases c : i + 1 < xs.length ∨ e = 1
    · rw [if_pos c] at s13
      have wpB := wpA.addB ex ll2
      have st8 := st7.put (.bt x xs[i + 1]? l2)
      generalize hG8 : G7.set q (.lst ((P ++ [Pc.at x t2] ++ [Pc.bt x xs[i + 1]? l2]).map pW)) = G8 at s13 st8
      refine ⟨pE p pp q e i x (some (.ref sp)) (some (qo l2)) (some (q2 far)) (some (qo t2)), G8, ?_, ?_⟩
      · unfold pcB
        rw [mSeq_eq, s6, thenS_nx, mSeq_eq, s7, thenS_nx, mSeq_eq, s8, thenS_nx, mSeq_eq, s9, thenS_nx, mSeq_eq, s10, thenS_nx, mSeq_eq, s11, thenS_nx, mSeq_eq, s12, thenS_nx, s13]
      · exact ⟨_, _, _, _, _, _, _, rfl, st8, fun _ => wpB, fun z => ⟨_, wpB, .inl (by omega)⟩⟩
    · rw [if_neg c] at s13
      refine ⟨pE p pp q e i x (some (.ref sp)) (some (qo l2)) (some (q2 far)) (some (qo t2)), G7, ?_, ?_⟩
      · unfold pcB
        rw [mSeq_eq, s6, thenS_nx, mSeq_eq, s7, thenS_nx, mSeq_eq, s8, thenS_nx, mSeq_eq, s9, thenS_nx, mSeq_eq, s10, thenS_nx, mSeq_eq, s11, thenS_nx, mSeq_eq, s12, thenS_nx, s13]
      · exact ⟨_, _, _, _, _, _, _, rfl, st7, fun z => absurd (.inl z) c, fun z => ⟨_, wpA, .inr (by omega)⟩⟩
  have i0 : I 0 [some (.ref p), some (.ref pp), some (.ref q), some (.int e), none, none, none, none, none, none] (G ++ [.lst []]) :=
    ⟨none, none, none, none, none, none, [], rfl, st0, fun _ => ⟨rfl, fun j hj => absurd hj (Nat.not_lt_zero _), fun j hj => absurd hj (Nat.not_lt_zero _)⟩, fun z => by omega⟩
  have lxs : (xs.map q2).length = xs.length := List.length_map ..
  obtain ⟨r9, g9, lp, w4, w5, w6, w7, w8, w9, P, rfl, st, _, fin⟩ := for_enumI I keep step (xs.map q2).length 0 _ (G ++ [.lst []]) (by omega) i0
  obtain ⟨m, wp, hm⟩ := fin lxs
  refine ⟨q, g9, P, xs, m, ?_, st.pc, wp.wf n0 hm q5 q6, by have := wp.len; omega, st.ex, wp, q6, st.hq⟩
  have s0 : startW ["_law_digits", "_law_points_here", "_law_pieces_here", "_law_ends", "_law_at", "_law_x", "_law_some", "_law_line_here", "_law_far", "_law_time_here"] [.ref p] = [some (.ref p), none, none, none, none, none, none, none, none, none] := rfl
  have ct : cutW ((d0 :: d1 :: dr).map W.int) none (some ((2 + k : Nat) : Int)) = (d0 :: rest).map W.int := by
    rw [cut_take _ _ (by simp at hl ⊢; omega), ← List.map_take]
    have : (d0 :: d1 :: dr).take (2 + k) = d0 :: rest := by
      have : 2 + k = (1 + k) + 1 := by omega
      rw [this]
      rfl
    rw [this]
  have i2 : (2 : Int) + (k : Int) = ((2 + k : Nat) : Int) := by omega
  have t1 : (mSet 1 (mCall 1 m__law_points (mCons (mSl (mVar 0) (mPart none) (mPart (some (m2 mAdd (mC (.int 2)) (m2 mMod (mB mInt (mCons (m2 mDiv (m2 mIx (mVar 0) (mC (.int 0))) (mC (.int 3))) mNil)) (mC (.int 5))))))) mNil))) [some (.ref p), none, none, none, none, none, none, none, none, none] h = .nx [some (.ref p), some (.ref pp), none, none, none, none, none, none, none, none] G := by
    have sl : (mSl (mVar 0) (mPart none) (mPart (some (m2 mAdd (mC (.int 2)) (m2 mMod (mB mInt (mCons (m2 mDiv (m2 mIx (mVar 0) (mC (.int 0))) (mC (.int 3))) mNil)) (mC (.int 5))))))) [some (.ref p), none, none, none, none, none, none, none, none, none] h = .val (.ref h.length) h1 := by
      simp only [mSl, mPart, mVar0, bind_val, m2_eq, mB_eq, mCons_eq, mNil_eq, mC_eq, ix0, div3, mInt_int, mod5, hk, mAdd_int, i2, mCut, ed, ct]
      rfl
    rw [mSet_eq, mCall_eq, mCons_eq, sl, bind_val, mNil_eq, bind_val, bind_val, if_pos (show [W.ref h.length].length = 1 from rfl), q1, andS_val]
    rfl
  have t2 : (mPar 2 3 (mCons (mLst mNil) (mCons (m2 mMod (mB mInt (mCons (m2 mDiv (m2 mIx (mVar 0) (mC (.int 1))) (mC (.int 3))) mNil)) (mC (.int 2))) mNil))) [some (.ref p), some (.ref pp), none, none, none, none, none, none, none, none] G = .nx [some (.ref p), some (.ref pp), some (.ref q), some (.int e), none, none, none, none, none, none] (G ++ [.lst []]) := by
    have a1 : (mLst mNil) [some (.ref p), some (.ref pp), none, none, none, none, none, none, none, none] G = .val (.ref q) (G ++ [.lst []]) := by simp [q]
    have jx : mIx (.ref p) (.int 1) (G ++ [.lst []]) = .val (.int d1) (G ++ [.lst []]) := mIx_lst st0.dg atI1
    have a2 : (m2 mMod (mB mInt (mCons (m2 mDiv (m2 mIx (mVar 0) (mC (.int 1))) (mC (.int 3))) mNil)) (mC (.int 2))) [some (.ref p), some (.ref pp), none, none, none, none, none, none, none, none] (G ++ [.lst []]) = .val (.int e) (G ++ [.lst []]) := by
      clear_value G
      simp [jx, div3, mod2, e]
    unfold mPar
    rw [mCons_eq, a1, bind_val, mCons_eq, a2, bind_val, mNil_eq, bind_val, bind_val, andS_val]
    rfl
  have sr : (mEnum (mCons (mVar 1) mNil)) [some (.ref p), some (.ref pp), some (.ref q), some (.int e), none, none, none, none, none, none] (G ++ [.lst []]) = .val ⟨(xs.map q2).length + 1, nxEnum pp⟩ (G ++ [.lst []]) := by
    unfold mEnum
    rw [mCons_eq]
    simp only [mVar0, mVarS, bind_val, mNil_eq, srcE, st0.pt]
  have fe : mFor (mEnum (mCons (mVar 1) mNil)) (mGs 2 (mGcons (mGn 4) (mGcons (mGn 5) mGnil))) pcB [some (.ref p), some (.ref pp), some (.ref q), some (.int e), none, none, none, none, none, none] (G ++ [.lst []]) = .nx [some (.ref p), some (.ref pp), some (.ref q), some (.int e), w4, w5, w6, w7, w8, w9] g9 := by
    unfold mFor
    rw [sr, andS_val]
    exact lp
  unfold m__law_pieces
  rw [mDef_eq, s0, mSeq_eq, t1, thenS_nx, mSeq_eq, t2, thenS_nx, mSeq_eq]
  rw [fe, thenS_nx]
  rfl
end SHP
end
section
namespace VL
open PySem L2
mutual
theorem eqv_same : ∀ d : PyData, d.hasDict = false → PyData.eqv d d = true
  | .none, _ => rfl
  | .bool b, _ => by (simp [PyData.eqv])
  | .int i, _ => by (simp [PyData.eqv])
  | .str x, _ => by (simp [PyData.eqv])
  | .list xs, h => by
    simp only [PyData.eqv]
    exact eqvs_same xs (by simpa only [PyData.hasDict] using h)
  | .tuple xs, h => by
    simp only [PyData.eqv]
    exact eqvs_same xs (by simpa only [PyData.hasDict] using h)
  | .dict _, h => by simp [PyData.hasDict] at h
theorem eqvs_same : ∀ xs : List PyData, PyData.hasDictAll xs = false → PyData.eqvAll xs xs = true
  | [], _ => rfl
  | x :: xs, h => by
    simp only [PyData.hasDictAll, Bool.or_eq_false_iff] at h
    simp only [PyData.eqvAll, eqv_same x h.1, eqvs_same xs h.2, Bool.and_self]
end
/-- what is the same as data is equal -/
theorem eq_same {x y : W} {h : Hv} {d : PyData} {neg : Bool} (hx : toD dF h x = some d) (hy : toD dF h y = some d) (hs : SeqAt.shaped d = true) : mEq neg x y h = .val (.bl (!neg)) h := by
  have hd : d.hasDict = false := by
    unfold SeqAt.shaped at hs
    rw [Bool.and_eq_true] at hs
    exact PyData.hasDict_of_canLay d hs.1
  have e := eqv_same d hd
  cases neg <;> simp only [mEq, hx, hy, hs, Bool.and_self, if_true, e, Bool.not_true, Bool.not_false, Bool.false_eq_true, if_false]
/-! ### loops that return -/
theorem for_seqR {p : Nat} {L : List W} {s : Nat} {b : MS} {w0 : W} {Q : Hv → Prop} (I : Nat → Ws → Hv → Prop) {i0 : Nat} (hi0 : i0 < L.length) (keep : ∀ i r h, I i r h → h[p]? = some (.lst L)) (step : ∀ (i : Nat) w, i < i0 → L[i]? = some w → ∀ r h, I i r h → ∃ r' h', b (r.set s (some w)) h = .nx r' h' ∧ I (i + 1) r' h')
    (fin : ∀ w, L[i0]? = some w → ∀ r h, I i0 r h → ∃ h', b (r.set s (some w)) h = .rt w0 h' ∧ Q h') :
    ∀ (k i : Nat) (r : Ws) (h : Hv), i + k = L.length → i ≤ i0 → I i r h → ∃ h', VL.forM (nxSeq p) (mGn s) b (k + 1) i r h = .rt w0 h' ∧ Q h'
  | 0, i, r, h, hk, hle, hi => by omega
  | k + 1, i, r, h, hk, hle, hi => by
    have lt : i < L.length := by omega
    by_cases e : i = i0
    · subst e
      obtain ⟨h1, e1, q1⟩ := fin L[i] (List.getElem?_eq_getElem lt) r h hi
      refine ⟨h1, ?_, q1⟩
      unfold VL.forM
      simp only [nxSeq, keep i r h hi, List.getElem?_eq_getElem lt, mGn_eq, e1]
    · obtain ⟨r1, h1, e1, i1⟩ := step i L[i] (by omega) (List.getElem?_eq_getElem lt) r h hi
      obtain ⟨h2, e2, q2⟩ := for_seqR I hi0 keep step fin k (i + 1) r1 h1 (by omega) (by omega) i1
      refine ⟨h2, ?_, q2⟩
      unfold VL.forM
      simp only [nxSeq, keep i r h hi, List.getElem?_eq_getElem lt, mGn_eq, e1]
      exact e2
theorem first_ix {α : Type} (f : α → Bool) : ∀ {L : List α}, (∃ x ∈ L, f x = true) → ∃ (i : Nat) (x : α), L[i]? = some x ∧ f x = true ∧ ∀ (j : Nat) (y : α), j < i → L[j]? = some y → f y = false
  | [], ⟨x, hx, _⟩ => by simp at hx
  | a :: L, ⟨x, hx, hf⟩ => by
    cases ha : f a with
    | true => exact ⟨0, a, rfl, ha, fun j y hj => absurd hj (Nat.not_lt_zero _)⟩
    | false =>
      have h2 : ∃ x ∈ L, f x = true := by
        rcases List.mem_cons.mp hx with e | e
        · rw [e, ha] at hf; cases hf
        · exact ⟨x, e, hf⟩
      obtain ⟨i, y, h1, h3, h4⟩ := first_ix f h2
      refine ⟨i + 1, y, by simpa using h1, h3, fun j z hj hz => ?_⟩
      match j, hj, hz with
      | 0, _, hz => simp at hz; rw [← hz]; exact ha
      | j + 1, hj, hz => exact h4 j z (by omega) (by simpa using hz)
end VL
namespace SHP
open PySem L2 VL
/-! ### the law's own looks -/
section
variable {h : Hv} {x y : QQ}
theorem less_ok (fx : Fq x) (fy : Fq y) : m__law_less [q2 x, q2 y] h = .val (.bl (decide (Lt x y))) h := by
  have e : decide (x.1 * y.2 < y.1 * x.2) = decide (Lt x y) := by
    have : (x.1 * y.2 < y.1 * x.2) ↔ Lt x y := by unfold Lt; omega
    simp [this]
  simp [m__law_less, mDef_eq, startW, mul_sm fx.s1 fy.s2, mul_sm fy.s1 fx.s2, e]
instance decIn : (c : Pc) → (x : QQ) → Decidable (In c x)
  | .at y _, x => inferInstanceAs (Decidable (x = y))
  | .bt a none l, x => if h : Lt a x then Decidable.isTrue ⟨h, fun _ z => by cases z⟩ else Decidable.isFalse (fun z => h z.1)
  | .bt a (some b) l, x => if h : Lt a x ∧ Lt x b then Decidable.isTrue ⟨h.1, fun b' hb => by cases hb; exact h.2⟩ else Decidable.isFalse (fun z => h ⟨z.1, z.2 b rfl⟩)
theorem linside_ok {a : QQ} {b l : Option QQ} (fx : Fq x) (fa : Fq a) (fb : FqO b) : m__law_inside [pW (.bt a b l), q2 x] h = .val (.bl (decide (In (.bt a b l) x))) h := by
  have st : startW ["_law_piece", "_law_x"] [pW (.bt a b l), q2 x] = [some (pW (.bt a b l)), some (q2 x)] := rfl
  have l1 := less_ok (h := h) fa fx
  unfold m__law_inside
  rw [mDef_eq, st, mRet_eq, mAndV_eq, mT_eq]
  by_cases c1 : Lt a x
  · cases b with
    | none =>
      have e : In (.bt a none l) x := ⟨c1, fun _ z => by cases z⟩
      simp only [mCall_eq, mCons_eq, m2_eq, mVar0, mVarS, bind_val, mC_eq, ixB1, mNil_eq, List.length_cons, List.length_nil, Nat.zero_add, Nat.reduceAdd, if_true, l1, decide_eq_true c1, asB_bl, mOrV_eq, mT_eq, ixB2, qo_none, is_non, Bool.false_eq_true, if_false, decide_true, andS_val, endS_rt, decide_eq_true e]
    | some b =>
      have l2 := less_ok (h := h) fx (show Fq b from fb)
      have e : decide (In (.bt a (some b) l) x) = decide (Lt x b) := by
        by_cases c2 : Lt x b
        · rw [decide_eq_true c2, decide_eq_true (show In (.bt a (some b) l) x from ⟨c1, fun b' hb => by cases hb; exact c2⟩)]
        · rw [decide_eq_false c2, decide_eq_false (fun z : In (.bt a (some b) l) x => c2 (z.2 b rfl))]
      have nn : mIs false (q2 b) .non h = .val (.bl false) h := by simp
      simp only [mCall_eq, mCons_eq, m2_eq, mVar0, mVarS, bind_val, mC_eq, ixB1, mNil_eq, List.length_cons, List.length_nil, Nat.zero_add, Nat.reduceAdd, if_true, l1, decide_eq_true c1, asB_bl, mOrV_eq, mT_eq, ixB2, qo_some, nn, Bool.false_eq_true, if_false, l2, andS_val, endS_rt, e]
  · have e : ¬ In (.bt a b l) x := fun z => c1 z.1
    simp only [mCall_eq, mCons_eq, m2_eq, mVar0, mVarS, bind_val, mC_eq, ixB1, mNil_eq, List.length_cons, List.length_nil, Nat.zero_add, Nat.reduceAdd, if_true, l1, decide_eq_false c1, asB_bl, Bool.false_eq_true, if_false, andS_val, endS_rt, decide_eq_false e]
abbrev tB : MS := (mSeq (mIfS (mAndT (mT (m2 (mEq false) (m2 mIx (mVar 2) (mC (.int 0))) (mC (.str ("at" : Str))))) (mT (m2 (mEq false) (m2 mIx (mVar 2) (mC (.int 1))) (mVar 1)))) (mRet (m2 mIx (mVar 2) (mC (.int 2)))) mNext)
    (mIfS (mAndT (mT (m2 (mEq false) (m2 mIx (mVar 2) (mC (.int 0))) (mC (.str ("between" : Str))))) (mT (mCall 2 m__law_inside (mCons (mVar 2) (mCons (mVar 1) mNil))))) (mRet (mCall 2 m__law_value (mCons (m2 mIx (mVar 2) (mC (.int 3))) (mCons (mVar 1) mNil)))) mNext))
/-- a piece that may stand -/
def PcOk : Pc → Prop
  | .at y t => Fq y ∧ FqO t
  | .bt a b l => Fq a ∧ FqO b ∧ LnO l
theorem wf_ok {P : List Pc} (wf : Wf P) {c : Pc} (h : c ∈ P) : PcOk c := by
  obtain ⟨i, e⟩ := mem_ix h
  cases c with
  | «at» y t => exact (wf_at wf e).2
  | bt a b l =>
    obtain ⟨_, a1, a2, a3, _⟩ := wf_bt wf e
    exact ⟨a1, a2, a3⟩
theorem tbody {p : Nat} {c : Pc} (fx : Fq x) (ok : PcOk c) : tB [some (.ref p), some (q2 x), some (pW c)] h = if In c x then .rt (qo (tm c x)) h else .nx [some (.ref p), some (q2 x), some (pW c)] h := by
  cases c with
  | «at» y t =>
    have c1 : mEq false (q2 y) (q2 x) h = .val (.bl (decide (y = x))) h := by rw [cmp_q]; rfl
    by_cases e : x = y
    · rw [if_pos (show In (.at y t) x from e)]
      simp only [tB, mSeq_eq, mIfS_eq, mAndT_eq, mT_eq, m2_eq, mVar0, mVarS, bind_val, mC_eq, ixA0, eq_at, asB_bl, if_true, ixA1, c1, decide_eq_true e.symm, andS_val, mRet_eq, ixA2, thenS_rt, tm]
    · rw [if_neg (fun z : In (.at y t) x => e z)]
      simp only [tB, mSeq_eq, mIfS_eq, mAndT_eq, mT_eq, m2_eq, mVar0, mVarS, bind_val, mC_eq, ixA0, eq_at, eq_ab, asB_bl, if_true, ixA1, c1, decide_eq_false (fun z : y = x => e z.symm), andS_val, Bool.false_eq_true, if_false, mNext_eq, thenS_nx]
  | bt a b l =>
    have li := linside_ok (h := h) (l := l) fx ok.1 ok.2.1
    have lv := lvalue_ok (h := h) (l := l) fx ok.2.2
    by_cases e : In (.bt a b l) x
    · rw [if_pos e]
      simp only [tB, mSeq_eq, mIfS_eq, mAndT_eq, mT_eq, m2_eq, mVar0, mVarS, bind_val, mC_eq, ixB0, eq_ba, eq_bb, asB_bl, Bool.false_eq_true, if_false, andS_val, mNext_eq, thenS_nx, if_true, mCall_eq, mCons_eq, mNil_eq, List.length_cons, List.length_nil, Nat.zero_add, Nat.reduceAdd, li, decide_eq_true e, mRet_eq, ixB3, lv, tm]
    · rw [if_neg e]
      simp only [tB, mSeq_eq, mIfS_eq, mAndT_eq, mT_eq, m2_eq, mVar0, mVarS, bind_val, mC_eq, ixB0, eq_ba, eq_bb, asB_bl, Bool.false_eq_true, if_false, andS_val, mNext_eq, thenS_nx, if_true, mCall_eq, mCons_eq, mNil_eq, List.length_cons, List.length_nil, Nat.zero_add, Nat.reduceAdd, li, decide_eq_false e]
theorem src_lp {p : Nat} {P : List Pc} {i : Nat} {r : Ws} (e : LP h p P) (hv : mVar i r h = .val (.ref p) h) : (mSrc (mVar i)) r h = .val ⟨(P.map pW).length + 1, nxSeq p⟩ h := by
  have e0 : h[p]? = some (.lst (P.map pW)) := e
  unfold mSrc
  rw [hv, bind_val]
  simp only [srcOf, e0]
theorem ltime_ok {p : Nat} {P : List Pc} (e : LP h p P) (wf : Wf P) (fx : Fq x) (hc : ∃ c ∈ P, In c x) : ∃ c, c ∈ P ∧ In c x ∧ m__law_time [.ref p, q2 x] h = .val (qo (tm c x)) h := by
  obtain ⟨c0, m0, i0⟩ := hc
  obtain ⟨i, c, e1, e2, e3⟩ := first_ix (fun c => decide (In c x)) (L := P) ⟨c0, m0, decide_eq_true i0⟩
  have hi := lt_of_get e1
  have ic : In c x := of_decide_eq_true e2
  refine ⟨c, List.mem_of_getElem? e1, ic, ?_⟩
  have hm : (P.map pW).length = P.length := List.length_map ..
  obtain ⟨h', lp, rfl⟩ := for_seqR (p := p) (L := P.map pW) (s := 2) (b := tB) (w0 := qo (tm c x)) (Q := fun h' => h' = h) (fun _ r g => (∃ o, r = [some (.ref p), some (q2 x), o]) ∧ g = h) (i0 := i) (by omega) (fun _ r g z => by rw [z.2]; exact e)
    (fun j w hj ew r g z => by
      obtain ⟨⟨o, rfl⟩, rfl⟩ := z
      rw [List.getElem?_map] at ew
      obtain ⟨d, ed, rfl⟩ := Option.map_eq_some_iff.mp ew
      have nd : ¬ In d x := of_decide_eq_false (e3 j d hj ed)
      have b := tbody (p := p) (h := g) fx (wf_ok wf (List.mem_of_getElem? ed))
      rw [if_neg nd] at b
      exact ⟨_, _, b, ⟨_, rfl⟩, rfl⟩)
    (fun w ew r g z => by
      obtain ⟨⟨o, rfl⟩, rfl⟩ := z
      rw [List.getElem?_map, e1] at ew
      cases ew
      have b := tbody (p := p) (h := g) fx (wf_ok wf (List.mem_of_getElem? e1))
      rw [if_pos ic] at b
      exact ⟨_, b, rfl⟩) (P.map pW).length 0 [some (.ref p), some (q2 x), none] h (by omega) (Nat.zero_le _) ⟨⟨_, rfl⟩, rfl⟩
  have st : startW ["_law_pieces_here", "_law_x", "_law_piece"] [.ref p, q2 x] = [some (.ref p), some (q2 x), none] := rfl
  have fe : mFor (mSrc (mVar 0)) (mGn 2) tB [some (.ref p), some (q2 x), none] h' = .rt (qo (tm c x)) h' := by
    unfold mFor
    rw [src_lp e (i := 0) rfl, andS_val]
    exact lp
  unfold m__law_time
  rw [mDef_eq, st, mSeq_eq]
  unfold tB at fe
  rw [fe, thenS_rt, endS_rt]
end
end SHP
end
section
namespace VL
open PySem L2
/-! ### comprehensions that make nothing else -/
theorem comp_pure {p i : Nat} {L : List W} {r : Ws} {h : Hv} {f : Ws → Hv → Res W} {F : W → W} (hs : L.length < 100000) (hp : h[p]? = some (.lst L)) (hf : ∀ w ∈ L, ∀ g, Ext h g → f (r.set i (some w)) g = .val (F w) g) :
    ∀ (k j : Nat), j + k = L.length → compM (nxSeq p) i mYes f h.length (k + 1) j r (h ++ [.lst ((L.take j).map F)]) = .val (.ref h.length) (h ++ [.lst (L.map F)])
  | 0, j, hk => by
    have e0 : (h ++ [O.lst ((L.take j).map F)])[p]? = some (.lst L) := get_old hp
    have en : L[j]? = none := List.getElem?_eq_none (by omega)
    have et : L.take j = L := List.take_of_length_le
      (by omega)
    rw [et] at e0 ⊢
    unfold compM
    simp only [nxSeq, e0, en]
  | k + 1, j, hk => by
    have lt : j < L.length := by omega
    have e0 : (h ++ [O.lst ((L.take j).map F)])[p]? = some (.lst L) := get_old hp
    have en : L[j]? = some L[j] := List.getElem?_eq_getElem lt
    have m : L[j] ∈ L := List.getElem_mem lt
    have e1 := hf _ m (h ++ [.lst ((L.take j).map F)]) (Ext.more _ _)
    have la : (h ++ [O.lst ((L.take j).map F)])[h.length]? = some (.lst ((L.take j).map F)) := get_last
    have ln : ((L.take j).map F).length < 100000 := by simp; omega
    have st : (h ++ [O.lst ((L.take j).map F)]).set h.length (.lst ((L.take j).map F ++ [F L[j]])) = h ++ [.lst ((L.take (j + 1)).map F)] := by
      rw [List.take_succ, en, Option.toList_some, List.map_append, List.map_cons, List.map_nil]
      generalize (L.take j).map F = A
      simp
    have ih := comp_pure hs hp hf k (j + 1) (by omega)
    unfold compM
    simp only [nxSeq, e0, en, mYes, noX, bind_val, if_true, e1, la, ln, st]
    exact ih
theorem lc_pure {p i : Nat} {L : List W} {r : Ws} {h h1 : Hv} {src : Ws → Hv → Res Src} {f : Ws → Hv → Res W} {F : W → W} (es : src r h = .val ⟨L.length + 1, nxSeq p⟩ h1) (hs : L.length < 100000) (hp : h1[p]? = some (.lst L)) (hf : ∀ w ∈ L, ∀ g, Ext h1 g → f (r.set i (some w)) g = .val (F w) g) :
    mLc src i mYes f r h = .val (.ref h1.length) (h1 ++ [.lst (L.map F)]) := by
  unfold mLc
  rw [es, bind_val]
  have := comp_pure hs hp hf L.length 0 (by omega)
  simpa using this
end VL
namespace SHP
open PySem L2 VL
section
variable {h : Hv} {x y : QQ}
/-! ### points within -/
def btw (a b : QQ) (k : Int) : QQ := fr ((5 - k) * (a.1 * b.2) + k * (b.1 * a.2)) (5 * a.2 * b.2)
theorem btw_ok {a b : QQ} {k : Int} (ga : Gd 60 a) (gb : Gd 60 b) (hk : k = 1 ∨ k = 4) (lt : Lt a b) : m__law_between [q2 a, q2 b, .int k] h = .val (q2 (btw a b k)) h ∧ Fq (btw a b k) ∧ Lt a (btw a b k) ∧ Lt (btw a b k) b := by
  have pa := ga.fq.ps
  have pb := gb.fq.ps
  have b3 : ∀ j : Int, 1 ≤ j ∧ j ≤ 5 → Bn 3 j := fun j hj => bn3 hj
  have k5 : 1 ≤ 5 - k ∧ 5 - k ≤ 5 := by omega
  have kk : 1 ≤ k ∧ k ≤ 5 := by omega
  have e1 := ga.b1.mul gb.b2
  have e2 := gb.b1.mul ga.b2
  have n1 := (b3 _ k5).mul e1
  have n2 := (b3 _ kk).mul e2
  have nn := n1.add n2
  have d1 := (b3 5 (by decide)).mul ga.b2
  have d2 := d1.mul gb.b2
  have dp : 0 < 5 * a.2 * b.2 := Int.mul_pos (Int.mul_pos (by decide) pa) pb
  have ff := lfr_eq (h := h) (n := (5 - k) * (a.1 * b.2) + k * (b.1 * a.2)) dp (d2.sm (by decide))
  have m1 : mMul (.int a.1) (.int b.2) h = .val (.int (a.1 * b.2)) h := mul_sm (ga.b1.sm (by decide)) (gb.b2.sm (by decide))
  have m2' : mMul (.int b.1) (.int a.2) h = .val (.int (b.1 * a.2)) h := mul_sm (gb.b1.sm (by decide)) (ga.b2.sm (by decide))
  have m3 : mMul (.int (5 - k)) (.int (a.1 * b.2)) h = .val (.int ((5 - k) * (a.1 * b.2))) h := mul_sm ((b3 _ k5).sm (by decide)) (e1.sm (by decide))
  have m4 : mMul (.int k) (.int (b.1 * a.2)) h = .val (.int (k * (b.1 * a.2))) h := mul_sm ((b3 _ kk).sm (by decide)) (e2.sm (by decide))
  have m5 : mMul (.int 5) (.int a.2) h = .val (.int (5 * a.2)) h := mul_sm ((b3 5 (by decide)).sm (by decide)) (ga.b2.sm (by decide))
  have m6 : mMul (.int (5 * a.2)) (.int b.2) h = .val (.int (5 * a.2 * b.2)) h := mul_sm (d1.sm (by decide)) (gb.b2.sm (by decide))
  have ev : m__law_between [q2 a, q2 b, .int k] h = .val (q2 (btw a b k)) h := by
    have st : startW ["_law_one", "_law_other", "_law_at", "_law_early", "_law_late"] [q2 a, q2 b, .int k] = [some (q2 a), some (q2 b), some (.int k), none, none] := rfl
    have s1 : (mPar 3 4 (mCons (m2 mMul (m2 mIx (mVar 0) (mC (.int 0))) (m2 mIx (mVar 1) (mC (.int 1)))) (mCons (m2 mMul (m2 mIx (mVar 1) (mC (.int 0))) (m2 mIx (mVar 0) (mC (.int 1)))) mNil))) [some (q2 a), some (q2 b), some (.int k), none, none] h = .nx [some (q2 a), some (q2 b), some (.int k), some (.int (a.1 * b.2)), some (.int (b.1 * a.2))] h := by
      unfold mPar
      simp only [mCons_eq, m2_eq, mVar0, mVarS, bind_val, mC_eq, VL.ix_tup, atI0, atI1, ofO_some, m1, m2', mNil_eq, andS_val]
      rfl
    unfold m__law_between
    rw [mDef_eq, st, mSeq_eq, s1, thenS_nx, mRet_eq]
    simp only [mCall_eq, mCons_eq, m2_eq, mVar0, mVarS, bind_val, mC_eq, mSub_int, m3, m4, mAdd_int, VL.ix_tup, atI1, ofO_some, m5, m6, mNil_eq, List.length_cons, List.length_nil, Nat.zero_add, Nat.reduceAdd, if_true, ff, andS_val, endS_rt]
    rfl
  have v := fr_val ((5 - k) * (a.1 * b.2) + k * (b.1 * a.2)) (5 * a.2 * b.2)
  have q := fr_pos (n := (5 - k) * (a.1 * b.2) + k * (b.1 * a.2)) (show 5 * a.2 * b.2 ≠ 0 by omega)
  have ffq : Fq (btw a b k) := fr_fq dp (nn.sm (by decide)) (d2.sm (by decide))
  refine ⟨ev, ffq, ?_, ?_⟩
  · unfold btw
    generalize fr ((5 - k) * (a.1 * b.2) + k * (b.1 * a.2)) (5 * a.2 * b.2) = y at v q
    unfold Lt at lt ⊢
    have e : (a.1 * y.2 - y.1 * a.2) * (5 * a.2 * b.2) = (a.1 * b.2 - b.1 * a.2) * (k * a.2 * y.2) := by
      have h1 : y.1 * a.2 * (5 * a.2 * b.2) = ((5 - k) * (a.1 * b.2) + k * (b.1 * a.2)) * y.2 * a.2 := by
        rw [← v]; ac_rfl
      rw [Int.sub_mul, h1]
      have h2 : a.1 * y.2 * (5 * a.2 * b.2) = 5 * (a.1 * b.2) * (y.2 * a.2) := by ac_rfl
      rw [h2, Int.mul_assoc _ y.2 a.2]
      have h3 : (a.1 * b.2 - b.1 * a.2) * (k * a.2 * y.2) = (k * (a.1 * b.2) - k * (b.1 * a.2)) * (y.2 * a.2) := by
        rw [← Int.mul_sub]; ac_rfl
      rw [h3, ← Int.sub_mul]
      congr 1
      rw [Int.sub_mul]
      omega
    have m : 0 < k * a.2 * y.2 := Int.mul_pos (Int.mul_pos (by omega) pa) q
    have neg : (a.1 * b.2 - b.1 * a.2) * (k * a.2 * y.2) < 0 := Int.mul_neg_of_neg_of_pos lt m
    refine Int.not_le.mp fun z => ?_
    have := Int.mul_nonneg z (Int.le_of_lt dp)
    omega
  · unfold btw
    generalize fr ((5 - k) * (a.1 * b.2) + k * (b.1 * a.2)) (5 * a.2 * b.2) = y at v q
    unfold Lt at lt ⊢
    have e : (y.1 * b.2 - b.1 * y.2) * (5 * a.2 * b.2) = (a.1 * b.2 - b.1 * a.2) * ((5 - k) * b.2 * y.2) := by
      have h1 : y.1 * b.2 * (5 * a.2 * b.2) = ((5 - k) * (a.1 * b.2) + k * (b.1 * a.2)) * y.2 * b.2 := by
        rw [← v]; ac_rfl
      rw [Int.sub_mul, h1]
      have h2 : b.1 * y.2 * (5 * a.2 * b.2) = 5 * (b.1 * a.2) * (y.2 * b.2) := by ac_rfl
      rw [h2, Int.mul_assoc _ y.2 b.2]
      have h3 : (a.1 * b.2 - b.1 * a.2) * ((5 - k) * b.2 * y.2) = ((5 - k) * (a.1 * b.2) - (5 - k) * (b.1 * a.2)) * (y.2 * b.2) := by
        rw [← Int.mul_sub]; ac_rfl
      rw [h3, ← Int.sub_mul]
      congr 1
      rw [Int.sub_mul 5 k (b.1 * a.2)]
      omega
    have m : 0 < (5 - k) * b.2 * y.2 := Int.mul_pos (Int.mul_pos (by omega) pb) q
    have neg : (a.1 * b.2 - b.1 * a.2) * ((5 - k) * b.2 * y.2) < 0 := Int.mul_neg_of_neg_of_pos lt m
    refine Int.not_le.mp fun z => ?_
    have := Int.mul_nonneg z (Int.le_of_lt dp)
    omega
/-- a point far behind -/
def fur (a : QQ) (k : Int) : QQ := (a.1 + k * a.2, a.2)
theorem fur_ok {a : QQ} {k : Int} (ga : Gd 60 a) (hk : 1 ≤ k) (hb : Bn 70 k) : Fq (fur a k) ∧ Lt a (fur a k) ∧ Sm k := by
  have pa := ga.fq.ps
  have m := hb.mul ga.b2
  have b : Bn 131 (a.1 + k * a.2) := (ga.b1.mono (by decide)).add m
  refine ⟨⟨pa, ?_, b.sm (by decide), ga.b2.sm (by decide)⟩, ?_, hb.sm (by decide)⟩
  · show Int.gcd (a.1 + k * a.2) a.2 = 1
    rw [Int.gcd_add_mul_right_left]
    exact ga.fq.on
  · unfold Lt fur
    show a.1 * a.2 - (a.1 + k * a.2) * a.2 < 0
    rw [Int.add_mul]
    have := Int.mul_pos (Int.mul_pos (show 0 < k by omega) pa) pa
    omega
end
/-! ### what lies in a piece lies in the range -/
theorem rg_in {P : List Pc} (wf : Wf P) {x : QQ} (fx : Fq x) {c : Pc} (hc : c ∈ P) (ic : In c x) : Rg P x := by
  obtain ⟨i, e⟩ := mem_ix hc
  obtain ⟨k, y, t, a1, a2, a3, a4, a5⟩ := in_lo wf e ic
  obtain ⟨z, u, hz, hz0⟩ := wf.first
  have fy := (wf_at wf a2).2.1
  have fz := (wf_at wf (i := 0) hz).2.1
  have nxy : ¬ Lt x y := by
    rcases a1 with q | q
    · rw [a3 q]; exact Lt.irrefl _
    · exact (a4 q).asym
  have nyz : ¬ Lt y z := by
    rcases Nat.eq_zero_or_pos k with q | q
    · subst q
      have a2' : P[0]? = some (.at y t) := a2
      rw [hz] at a2'
      cases a2'
      exact Lt.irrefl _
    · exact (pts_lt' wf q (i := 0) hz a2).asym
  have nxz : ¬ Lt x z := nlt_trans fx.ps fy.ps fz.ps nxy nyz
  refine ⟨fx, ?_, fun y' t' h => by rw [hz] at h; cases h; exact nxz, fun y' t' h => ?_⟩
  · refine Int.not_lt.mp fun n => nxz ?_
    unfold Lt
    have h1 : x.1 * z.2 < 0 := Int.mul_neg_of_neg_of_pos n fz.ps
    have h2 : 0 ≤ z.1 * x.2 := Int.mul_nonneg hz0 (Int.le_of_lt fx.ps)
    omega
  · obtain ⟨ev, fy', _⟩ := wf_at wf h
    have hl := lt_of_get h
    have e9 : 2 * ((P.length - 1) / 2) = P.length - 1 := by omega
    rw [← e9] at h
    have hi := lt_of_get e
    rcases Nat.lt_trichotomy k ((P.length - 1) / 2) with q | q | q
    · obtain ⟨w, v, ew, fw, _⟩ := wf.ev (2 * (k + 1)) (by omega) (by omega)
      have l1 := a5 w v ew
      by_cases hm : k + 1 = (P.length - 1) / 2
      · rw [hm, h] at ew
        cases ew
        exact l1.asym
      · have l2 := pts_lt' wf (show k + 1 < (P.length - 1) / 2 by omega) ew h
        exact (l1.trans fx.ps fw.ps fy'.ps l2).asym
    · rw [← q, a2] at h
      cases h
      have : i = 2 * k := by
        rcases a1 with r | r
        · exact r
        · omega
      rw [a3 this]
      exact Lt.irrefl _
    · have := lt_of_get a2
      omega
end SHP
end
section
namespace SHP
open PySem L2 VL
/-- drawn points -/
def PgC : Pc → Prop
  | .at y _ => Gd 60 y
  | .bt a b _ => Gd 60 a ∧ ∀ b', b = some b' → Gd 60 b'
theorem pg_of {xs : List QQ} {m : Nat} {P : List Pc} (w : Wp xs m P) (gd : ∀ x ∈ xs, Gd 60 x) {c : Pc} (hc : c ∈ P) : PgC c := by
  obtain ⟨i, e⟩ := mem_ix hc
  have hl := lt_of_get e
  have hlen := w.len
  have gm : ∀ {j : Nat} {x : QQ}, xs[j]? = some x → Gd 60 x := fun h => gd _ (List.mem_of_getElem? h)
  rcases Nat.mod_two_eq_zero_or_one i with h | h
  · obtain ⟨x, t, a, b, _⟩ := w.at_ (i / 2) (by omega)
    have e9 : 2 * (i / 2) = i := by omega
    rw [e9, e] at b
    cases b
    exact gm a
  · obtain ⟨x, l, a, b, _⟩ := w.bt_ (i / 2) (by omega)
    have e9 : 2 * (i / 2) + 1 = i := by omega
    rw [e9, e] at b
    cases b
    exact ⟨gm a, fun b' hb => gm hb⟩
abbrev xF : Ws → Hv → Res W := mLc (mSrc (mLst (mCons (mC (.int 1)) (mCons (mC (.int 3)) (mCons (m2 mPow (mC (.int 10)) (mC (.int 20))) mNil))))) 3 mYes (mTup (mCons (m2 mAdd (m2 mIx (m2 mIx (mVar 2) (mC (.int 1))) (mC (.int 0))) (m2 mMul (mVar 3) (m2 mIx (m2 mIx (mVar 2) (mC (.int 1))) (mC (.int 1))))) (mCons (m2 mIx (m2 mIx (mVar 2) (mC (.int 1))) (mC (.int 1))) mNil)))
abbrev xN : Ws → Hv → Res W := mLc (mSrc (mLst (mCons (mC (.int 1)) (mCons (mC (.int 4)) mNil)))) 3 mYes (mCall 3 m__law_between (mCons (m2 mIx (mVar 2) (mC (.int 1))) (mCons (m2 mIx (mVar 2) (mC (.int 2))) (mCons (mVar 3) mNil))))
abbrev xB : MS := (mIfS (mT (m2 (mEq false) (m2 mIx (mVar 2) (mC (.int 0))) (mC (.str ("at" : Str))))) (mExpr (mApp (mVar 1) (m2 mIx (mVar 2) (mC (.int 1))))) (mIfS (mT (m2 (mIs false) (m2 mIx (mVar 2) (mC (.int 2))) (mC .non))) (mSet 1 (m2 mAdd (mVar 1) xF)) (mSet 1 (m2 mAdd (mVar 1) xN))))
theorem pow20 {h : Hv} : mPow (.int 10) (.int 20) h = .val (.int 100000000000000000000) h := mPow_int (by decide) (by decide) (by decide)
section
variable {h g : Hv} {p q : Nat} {P : List Pc} {xs : List QQ} {o3 : Option W}
abbrev xE (p q : Nat) (c : Pc) (o3 : Option W) : Ws := [some (.ref p), some (.ref q), some (pW c), o3]
def XsOk (P : List Pc) (xs : List QQ) : Prop := ∀ x ∈ xs, Fq x ∧ ∃ c ∈ P, In c x
theorem add_lists {A B : List W} {a b : Nat} {h : Hv} (ea : h[a]? = some (.lst A)) (eb : h[b]? = some (.lst B)) (hl : A.length + B.length ≤ 100000) : mAdd (.ref a) (.ref b) h = .val (.ref h.length) (h ++ [.lst (A ++ B)]) := by
  simp only [mAdd, ea, eb, hl, if_true, mNew_eq]
theorem xbody {c : Pc} (hc : c ∈ P) (wf : Wf P) (pg : PgC c) (lq : g[q]? = some (.lst (xs.map q2))) (hx : XsOk P xs) (hs : xs.length < 1000) :
    ∃ q' g' ys, xB (xE p q c o3) g = .nx (xE p q' c o3) g' ∧ g'[q']? = some (.lst ((xs ++ ys).map q2)) ∧ ((q' = q ∧ g' = g.set q (.lst ((xs ++ ys).map q2))) ∨ (g.length ≤ q' ∧ Ext g g')) ∧ XsOk P (xs ++ ys) ∧ ys.length ≤ 3 := by
  have app : ∀ {ys : List QQ}, (∀ x ∈ ys, Fq x ∧ In c x) → XsOk P (xs ++ ys) := fun {ys} hy x hm => by
    rcases List.mem_append.mp hm with z | z
    · exact hx x z
    · exact ⟨(hy x z).1, c, hc, (hy x z).2⟩
  have ok := wf_ok wf hc
  cases c with
  | «at» y t =>
    refine ⟨q, g.set q (.lst ((xs ++ [y]).map q2)), [y], ?_, List.getElem?_set_self (lt_of_get lq), .inl ⟨rfl, rfl⟩, app (fun x hm => by rw [List.mem_singleton.mp hm]; exact ⟨ok.1, rfl⟩), by simp⟩
    have lm : (xs.map q2).length < 100000 := by simp; omega
    have v1 : ∀ g, mVar 1 (xE p q (.at y t) o3) g = .val (.ref q) g := fun g => rfl
    have v2 : ∀ g, mVar 2 (xE p q (.at y t) o3) g = .val (pW (.at y t)) g := fun g => rfl
    unfold xB
    simp only [mIfS_eq, mT_eq, m2_eq, v2, bind_val, mC_eq, ixA0, eq_at, asB_bl, andS_val, if_true, mExpr_eq, mApp, v1, lq, ixA1, lm, List.map_append, List.map_cons, List.map_nil]
  | bt a b l =>
    have v1 : ∀ g, mVar 1 (xE p q (.bt a b l) o3) g = .val (.ref q) g := fun g => rfl
    have v2 : ∀ g, mVar 2 (xE p q (.bt a b l) o3) g = .val (pW (.bt a b l)) g := fun g => rfl
    cases b with
    | none =>
      have f1 := fur_ok pg.1 (k := 1) (by decide) (by unfold Bn; decide +kernel)
      have f3 := fur_ok pg.1 (k := 3) (by decide) (by unfold Bn; decide +kernel)
      have f20 := fur_ok pg.1 (k := 100000000000000000000) (by decide) (by unfold Bn; decide +kernel)
      let L : List W := [.int 1, .int 3, .int 100000000000000000000]
      let F : W → W := fun w => match w with
        | .int k => q2 (fur a k)
        | _ => .non
      have es : (mSrc (mLst (mCons (mC (.int 1)) (mCons (mC (.int 3)) (mCons (m2 mPow (mC (.int 10)) (mC (.int 20))) mNil))))) (xE p q (.bt a none l) o3) g = .val ⟨L.length + 1, nxSeq g.length⟩ (g ++ [.lst L]) := by
        have gl : (g ++ [O.lst L])[g.length]? = some (.lst L) := get_last
        unfold mSrc
        simp only [mLst_eq, mCons_eq, mC_eq, bind_val, m2_eq, pow20, mNil_eq, List.length_cons, List.length_nil, Nat.zero_add, Nat.reduceAdd, show (3 : Nat) ≤ 100000 from by decide, if_true, mNew_eq]
        show srcOf (.ref g.length) (g ++ [.lst L]) = _
        simp only [srcOf, gl]
      have lc := lc_pure (F := F) (f := (mTup (mCons (m2 mAdd (m2 mIx (m2 mIx (mVar 2) (mC (.int 1))) (mC (.int 0))) (m2 mMul (mVar 3) (m2 mIx (m2 mIx (mVar 2) (mC (.int 1))) (mC (.int 1))))) (mCons (m2 mIx (m2 mIx (mVar 2) (mC (.int 1))) (mC (.int 1))) mNil)))) (i := 3) es (by decide) get_last (fun w hw g' _ => by
        have key : ∀ k : Int, Sm k → (mTup (mCons (m2 mAdd (m2 mIx (m2 mIx (mVar 2) (mC (.int 1))) (mC (.int 0))) (m2 mMul (mVar 3) (m2 mIx (m2 mIx (mVar 2) (mC (.int 1))) (mC (.int 1))))) (mCons (m2 mIx (m2 mIx (mVar 2) (mC (.int 1))) (mC (.int 1))) mNil))) ((xE p q (.bt a none l) o3).set 3 (some (.int k))) g' = .val (F (.int k)) g' := fun k sk => by
          have m := mul_sm (h := g') sk pg.1.fq.s2
          simp [m, F, fur]
        simp only [L, List.mem_cons, List.not_mem_nil, or_false] at hw
        rcases hw with rfl | rfl | rfl
        · exact key _ f1.2.2
        · exact key _ f3.2.2
        · exact key _ f20.2.2)
      have eL : (g ++ [O.lst L]).length = g.length + 1 := by simp
      have eF : L.map F = [fur a 1, fur a 3, fur a 100000000000000000000].map q2 := rfl
      rw [eF] at lc
      have lq2 : (g ++ [O.lst L] ++ [.lst ([fur a 1, fur a 3, fur a 100000000000000000000].map q2)])[q]? = some (.lst (xs.map q2)) := get_old (get_old lq)
      have ad := add_lists lq2 (get_last (h := g ++ [.lst L])) (by simp; omega)
      rw [← List.map_append] at ad
      refine ⟨(g ++ [O.lst L] ++ [O.lst ([fur a 1, fur a 3, fur a 100000000000000000000].map q2)]).length, g ++ [O.lst L] ++ [O.lst ([fur a 1, fur a 3, fur a 100000000000000000000].map q2)] ++ [O.lst ((xs ++ [fur a 1, fur a 3, fur a 100000000000000000000]).map q2)], [fur a 1, fur a 3, fur a 100000000000000000000], ?_, get_last, .inr ⟨?_, (((Ext.more _ _).trans (Ext.more _ _)).trans (Ext.more _ _))⟩, app (fun x hm => ?_), by simp⟩
      · have nn : mIs false (qo none) .non g = .val (.bl true) g := by simp
        unfold xB xF xN
        rw [mIfS_eq, mT_eq, m2_eq, m2_eq, v2]
        simp only [bind_val, mC_eq, ixB0, eq_ba, asB_bl, andS_val, Bool.false_eq_true, if_false, mIfS_eq, mT_eq, m2_eq, v2, ixB2, nn, if_true, mSet_eq, v1]
        rw [lc, bind_val, ad, andS_val]
        rfl
      · simp
      · simp only [List.mem_cons, List.not_mem_nil, or_false] at hm
        rcases hm with rfl | rfl | rfl
        · exact ⟨f1.1, f1.2.1, fun _ z => by cases z⟩
        · exact ⟨f3.1, f3.2.1, fun _ z => by cases z⟩
        · exact ⟨f20.1, f20.2.1, fun _ z => by cases z⟩
    | some b =>
      obtain ⟨i, e⟩ := mem_ix hc
      have ltab : Lt a b := (wf_bt wf e).2.2.2.2.1 b rfl
      have gb := pg.2 b rfl
      have w1 := fun (g' : Hv) => btw_ok (h := g') pg.1 gb (k := 1) (.inl rfl) ltab
      have w4 := fun (g' : Hv) => btw_ok (h := g') pg.1 gb (k := 4) (.inr rfl) ltab
      let L : List W := [.int 1, .int 4]
      let F : W → W := fun w => match w with
        | .int k => q2 (btw a b k)
        | _ => .non
      have es : (mSrc (mLst (mCons (mC (.int 1)) (mCons (mC (.int 4)) mNil)))) (xE p q (.bt a (some b) l) o3) g = .val ⟨L.length + 1, nxSeq g.length⟩ (g ++ [.lst L]) := by
        have gl : (g ++ [O.lst L])[g.length]? = some (.lst L) := get_last
        unfold mSrc
        simp only [mLst_eq, mCons_eq, mC_eq, bind_val, mNil_eq, List.length_cons, List.length_nil, Nat.zero_add, Nat.reduceAdd, show (2 : Nat) ≤ 100000 from by decide, if_true, mNew_eq]
        show srcOf (.ref g.length) (g ++ [.lst L]) = _
        simp only [srcOf, gl]
      have lc := lc_pure (F := F) (f := (mCall 3 m__law_between (mCons (m2 mIx (mVar 2) (mC (.int 1))) (mCons (m2 mIx (mVar 2) (mC (.int 2))) (mCons (mVar 3) mNil))))) (i := 3) es (by decide) get_last (fun w hw g' _ => by
        have key : ∀ k : Int, m__law_between [q2 a, q2 b, .int k] g' = .val (q2 (btw a b k)) g' → (mCall 3 m__law_between (mCons (m2 mIx (mVar 2) (mC (.int 1))) (mCons (m2 mIx (mVar 2) (mC (.int 2))) (mCons (mVar 3) mNil)))) ((xE p q (.bt a (some b) l) o3).set 3 (some (.int k))) g' = .val (F (.int k)) g' := fun k hk => by
          have u2 : ∀ g, mVar 2 ((xE p q (.bt a (some b) l) o3).set 3 (some (.int k))) g = .val (pW (.bt a (some b) l)) g := fun g => rfl
          have u3 : ∀ g, mVar 3 ((xE p q (.bt a (some b) l) o3).set 3 (some (.int k))) g = .val (.int k) g := fun g => rfl
          simp only [mCall_eq, mCons_eq, m2_eq, u2, u3, bind_val, mC_eq, ixB1, ixB2, qo_some, mNil_eq, List.length_cons, List.length_nil, Nat.zero_add, Nat.reduceAdd, if_true, hk]
          rfl
        simp only [L, List.mem_cons, List.not_mem_nil, or_false] at hw
        rcases hw with rfl | rfl
        · exact key _ (w1 g').1
        · exact key _ (w4 g').1)
      have eL : (g ++ [O.lst L]).length = g.length + 1 := by simp
      have eF : L.map F = [btw a b 1, btw a b 4].map q2 := rfl
      rw [eF] at lc
      have lq2 : (g ++ [O.lst L] ++ [.lst ([btw a b 1, btw a b 4].map q2)])[q]? = some (.lst (xs.map q2)) := get_old (get_old lq)
      have ad := add_lists lq2 (get_last (h := g ++ [.lst L])) (by simp; omega)
      rw [← List.map_append] at ad
      refine ⟨(g ++ [O.lst L] ++ [O.lst ([btw a b 1, btw a b 4].map q2)]).length, g ++ [O.lst L] ++ [O.lst ([btw a b 1, btw a b 4].map q2)] ++ [O.lst ((xs ++ [btw a b 1, btw a b 4]).map q2)], [btw a b 1, btw a b 4], ?_, get_last, .inr ⟨?_, (((Ext.more _ _).trans (Ext.more _ _)).trans (Ext.more _ _))⟩, app (fun x hm => ?_), by simp⟩
      · have nn : mIs false (qo (some b)) .non g = .val (.bl false) g := by simp
        unfold xB xF xN
        rw [mIfS_eq, mT_eq, m2_eq, m2_eq, v2]
        simp only [bind_val, mC_eq, ixB0, eq_ba, asB_bl, andS_val, Bool.false_eq_true, if_false, mIfS_eq, mT_eq, m2_eq, v2, ixB2, nn, mSet_eq, v1]
        rw [lc, bind_val, ad, andS_val]
        rfl
      · simp
      · simp only [List.mem_cons, List.not_mem_nil, or_false] at hm
        rcases hm with rfl | rfl
        · exact ⟨(w1 g).2.1, (w1 g).2.2.1, fun b' hb => by cases hb; exact (w1 g).2.2.2⟩
        · exact ⟨(w4 g).2.1, (w4 g).2.2.1, fun b' hb => by cases hb; exact (w4 g).2.2.2⟩
theorem lxs_ok (e : LP h p P) (wf : Wf P) (pg : ∀ c ∈ P, PgC c) (hs : P.length ≤ 100) : ∃ (q : Nat) (g : Hv) (xs : List QQ), m__law_xs [.ref p] h = .val (.ref q) g ∧ g[q]? = some (.lst (xs.map q2)) ∧ Ext h g ∧ h.length ≤ q ∧ XsOk P xs ∧ xs.length ≤ 300 := by
  let I : Nat → Ws → Hv → Prop := fun i r g => ∃ q o2 xs, r = [some (.ref p), some (.ref q), o2, none] ∧ g[q]? = some (.lst (xs.map q2)) ∧ Ext h g ∧ h.length ≤ q ∧ XsOk P xs ∧ xs.length ≤ 3 * i
  have keep : ∀ i r g, I i r g → g[p]? = some (.lst (P.map pW)) := by
    rintro i r g ⟨q, o2, xs, rfl, a1, a2, _⟩
    exact a2 _ _ e
  have hm : (P.map pW).length = P.length := List.length_map ..
  have step : ∀ (i : Nat) w, (P.map pW)[i]? = some w → ∀ r g, I i r g → ∃ r' g', xB (r.set 2 (some w)) g = .nx r' g' ∧ I (i + 1) r' g' := by
    rintro i w ew r g ⟨q, o2, xs, rfl, a1, a2, a3, a4, a5⟩
    rw [List.getElem?_map] at ew
    obtain ⟨c, ec, rfl⟩ := Option.map_eq_some_iff.mp ew
    have hi := lt_of_get ec
    have mc := List.mem_of_getElem? ec
    obtain ⟨q', g', ys, b1, b2, b3, b4, b5⟩ := xbody (p := p) (o3 := none) mc wf (pg c mc) a1 a4 (by omega)
    refine ⟨_, _, b1, q', some (pW c), xs ++ ys, rfl, b2, ?_, ?_, b4, by simp; omega⟩
    · rcases b3 with ⟨z1, z2⟩ | ⟨z1, z2⟩
      · rw [z2]
        exact (Kp.set q g _).ext a2 a3
      · exact a2.trans z2
    · rcases b3 with ⟨z1, z2⟩ | ⟨z1, z2⟩
      · omega
      · have := a2.len; omega
  have i0 : I 0 [some (.ref p), some (.ref h.length), none, none] (h ++ [.lst []]) := ⟨h.length, none, [], rfl, get_last, Ext.more _ _, Nat.le_refl _, fun x hx => by simp at hx, Nat.zero_le _⟩
  obtain ⟨r1, g1, lp, q, o2, xs, rfl, a1, a2, a3, a4, a5⟩ := for_seq I keep step (P.map pW).length 0 _ (h ++ [.lst []]) (by omega) i0
  refine ⟨q, g1, xs, ?_, a1, a2, a3, a4, by omega⟩
  have st : startW ["_law_pieces_here", "_law_xs_here", "_law_piece", "_law_at"] [.ref p] = [some (.ref p), none, none, none] := rfl
  have s1 : (mSet 1 (mLst mNil)) [some (.ref p), none, none, none] h = .nx [some (.ref p), some (.ref h.length), none, none] (h ++ [.lst []]) := by simp
  have fe : mFor (mSrc (mVar 0)) (mGn 2) xB [some (.ref p), some (.ref h.length), none, none] (h ++ [.lst []]) = .nx [some (.ref p), some (.ref q), o2, none] g1 := by
    unfold mFor
    rw [src_lp (e.old _) (i := 0) rfl, andS_val]
    exact lp
  unfold m__law_xs
  rw [mDef_eq, st, mSeq_eq, s1, thenS_nx, mSeq_eq]
  unfold xB xF xN at fe
  rw [fe, thenS_nx]
  rfl
end
end SHP
end
section
namespace SHP
open PySem L2 VL
/-- what is asked is not too great -/
def Bb (x : QQ) : Prop := Bn 300 x.1 ∧ Bn 300 x.2
theorem bb_gd {x : QQ} (g : Gd 60 x) : Bb x := ⟨g.b1.mono (by decide), g.b2.mono (by decide)⟩
theorem fur_bb {a : QQ} {k : Int} (ga : Gd 60 a) (hb : Bn 70 k) : Bb (fur a k) := by
  have m := hb.mul ga.b2
  have b : Bn 131 (a.1 + k * a.2) := (ga.b1.mono (by decide)).add m
  exact ⟨b.mono (by decide), ga.b2.mono (by decide)⟩
theorem btw_bb {a b : QQ} {k : Int} (ga : Gd 60 a) (gb : Gd 60 b) (hk : 1 ≤ k ∧ k ≤ 4) : Bb (btw a b k) := by
  have e1 := ga.b1.mul gb.b2
  have e2 := gb.b1.mul ga.b2
  have n1 := (bn3 (s := 5 - k) (by omega)).mul e1
  have n2 := (bn3 (s := k) (by omega)).mul e2
  have nn := n1.add n2
  have d1 := (bn3 (s := 5) (by decide)).mul ga.b2
  have d2 := d1.mul gb.b2
  have dp : 0 < 5 * a.2 * b.2 := Int.mul_pos (Int.mul_pos (by decide) ga.fq.ps) gb.fq.ps
  obtain ⟨l1, l2⟩ := fr_le (n := (5 - k) * (a.1 * b.2) + k * (b.1 * a.2)) dp
  exact ⟨Nat.lt_of_le_of_lt l1 (nn.mono (by decide)), Nat.lt_of_le_of_lt l2 (d2.mono (by decide))⟩
/-- the value of a drawn line there -/
theorem vl_bb {l : Option QQ} {x : QQ} (ll : LbO l) (fx : Fq x) (b : Bb x) : FqO (vl l x) := by
  cases l with
  | none => trivial
  | some l =>
    have m1 := ll.1.mul b.1
    have m2 := ll.2.mul b.2
    have n := m1.add m2
    exact fr_fq fx.ps (n.sm (by decide)) fx.s2
section
variable {h g : Hv} {p q : Nat} {P : List Pc} {xs : List QQ} {o3 : Option W}
def XsB (P : List Pc) (xs : List QQ) : Prop := ∀ x ∈ xs, (Fq x ∧ ∃ c ∈ P, In c x) ∧ Bb x
theorem xbodyB {c : Pc} (hc : c ∈ P) (wf : Wf P) (pg : PgC c) (lq : g[q]? = some (.lst (xs.map q2))) (hx : XsB P xs) (hs : xs.length < 1000) :
    ∃ q' g' ys, xB (xE p q c o3) g = .nx (xE p q' c o3) g' ∧ g'[q']? = some (.lst ((xs ++ ys).map q2)) ∧ ((q' = q ∧ g' = g.set q (.lst ((xs ++ ys).map q2))) ∨ (g.length ≤ q' ∧ Ext g g')) ∧ XsB P (xs ++ ys) ∧ ys.length ≤ 3 := by
  have app : ∀ {ys : List QQ}, (∀ x ∈ ys, Fq x ∧ In c x ∧ Bb x) → XsB P (xs ++ ys) := fun {ys} hy x hm => by
    rcases List.mem_append.mp hm with z | z
    · exact hx x z
    · exact ⟨⟨(hy x z).1, c, hc, (hy x z).2.1⟩, (hy x z).2.2⟩
  have ok := wf_ok wf hc
  cases c with
  | «at» y t =>
    refine ⟨q, g.set q (.lst ((xs ++ [y]).map q2)), [y], ?_, List.getElem?_set_self (lt_of_get lq), .inl ⟨rfl, rfl⟩, app (fun x hm => by rw [List.mem_singleton.mp hm]; exact ⟨ok.1, rfl, bb_gd pg⟩), by simp⟩
    have lm : (xs.map q2).length < 100000 := by simp; omega
    have v1 : ∀ g, mVar 1 (xE p q (.at y t) o3) g = .val (.ref q) g := fun g => rfl
    have v2 : ∀ g, mVar 2 (xE p q (.at y t) o3) g = .val (pW (.at y t)) g := fun g => rfl
    unfold xB
    simp only [mIfS_eq, mT_eq, m2_eq, v2, bind_val, mC_eq, ixA0, eq_at, asB_bl, andS_val, if_true, mExpr_eq, mApp, v1, lq, ixA1, lm, List.map_append, List.map_cons, List.map_nil]
  | bt a b l =>
    have v1 : ∀ g, mVar 1 (xE p q (.bt a b l) o3) g = .val (.ref q) g := fun g => rfl
    have v2 : ∀ g, mVar 2 (xE p q (.bt a b l) o3) g = .val (pW (.bt a b l)) g := fun g => rfl
    cases b with
    | none =>
      have f1 := fur_ok pg.1 (k := 1) (by decide) (by unfold Bn; decide +kernel)
      have f3 := fur_ok pg.1 (k := 3) (by decide) (by unfold Bn; decide +kernel)
      have f20 := fur_ok pg.1 (k := 100000000000000000000) (by decide) (by unfold Bn; decide +kernel)
      let L : List W := [.int 1, .int 3, .int 100000000000000000000]
      let F : W → W := fun w => match w with
        | .int k => q2 (fur a k)
        | _ => .non
      have es : (mSrc (mLst (mCons (mC (.int 1)) (mCons (mC (.int 3)) (mCons (m2 mPow (mC (.int 10)) (mC (.int 20))) mNil))))) (xE p q (.bt a none l) o3) g = .val ⟨L.length + 1, nxSeq g.length⟩ (g ++ [.lst L]) := by
        have gl : (g ++ [O.lst L])[g.length]? = some (.lst L) := get_last
        unfold mSrc
        simp only [mLst_eq, mCons_eq, mC_eq, bind_val, m2_eq, pow20, mNil_eq, List.length_cons, List.length_nil, Nat.zero_add, Nat.reduceAdd, show (3 : Nat) ≤ 100000 from by decide, if_true, mNew_eq]
        show srcOf (.ref g.length) (g ++ [.lst L]) = _
        simp only [srcOf, gl]
      have lc := lc_pure (F := F) (f := (mTup (mCons (m2 mAdd (m2 mIx (m2 mIx (mVar 2) (mC (.int 1))) (mC (.int 0))) (m2 mMul (mVar 3) (m2 mIx (m2 mIx (mVar 2) (mC (.int 1))) (mC (.int 1))))) (mCons (m2 mIx (m2 mIx (mVar 2) (mC (.int 1))) (mC (.int 1))) mNil)))) (i := 3) es (by decide) get_last (fun w hw g' _ => by
        have key : ∀ k : Int, Sm k → (mTup (mCons (m2 mAdd (m2 mIx (m2 mIx (mVar 2) (mC (.int 1))) (mC (.int 0))) (m2 mMul (mVar 3) (m2 mIx (m2 mIx (mVar 2) (mC (.int 1))) (mC (.int 1))))) (mCons (m2 mIx (m2 mIx (mVar 2) (mC (.int 1))) (mC (.int 1))) mNil))) ((xE p q (.bt a none l) o3).set 3 (some (.int k))) g' = .val (F (.int k)) g' := fun k sk => by
          have m := mul_sm (h := g') sk pg.1.fq.s2
          simp [m, F, fur]
        simp only [L, List.mem_cons, List.not_mem_nil, or_false] at hw
        rcases hw with rfl | rfl | rfl
        · exact key _ f1.2.2
        · exact key _ f3.2.2
        · exact key _ f20.2.2)
      have eL : (g ++ [O.lst L]).length = g.length + 1 := by simp
      have eF : L.map F = [fur a 1, fur a 3, fur a 100000000000000000000].map q2 := rfl
      rw [eF] at lc
      have lq2 : (g ++ [O.lst L] ++ [.lst ([fur a 1, fur a 3, fur a 100000000000000000000].map q2)])[q]? = some (.lst (xs.map q2)) := get_old (get_old lq)
      have ad := add_lists lq2 (get_last (h := g ++ [.lst L])) (by simp; omega)
      rw [← List.map_append] at ad
      refine ⟨(g ++ [O.lst L] ++ [O.lst ([fur a 1, fur a 3, fur a 100000000000000000000].map q2)]).length, g ++ [O.lst L] ++ [O.lst ([fur a 1, fur a 3, fur a 100000000000000000000].map q2)] ++ [O.lst ((xs ++ [fur a 1, fur a 3, fur a 100000000000000000000]).map q2)], [fur a 1, fur a 3, fur a 100000000000000000000], ?_, get_last, .inr ⟨?_, (((Ext.more _ _).trans (Ext.more _ _)).trans (Ext.more _ _))⟩, app (fun x hm => ?_), by simp⟩
      · have nn : mIs false (qo none) .non g = .val (.bl true) g := by simp
        unfold xB xF xN
        rw [mIfS_eq, mT_eq, m2_eq, m2_eq, v2]
        simp only [bind_val, mC_eq, ixB0, eq_ba, asB_bl, andS_val, Bool.false_eq_true, if_false, mIfS_eq, mT_eq, m2_eq, v2, ixB2, nn, if_true, mSet_eq, v1]
        rw [lc, bind_val, ad, andS_val]
        rfl
      · simp
      · simp only [List.mem_cons, List.not_mem_nil, or_false] at hm
        rcases hm with rfl | rfl | rfl
        · exact ⟨f1.1, ⟨f1.2.1, fun _ z => by cases z⟩, fur_bb pg.1 (by unfold Bn; decide +kernel)⟩
        · exact ⟨f3.1, ⟨f3.2.1, fun _ z => by cases z⟩, fur_bb pg.1 (by unfold Bn; decide +kernel)⟩
        · exact ⟨f20.1, ⟨f20.2.1, fun _ z => by cases z⟩, fur_bb pg.1 (by unfold Bn; decide +kernel)⟩
    | some b =>
      obtain ⟨i, e⟩ := mem_ix hc
      have ltab : Lt a b := (wf_bt wf e).2.2.2.2.1 b rfl
      have gb := pg.2 b rfl
      have w1 := fun (g' : Hv) => btw_ok (h := g') pg.1 gb (k := 1) (.inl rfl) ltab
      have w4 := fun (g' : Hv) => btw_ok (h := g') pg.1 gb (k := 4) (.inr rfl) ltab
      let L : List W := [.int 1, .int 4]
      let F : W → W := fun w => match w with
        | .int k => q2 (btw a b k)
        | _ => .non
      have es : (mSrc (mLst (mCons (mC (.int 1)) (mCons (mC (.int 4)) mNil)))) (xE p q (.bt a (some b) l) o3) g = .val ⟨L.length + 1, nxSeq g.length⟩ (g ++ [.lst L]) := by
        have gl : (g ++ [O.lst L])[g.length]? = some (.lst L) := get_last
        unfold mSrc
        simp only [mLst_eq, mCons_eq, mC_eq, bind_val, mNil_eq, List.length_cons, List.length_nil, Nat.zero_add, Nat.reduceAdd, show (2 : Nat) ≤ 100000 from by decide, if_true, mNew_eq]
        show srcOf (.ref g.length) (g ++ [.lst L]) = _
        simp only [srcOf, gl]
      have lc := lc_pure (F := F) (f := (mCall 3 m__law_between (mCons (m2 mIx (mVar 2) (mC (.int 1))) (mCons (m2 mIx (mVar 2) (mC (.int 2))) (mCons (mVar 3) mNil))))) (i := 3) es (by decide) get_last (fun w hw g' _ => by
        have key : ∀ k : Int, m__law_between [q2 a, q2 b, .int k] g' = .val (q2 (btw a b k)) g' → (mCall 3 m__law_between (mCons (m2 mIx (mVar 2) (mC (.int 1))) (mCons (m2 mIx (mVar 2) (mC (.int 2))) (mCons (mVar 3) mNil)))) ((xE p q (.bt a (some b) l) o3).set 3 (some (.int k))) g' = .val (F (.int k)) g' := fun k hk => by
          have u2 : ∀ g, mVar 2 ((xE p q (.bt a (some b) l) o3).set 3 (some (.int k))) g = .val (pW (.bt a (some b) l)) g := fun g => rfl
          have u3 : ∀ g, mVar 3 ((xE p q (.bt a (some b) l) o3).set 3 (some (.int k))) g = .val (.int k) g := fun g => rfl
          simp only [mCall_eq, mCons_eq, m2_eq, u2, u3, bind_val, mC_eq, ixB1, ixB2, qo_some, mNil_eq, List.length_cons, List.length_nil, Nat.zero_add, Nat.reduceAdd, if_true, hk]
          rfl
        simp only [L, List.mem_cons, List.not_mem_nil, or_false] at hw
        rcases hw with rfl | rfl
        · exact key _ (w1 g').1
        · exact key _ (w4 g').1)
      have eL : (g ++ [O.lst L]).length = g.length + 1 := by simp
      have eF : L.map F = [btw a b 1, btw a b 4].map q2 := rfl
      rw [eF] at lc
      have lq2 : (g ++ [O.lst L] ++ [.lst ([btw a b 1, btw a b 4].map q2)])[q]? = some (.lst (xs.map q2)) := get_old (get_old lq)
      have ad := add_lists lq2 (get_last (h := g ++ [.lst L])) (by simp; omega)
      rw [← List.map_append] at ad
      refine ⟨(g ++ [O.lst L] ++ [O.lst ([btw a b 1, btw a b 4].map q2)]).length, g ++ [O.lst L] ++ [O.lst ([btw a b 1, btw a b 4].map q2)] ++ [O.lst ((xs ++ [btw a b 1, btw a b 4]).map q2)], [btw a b 1, btw a b 4], ?_, get_last, .inr ⟨?_, (((Ext.more _ _).trans (Ext.more _ _)).trans (Ext.more _ _))⟩, app (fun x hm => ?_), by simp⟩
      · have nn : mIs false (qo (some b)) .non g = .val (.bl false) g := by simp
        unfold xB xF xN
        rw [mIfS_eq, mT_eq, m2_eq, m2_eq, v2]
        simp only [bind_val, mC_eq, ixB0, eq_ba, asB_bl, andS_val, Bool.false_eq_true, if_false, mIfS_eq, mT_eq, m2_eq, v2, ixB2, nn, mSet_eq, v1]
        rw [lc, bind_val, ad, andS_val]
        rfl
      · simp
      · simp only [List.mem_cons, List.not_mem_nil, or_false] at hm
        rcases hm with rfl | rfl
        · exact ⟨(w1 g).2.1, ⟨(w1 g).2.2.1, fun b' hb => by cases hb; exact (w1 g).2.2.2⟩, btw_bb pg.1 gb (by decide)⟩
        · exact ⟨(w4 g).2.1, ⟨(w4 g).2.2.1, fun b' hb => by cases hb; exact (w4 g).2.2.2⟩, btw_bb pg.1 gb (by decide)⟩
theorem lxsB_ok (e : LP h p P) (wf : Wf P) (pg : ∀ c ∈ P, PgC c) (hs : P.length ≤ 100) : ∃ (q : Nat) (g : Hv) (xs : List QQ), m__law_xs [.ref p] h = .val (.ref q) g ∧ g[q]? = some (.lst (xs.map q2)) ∧ Ext h g ∧ h.length ≤ q ∧ XsB P xs ∧ xs.length ≤ 300 := by
  let I : Nat → Ws → Hv → Prop := fun i r g => ∃ q o2 xs, r = [some (.ref p), some (.ref q), o2, none] ∧ g[q]? = some (.lst (xs.map q2)) ∧ Ext h g ∧ h.length ≤ q ∧ XsB P xs ∧ xs.length ≤ 3 * i
  have keep : ∀ i r g, I i r g → g[p]? = some (.lst (P.map pW)) := by
    rintro i r g ⟨q, o2, xs, rfl, a1, a2, _⟩
    exact a2 _ _ e
  have hm : (P.map pW).length = P.length := List.length_map ..
  have step : ∀ (i : Nat) w, (P.map pW)[i]? = some w → ∀ r g, I i r g → ∃ r' g', xB (r.set 2 (some w)) g = .nx r' g' ∧ I (i + 1) r' g' := by
    rintro i w ew r g ⟨q, o2, xs, rfl, a1, a2, a3, a4, a5⟩
    rw [List.getElem?_map] at ew
    obtain ⟨c, ec, rfl⟩ := Option.map_eq_some_iff.mp ew
    have hi := lt_of_get ec
    have mc := List.mem_of_getElem? ec
    obtain ⟨q', g', ys, b1, b2, b3, b4, b5⟩ := xbodyB (p := p) (o3 := none) mc wf (pg c mc) a1 a4 (by omega)
    refine ⟨_, _, b1, q', some (pW c), xs ++ ys, rfl, b2, ?_, ?_, b4, by simp; omega⟩
    · rcases b3 with ⟨z1, z2⟩ | ⟨z1, z2⟩
      · rw [z2]
        exact (Kp.set q g _).ext a2 a3
      · exact a2.trans z2
    · rcases b3 with ⟨z1, z2⟩ | ⟨z1, z2⟩
      · omega
      · have := a2.len; omega
  have i0 : I 0 [some (.ref p), some (.ref h.length), none, none] (h ++ [.lst []]) := ⟨h.length, none, [], rfl, get_last, Ext.more _ _, Nat.le_refl _, fun x hx => by simp at hx, Nat.zero_le _⟩
  obtain ⟨r1, g1, lp, q, o2, xs, rfl, a1, a2, a3, a4, a5⟩ := for_seq I keep step (P.map pW).length 0 _ (h ++ [.lst []]) (by omega) i0
  refine ⟨q, g1, xs, ?_, a1, a2, a3, a4, by omega⟩
  have st : startW ["_law_pieces_here", "_law_xs_here", "_law_piece", "_law_at"] [.ref p] = [some (.ref p), none, none, none] := rfl
  have s1 : (mSet 1 (mLst mNil)) [some (.ref p), none, none, none] h = .nx [some (.ref p), some (.ref h.length), none, none] (h ++ [.lst []]) := by simp
  have fe : mFor (mSrc (mVar 0)) (mGn 2) xB [some (.ref p), some (.ref h.length), none, none] (h ++ [.lst []]) = .nx [some (.ref p), some (.ref q), o2, none] g1 := by
    unfold mFor
    rw [src_lp (e.old _) (i := 0) rfl, andS_val]
    exact lp
  unfold m__law_xs
  rw [mDef_eq, st, mSeq_eq, s1, thenS_nx, mSeq_eq]
  unfold xB xF xN at fe
  rw [fe, thenS_nx]
  rfl
end
/-! ### the sides -/
section
variable {R : List Pc} {x : QQ}
theorem first_noL (wf : Wf R) (fx : Fq x) {t : Option QQ} (h0 : R[0]? = some (.at x t)) {c : Pc} (hc : c ∈ R) (ic : InL c x) : False := by
  obtain ⟨i, e⟩ := mem_ix hc
  cases c with
  | «at» y t => exact ic
  | bt a b l =>
    obtain ⟨k, u, k1, k2, k3⟩ := bt_ends wf e
    rcases Nat.eq_zero_or_pos k with q | q
    · subst q
      have k2' : R[0]? = some (.at a u) := k2
      rw [h0] at k2'
      cases k2'
      exact Lt.irrefl _ ic.1
    · exact (pts_lt' wf q (i := 0) h0 k2).asym ic.1
theorem last_noR (wf : Wf R) (fx : Fq x) {t : Option QQ} (h0 : R[R.length - 1]? = some (.at x t)) {c : Pc} (hc : c ∈ R) (ic : InR c x) : False := by
  obtain ⟨ev, _⟩ := wf_at wf h0
  have hl := lt_of_get h0
  obtain ⟨i, e⟩ := mem_ix hc
  cases c with
  | «at» y t => exact ic
  | bt a b l =>
    obtain ⟨k, u, k1, k2, k3⟩ := bt_ends wf e
    have hi := lt_of_get e
    obtain ⟨w, v, ew, fw, _⟩ := wf.ev (2 * (k + 1)) (by omega) (by omega)
    have hb := k3 w v ew
    have lx := ic.2 w hb
    have e9 : 2 * ((R.length - 1) / 2) = R.length - 1 := by omega
    rw [← e9] at h0
    by_cases hm : k + 1 = (R.length - 1) / 2
    · rw [hm, h0] at ew
      cases ew
      exact Lt.irrefl _ lx
    · have l2 := pts_lt' wf (show k + 1 < (R.length - 1) / 2 by omega) ew h0
      exact l2.asym lx
theorem exL (wf : Wf R) (h0 : ∀ t, R[0]? ≠ some (.at x t)) {c : Pc} (hc : c ∈ R) (ic : SHP.In c x) : ∃ d ∈ R, InL d x := by
  obtain ⟨i, e⟩ := mem_ix hc
  cases c with
  | «at» y t =>
    have exy : x = y := ic
    subst exy
    obtain ⟨ev, _⟩ := wf_at wf e
    have ip : 0 < i := by
      rcases (Nat.eq_zero_or_pos i) with z | z
      · rw [z] at e
        exact absurd e (h0 t)
      · exact z
    obtain ⟨a, t', b, l, b1, b2, b3, b4, b5, b6, b7⟩ := wf.od (i - 1) (by omega) (by have := lt_of_get e; omega)
    have ei : i - 1 + 1 = i := by omega
    rw [ei] at b6
    obtain ⟨y', t2, rfl, b8⟩ := b6 (lt_of_get e)
    rw [e] at b8
    cases b8
    exact ⟨_, List.mem_of_getElem? b2, b5 _ rfl, fun b' hb => by cases hb; exact Lt.irrefl _⟩
  | bt a b l => exact ⟨_, hc, ic.1, fun b' hb => (ic.2 b' hb).asym⟩
theorem exR (wf : Wf R) (h0 : ∀ t, R[R.length - 1]? ≠ some (.at x t)) {c : Pc} (hc : c ∈ R) (ic : SHP.In c x) : ∃ d ∈ R, InR d x := by
  obtain ⟨i, e⟩ := mem_ix hc
  cases c with
  | «at» y t =>
    have exy : x = y := ic
    subst exy
    obtain ⟨ev, _⟩ := wf_at wf e
    have hl := lt_of_get e
    have ip : i + 1 < R.length := by
      refine Nat.lt_of_not_le fun z => ?_
      have ei : R.length - 1 = i := by omega
      exact h0 t (by rw [ei]; exact e)
    obtain ⟨a, t', b, l, b1, b2, b3, b4, b5, b6, b7⟩ := wf.od (i + 1) (by omega) ip
    have b1' : R[i]? = some (.at a t') := b1
    rw [e] at b1'
    cases b1'
    exact ⟨_, List.mem_of_getElem? b2, Lt.irrefl _, b5⟩
  | bt a b l => exact ⟨_, hc, ic.1.asym, ic.2⟩
end
theorem points_low {h : Hv} {p : Nat} {d0 : Int} {ds : List Int} (e : h[p]? = some (.lst ((d0 :: ds).map W.int))) (hl : ds.length ≤ 150) (h0 : 0 < ds.length) :
    ∃ xs : List QQ, m__law_points [.ref p] h = .val (.ref h.length) (h ++ [.lst (xs.map q2), .lst (ds.map W.int)]) ∧ xs[0]? = some (d0.fmod 3, 1) ∧ Gd 60 (d0.fmod 3, 1) := by
  let L : List W := ds.map W.int
  have f3 := fmod_in d0 (show (0 : Int) < 3 by decide)
  have gd0 : Gd 5 (d0.fmod 3, 1) := by
    have b1 : Bn 5 (d0.fmod 3) := by unfold Bn; have : (2 : Nat) ^ 5 = 32 := rfl; omega
    refine ⟨⟨by show (0 : Int) < 1; decide, by simp, b1.sm (by decide), by show (1 : Int).natAbs < 2 ^ 1000; decide +kernel⟩, f3.1, b1, by show (1 : Int).natAbs < 2 ^ 5; decide⟩
  let I : Nat → Ws → Hv → Prop := fun i r g => ∃ o3 o4 acc x, r = [some (.ref p), some (.ref h.length), some (q2 x), o3, o4] ∧ g = h ++ [.lst (acc.map q2), .lst L] ∧ acc.length = i ∧ Gd (5 * i + 5) x ∧ (acc ++ [x])[0]? = some (d0.fmod 3, 1)
  have keep : ∀ i r g, I i r g → g[h.length + 1]? = some (.lst L) := by
    rintro i r g ⟨o3, o4, acc, x, _, rfl, _⟩
    simp
  have step : ∀ (i : Nat) w, L[i]? = some w → ∀ r g, I i r g → ∃ r' g', ptB (r.set 3 (some w)) g = .nx r' g' ∧ I (i + 1) r' g' := by
    rintro i w ew r g ⟨o3, o4, acc, x, rfl, rfl, a3, a5, a6⟩
    have hi := lt_of_get ew
    have hL : L.length ≤ 150 := by simp only [L, List.length_map]; exact hl
    obtain ⟨d, hd⟩ : ∃ d, w = .int d := by
      have m := List.mem_of_getElem? ew
      obtain ⟨d, _, q⟩ := List.mem_map.mp m
      exact ⟨d, q.symm⟩
    subst hd
    have b := pt_body (p := p) (o4 := o4) (d := d) (h := h) (L := .lst L) (acc := acc) (by omega) a5 (by omega)
    have f5 := fmod_in d (show (0 : Int) < 5 by decide)
    have f3 := fmod_in (d.fdiv 5) (show (0 : Int) < 3 by decide)
    obtain ⟨n1, n2, n3, n4, n5⟩ := nxt_ok (s := 1 + d.fmod 5) (t := 1 + (d.fdiv 5).fmod 3) a5 ⟨by omega, by omega⟩ ⟨by omega, by omega⟩ (by omega)
    refine ⟨_, _, b, _, _, acc ++ [x], nxt x (1 + d.fmod 5) (1 + (d.fdiv 5).fmod 3), rfl, rfl, by simp [a3], ?_, ?_⟩
    · have e5 : 5 * (i + 1) + 5 = 5 * i + 5 + 5 := by omega
      rw [e5]; exact n1
    · rw [List.getElem?_append_left (by simp)]; exact a6
  have i0 : I 0 [some (.ref p), some (.ref h.length), some (q2 (d0.fmod 3, 1)), none, none] (h ++ [.lst [], .lst L]) :=
    ⟨none, none, [], (d0.fmod 3, 1), rfl, rfl, rfl, gd0, rfl⟩
  obtain ⟨r1, g3, lp, o3, o4, acc, x, rfl, rfl, a3, a5, a6⟩ := for_seq I keep step L.length 0 _ (h ++ [.lst [], .lst L]) (by omega) i0
  refine ⟨acc, ?_, ?_, ⟨gd0.fq, gd0.nn, gd0.b1.mono (by decide), gd0.b2.mono (by decide)⟩⟩
  · have st : startW ["_law_digits", "_law_points_here", "_law_x", "_law_digit", "_law_step"] [.ref p] = [some (.ref p), none, none, none, none] := rfl
    have e0 : (h ++ [O.lst []])[p]? = some (.lst ((d0 :: ds).map W.int)) := get_old e
    have ix1 : mIx (.ref p) (.int 0) (h ++ [.lst []]) = .val (.int d0) (h ++ [.lst []]) := mIx_lst e0 atI0
    have s1 : (mPar 1 2 (mCons (mLst mNil) (mCons (mTup (mCons (m2 mMod (mB mInt (mCons (m2 mIx (mVar 0) (mC (.int 0))) mNil)) (mC (.int 3))) (mCons (mC (.int 1)) mNil))) mNil))) [some (.ref p), none, none, none, none] h = .nx [some (.ref p), some (.ref h.length), some (q2 (d0.fmod 3, 1)), none, none] (h ++ [.lst []]) := by
      unfold mPar
      simp only [mCons_eq, mLst_eq, mNil_eq, bind_val, List.length_nil, Nat.zero_le, if_true, mNew_eq, mTup_eq, m2_eq, mB_eq, mVar0, mC_eq, ix1, mInt_int, mod3, List.length_cons, Nat.zero_add, Nat.reduceAdd, show (2 : Nat) ≤ 100000 from by decide, andS_val]
      rfl
    have sr : (mSrc (mSl (mVar 0) (mPart (some (mC (.int 1)))) (mPart none))) [some (.ref p), some (.ref h.length), some (q2 (d0.fmod 3, 1)), none, none] (h ++ [.lst []]) = .val ⟨L.length + 1, nxSeq (h.length + 1)⟩ (h ++ [.lst [], .lst L]) := by
      have ct : cutW ((d0 :: ds).map W.int) (some 1) none = L := cut_drop _ 1 (by simp)
      have q : (mSl (mVar 0) (mPart (some (mC (.int 1)))) (mPart none)) [some (.ref p), some (.ref h.length), some (q2 (d0.fmod 3, 1)), none, none] (h ++ [.lst []]) = .val (.ref (h.length + 1)) (h ++ [.lst [], .lst L]) := by
        simp only [mSl, mPart, mVar0, bind_val, mC_eq, mCut, e0, ct]
        simp
      have e2 : (h ++ [O.lst [], .lst L])[h.length + 1]? = some (.lst L) := by simp
      unfold mSrc
      rw [q, bind_val]
      simp only [srcOf, e2]
    have fe : mFor (mSrc (mSl (mVar 0) (mPart (some (mC (.int 1)))) (mPart none))) (mGn 3) ptB [some (.ref p), some (.ref h.length), some (q2 (d0.fmod 3, 1)), none, none] (h ++ [.lst []]) = .nx [some (.ref p), some (.ref h.length), some (q2 x), o3, o4] (h ++ [.lst (acc.map q2), .lst L]) := by
      unfold mFor
      rw [sr, andS_val]
      exact lp
    unfold m__law_points
    rw [mDef_eq, st, mSeq_eq, s1, thenS_nx, mSeq_eq]
    rw [fe, thenS_nx]
    rfl
  · have hL : L.length = ds.length := by simp [L]
    rw [List.getElem?_append_left (by omega)] at a6
    exact a6
end SHP
end
section
/-! ### starred items, slices of tuples, a op b by an own method, x op= e, zip -/
namespace VL
open PySem L2 PySem.Spec PyProof.Rows
/-- the items of a list or a tuple -/
def itemsO (w : W) (h : Hv) : Option (List W) := match w with
  | .tup xs => some xs
  | .ref p => (match h[p]? with
    | some (.lst xs) => some xs
    | some (.rol xs) => some xs
    | _ => none)
  | _ => none
theorem items_ok {K : PySem.W.Frag} {T : Tx} {ps : Pl} {h : Hv} {H : Hp} {w : W} {v : V} {xs : List W} (vw : View T ps h H) (wv : WV ps w v) (e : itemsO w h = some xs) : ∃ a vs, v = .ref a ∧ (SqT K H a vs ∨ SqL K H a vs) ∧ Paired (WV ps) xs vs := by
  unfold itemsO at e
  split at e
  · cases e
    obtain ⟨a, vs, rfl, ht, rr⟩ := wv.tup_of
    exact ⟨a, vs, rfl, .inl (SqT.of (vw.tup a vs ht)), rr⟩
  · obtain ⟨a, ea, rfl⟩ := wv
    split at e
    · rename_i ys e1
      cases e
      obtain ⟨vs, rr, eH⟩ := vw.ob _ a _ ea e1
      exact ⟨a, vs, rfl, .inr (SqL.of eH), rr⟩
    · rename_i ys e1
      cases e
      obtain ⟨vs, ob, rr, eH⟩ := vw.ob _ a _ ea e1
      exact ⟨a, vs, rfl, .inr (.inl (.inr ⟨ob, eH⟩)), rr⟩
    · cases e
  · cases e
def mStarO (g : Ws → Hv → Res (List W)) (r : Ws) (w : W) (h : Hv) : Res (List W) := match itemsO w h with
  | some xs => (g r h).bind fun ws h2 => .val (xs ++ ws) h2
  | none => .bad
def mStarC (f : Ws → Hv → Res W) (g : Ws → Hv → Res (List W)) : Ws → Hv → Res (List W) := fun r h => (f r h).bind (mStarO g r)
/-- t[lo:hi], t a tuple and not the whole of it, or a list -/
def mCutA (w : W) (lo hi : Option Int) (h : Hv) : Res W := match w with
  | .tup xs => if HT.sIx xs.length 0 lo = 0 ∧ HT.sIx xs.length xs.length hi = xs.length then .bad else .val (.tup (cutW xs lo hi)) h
  | .ref p => (match h[p]? with
    | some (.lst xs) => mNew (.lst (cutW xs lo hi)) h
    | some (.rol xs) => mNew (.lst (cutW xs lo hi)) h
    | _ => .bad)
  | _ => .bad
def mSlA (f : Ws → Hv → Res W) (lo hi : Ws → Hv → Res (Option Int)) : Ws → Hv → Res W := fun r h => (f r h).bind fun w h1 => (lo r h1).bind fun l h2 => (hi r h2).bind fun u h3 => mCutA w l u h3
/-- a op b by the own method of a's class, b of the same class -/
def mOwnBO (c : String) (mf : MFn) : W → W → Hv → Res W := fun x y h => match x, y with
  | .ref p, .ref q => (match h[p]?, h[q]? with
    | some (.ins d _), some (.ins d' _) => if d = c ∧ d' = c then mf [x, y] h else .bad
    | _, _ => .bad)
  | _, _ => .bad
def mAug (i : Nat) (g : MOp) (f : Ws → Hv → Res W) : MS := fun r h => match r[i]? with
  | some (some x) => (f r h).andS r fun y h1 => (g x y h1).andS r fun z h2 => .nx (r.set i (some z)) h2
  | _ => .bad
def mIAdd : MOp := fun x y h => match x, y with
  | .int i, .int j => .val (.int (i + j)) h
  | _, _ => .bad
/-- zip of two lists -/
def zipN (xs ys : List W) (i : Nat) (h : Hv) : Nxt := match xs[i]?, ys[i]? with
  | some x, some y => .item (.tup [x, y]) h
  | _, _ => .stop
def nxZip (p q : Nat) : Nat → Hv → Nxt := fun i h => match h[p]?, h[q]? with
  | some (.lst xs), some (.lst ys) => zipN xs ys i h
  | _, _ => .bad
def srcZ (ws : List W) (h : Hv) : Res Src := match ws with
  | [.ref p, .ref q] => (match h[p]?, h[q]? with
    | some (.lst xs), some (.lst _) => .val ⟨xs.length + 1, nxZip p q⟩ h
    | _, _ => .bad)
  | _ => .bad
def mZip (g : Ws → Hv → Res (List W)) : Ws → Hv → Res Src := fun r h => (g r h).bind srcZ
section
variable {T : Tx} {X : Cx} {C fa : Addr} {c : String} {x : Str} {a b e e2 tg : Expr} {es : List Expr} {f fo : Ws → Hv → Res W} {fl fh : Ws → Hv → Res (Option Int)} {g : Ws → Hv → Res (List W)} {p pos p2 : Pos} {n : Nat} {mf : MFn} {lo hi : Option Expr}
theorem sa_star (h1 : SE T X e f) (h2 : SA T X es g) (hs : starEach (.Starred e p :: es) X.env = (true, eval e X.env) :: starEach es X.env := by rfl) : SA T X (.Starred e p :: es) (mStarC f g) := fun E cn =>
  PAi (StX.pa_star (h1 E cn) (h2 E cn) hs) fun s H Q ⟨ps, r, hv, es0, vw, gd⟩ => by
  refine ⟨ps, r, hv, es0, vw, (Good.bind (R := WV) (S := WVs) gd).imp (fun v H1 q => ?_) fun _ _ _ z => z⟩
  obtain ⟨qs, w, h1, st, vw1, wv, g1⟩ := q
  unfold mStarO at g1
  split at g1
  · rename_i xs ex
    obtain ⟨a, vs, rfl, sq, rr⟩ := items_ok (K := X.K) vw1 wv ex
    refine ⟨a, vs, rfl, sq, qs, r, h1, es0.mono st.pre, vw1, (Good.bind (R := WVs) (S := WVs) g1).imp (fun us H2 q2 => ?_) fun _ _ _ z => z⟩
    obtain ⟨rs, ws, h2, st2, vw2, wv2, g2⟩ := q2
    exact Good.now (R := WVs) g2 vw2 (paired_app (WVs.mono st2.pre rr) wv2)
  · exact g1.elim
theorem se_sliceA (he : SE T X e f) (hl : SO T X lo fl) (hh : SO T X hi fh) : SE T X (.Subscript e (.Slice lo hi none p2) pos) (mSlA f fl fh) := fun E cn => PEi (pe_slice (SlR.or sl_list sl_tup) (he E cn) (hl E cn) (hh E cn)) fun s H Q ⟨ps, r, hv, es, vw, gd⟩ => by
  refine ⟨ps, r, hv, es, vw, (Good.bind (R := WV) (S := WV) gd).imp (fun v H1 q => ?_) fun _ _ _ z => z⟩
  obtain ⟨qs, w, h1, st, vw1, wv, g1⟩ := q
  refine ⟨qs, r, h1, es.mono st.pre, vw1, (Good.bind (R := OEq2) (S := WV) g1).imp (fun l H2 q2 => ?_) fun _ _ _ z => z⟩
  obtain ⟨rs, l', h2, st2, vw2, e2, g2⟩ := q2
  cases e2
  refine ⟨rs, r, h2, (es.mono st.pre).mono st2.pre, vw2, (Good.bind (R := OEq2) (S := WV) g2).imp (fun u H3 q3 => ?_) fun _ _ _ z => z⟩
  obtain ⟨ts, u', h3, st3, vw3, e3, g3⟩ := q3
  cases e3
  have wv3 := (wv.mono st2.pre).mono st3.pre
  dsimp only at g3
  unfold mCutA at g3
  split at g3
  · rename_i xs
    obtain ⟨a, vs, rfl, ht, rr⟩ := wv3.tup_of
    split at g3
    · exact g3.elim
    · rename_i hn
      rw [rr.length] at hn
      exact .inr ⟨a, vs, rfl, SqT.of (vw3.tup a vs ht), hn, fun p hp => good_tup vw3 g3 (paired_cut rr _ _) hp⟩
  · obtain ⟨a, ea, rfl⟩ := wv3
    split at g3
    · rename_i xs e1
      obtain ⟨vs, rr, eH⟩ := vw3.ob _ a _ ea e1
      exact .inl ⟨a, vs, rfl, SqL.of eH, fun p hp => good_new vw3 g3 (fun H' p' e => ⟨_, paired_cut rr _ _, e⟩) hp⟩
    · rename_i xs e1
      obtain ⟨vs, ob, rr, eH⟩ := vw3.ob _ a _ ea e1
      exact .inl ⟨a, vs, rfl, .inl (.inr ⟨ob, eH⟩), fun p hp => good_new vw3 g3 (fun H' p' e => ⟨_, paired_cut rr _ _, e⟩) hp⟩
    · exact g3.elim
  · exact g3.elim
theorem se_ownB {op : Operator} {fb : Ws → Hv → Res W} (Cn9 : Can T X fa 2 mf) (hcv : T.cv c = .ref C) (hc : PySem.W.selfFirst X.K C = true) (hs : PySem.W.findIn X.K (.ref C) (PySem.dunder op.info.2) = some (some (.ref fa))) (hf : PySem.W.isFn X.K (.ref fa) = true) (ha : SE T X a f) (hb : SE T X b fb) :
    SE T X (.BinOp a op b pos) (m2 (mOwnBO c mf) f fb) := fun E cn => ⟨fun pins s σ H Q I h => by
  obtain ⟨ps, r, hv, es0, vw, gd⟩ := h
  refine wpAny_BinOp (thn ((ha E cn).run pins s σ H _ I ⟨ps, r, hv, es0, vw, Good.bind (R := WV) (S := WV) gd⟩) fun u s1 hh => ?_)
  obtain ⟨y, H1, I1, rx, qs, w, h1, st, vw1, wv, g1⟩ := hh
  refine thn ((hb E cn).run pins s1 σ H1 _ I1 ⟨qs, r, h1, es0.mono st.pre, vw1, Good.bind (R := WV) (S := WV) g1⟩) fun u2 s2 hh2 => ?_
  obtain ⟨y2, H2, I2, rx2, ts, w2, h2, st2, vw2, wv2, g2⟩ := hh2
  have wv1 := wv.mono st2.pre
  unfold mOwnBO at g2
  dsimp only at g2
  split at g2
  · rename_i p0 q0
    obtain ⟨a1, ea, rfl⟩ := wv1
    obtain ⟨a2, ea2, rfl⟩ := wv2
    cases (show u = .ref a1 from rx)
    cases (show u2 = .ref a2 from rx2)
    split at g2
    · rename_i d fs d' fs' e1 e2
      split at g2
      · rename_i hd
        obtain ⟨rfl, rfl⟩ := hd
        obtain ⟨vs, dx, C', hc', rr, eH⟩ := vw2.ob _ a1 _ ea e1
        rw [hcv] at hc'
        cases hc'
        obtain ⟨vs2, dx2, C'', hc'', rr2, eH2⟩ := vw2.ob _ a2 _ ea2 e2
        rw [hcv] at hc''
        cases hc''
        obtain ⟨mA, O, _, _, _, _⟩ := ins_get I2.hok eH
        obtain ⟨od, J, _⟩ := O.look
        obtain ⟨mB, O2, _, _, _, _⟩ := ins_get I2.hok eH2
        obtain ⟨od2, J2, _⟩ := O2.look
        obtain ⟨m, hF⟩ := I2.fr
        have prom : spV T 2 mf [V.ref a1, V.ref a2] H2 Q (WE E σ) := ⟨rfl, ts, h2, [.ref p0, .ref q0], vw2, .cons ⟨a1, ea, rfl⟩ (.cons ⟨a2, ea2, rfl⟩ .nil), g2⟩
        refine PySem.W.binop_K (op := op) hF I2.ok.mod.kin J J2.type hc hs hf ?_
        refine wpAny_mono (Can.wp Cn9 cn I2 (us := [.ref a1, .ref a2]) (vs := [V.ref a1, V.ref a2]) (.cons rfl (.cons rfl .nil)) prom) (fun w' s' z => ?_) fun _ _ x => x
        obtain ⟨z8, H8, I8, rz8, qz8⟩ := z
        exact SlX.cmpback rz8 ⟨z8, H8, I8, rz8, qz8⟩
      · exact g2.elim
    · exact g2.elim
  · exact g2.elim⟩
theorem ss_aug (i : Nat) {op : Operator} {gi : Int → Int → Int} {y : Str} {go : MOp} {px : Pos} (hN : X.N.Nodup) (ho : PIp X op (ipI gi)) (hg : ∀ x y h, go x y h = match x, y with | .int i, .int j => .val (.int (gi i j)) h | _, _ => .bad) (he : SE T X e f) (hi : X.N[i]? = some y := by rfl) (hx : Loc X.env.scope y := by first | exact Or.inl rfl | exact Or.inr rfl) (hf9 : X.fn y = true ∨ X.env.scope.names.lookup y = some .local := by first | exact .inl rfl | exact .inr rfl) :
    SS T X (.AugAssign (.Name y px) op e pos) (mAug i go f) := fun E cn => PSi (ps_aug hN hi hx (he E cn) ho hf9) fun D s H ⟨ps, r, hv, es, vw, gd⟩ => by
  unfold mAug at gd
  split at gd
  · rename_i w0 e0
    obtain ⟨v0, ev, wv0⟩ := es.2 i w0 e0
    refine ⟨v0, ev, ps, r, hv, es, vw, (good_andS (R := WV) es gd).imp (fun v H1 q => ?_) fun _ _ _ z => z⟩
    obtain ⟨qs, w, h1, st, vw1, wv, es1, g1⟩ := q
    rw [hg] at g1
    split at g1
    · rename_i i1 i2
      have z0 := wv0.mono st.pre
      cases (show v0 = .int i1 from z0)
      cases (show v = .int i2 from wv)
      exact ⟨i1, i2, rfl, rfl, g1 qs H1 _ (Step.refl _ _) vw1 (es1.set i rfl)⟩
    · exact g1.elim
  · exact gd.elim
theorem ss_iadd (i : Nat) {y : Str} {px : Pos} (hN : X.N.Nodup) (he : SE T X e f) (hi : X.N[i]? = some y := by rfl) (hx : Loc X.env.scope y := by first | exact Or.inl rfl | exact Or.inr rfl) (hf9 : X.fn y = true ∨ X.env.scope.names.lookup y = some .local := by first | exact .inl rfl | exact .inr rfl) :
    SS T X (.AugAssign (.Name y px) .Add e pos) (mAug i mIAdd f) := ss_aug i (gi := fun i j => i + j) hN ip_add (fun _ _ _ => rfl) he hi hx hf9
theorem sim_zip {K : PySem.W.Frag} {ps : Pl} {p q n : Nat} {a b : Addr} (ea : ps[p]? = some a) (eb : ps[q]? = some b) : SimI T ps ⟨n, nxZip p q⟩ (Itz K a b) := by
  intro qs h H i pre vw
  have ea' := at_pre pre ea
  have eb' := at_pre pre eb
  show NxOk T qs H (Itz K a b) i (nxZip p q i h)
  unfold nxZip
  split
  · rename_i xs ys e1 e2
    obtain ⟨vs, rr, eH⟩ := vw.ob _ a _ ea' e1
    obtain ⟨us, rr2, eH2⟩ := vw.ob _ b _ eb' e2
    unfold zipN
    split
    · rename_i x y ex ey
      obtain ⟨v, ev, wv⟩ := paired_get rr ex
      obtain ⟨u, eu, wu⟩ := paired_get rr2 ey
      refine ⟨⟨vs, us, v, u, SqL.of eH, SqL.of eH2, ev, eu⟩, fun z H' y => ?_⟩
      obtain ⟨t, x', y', rfl, hq, rfl, y1, y2⟩ := y
      have z1 := y1 vs (SqL.of eH)
      have z2 := y2 us (SqL.of eH2)
      rw [ev] at z1
      rw [eu] at z2
      cases z1
      cases z2
      obtain ⟨v1, s1⟩ := vw.tuple hq [v, u]
      exact ⟨_, s1, v1, WV.tup_mk (.inr ⟨rfl, rfl⟩) (WVs.mono s1.pre (.cons wv (.cons wu .nil)))⟩
    · rename_i no
      refine ⟨vs, us, SqL.of eH, SqL.of eH2, ?_⟩
      cases ex : xs[i]? with
      | none => exact .inl (paired_none rr ex)
      | some x =>
        cases ey : ys[i]? with
        | none => exact .inr (paired_none rr2 ey)
        | some y => exact absurd ey (no x y ex)
  · trivial
theorem two_args {ps : Pl} {x y : W} {vs : List V} (h : Paired (WV ps) [x, y] vs) : ∃ v u, vs = [v, u] ∧ WV ps x v ∧ WV ps y u := by
  cases h with
  | cons a t =>
    cases t with
    | cons b t => cases t; exact ⟨_, _, rfl, a, b⟩
theorem si_zip {fa : Ws → Hv → Res (List W)} {tpos : Pos} {elts : List Expr} {kk : Nat} (hg : Gl X "zip") (hm : X.mg "zip" = none) (ha : SA T X [e, e2] fa) (hs : starEach [e, e2] X.env = (false, eval e X.env) :: starEach [e2] X.env := by rfl) (hpl : (backTo pos (starEach [e2] X.env)).any (·.1) = false := by rfl) :
    SI T X (.Tuple elts kk tpos) (.Call (.Name "zip" p) [e, e2] [] pos) (mZip fa) := fun E cn => ⟨fun pins s σ H R I h => (RZ.pi_zipA hg hm (ha E cn) hs hpl).run pins s σ H R I (by
  obtain ⟨ps, r, hv, es, vw, gd⟩ := h
  refine ⟨ps, r, hv, es, vw, ?_⟩
  cases q : fa r hv with
  | bad => unfold mZip at gd; rw [q] at gd; exact gd.elim
  | exc c d h1 => unfold mZip at gd; rw [q] at gd; exact gd
  | val ws h1 =>
    unfold mZip at gd
    rw [q] at gd
    have g1 : Good T (SimI T) ps H (srcZ ws h1) R _ := gd
    intro qs H' vs st vw' wv
    unfold srcZ at g1
    split at g1
    · obtain ⟨v, u, rfl, ⟨a, ea, rfl⟩, ⟨b, eb, rfl⟩⟩ := two_args wv
      split at g1
      · rename_i xs ys e1 e2
        obtain ⟨vs, rr, eH⟩ := vw'.ob _ a _ ea e1
        obtain ⟨us, rr2, eH2⟩ := vw'.ob _ b _ eb e2
        exact ⟨a, b, vs, us, rfl, .inl ⟨SqL.of eH, SqL.of eH2, g1 qs H' _ st vw' (sim_zip ea eb)⟩⟩
      · exact g1.elim
    · exact g1.elim)⟩
end
end VL
end
section
namespace SHP
open PySem L2 VL
def fuel_merged : Ws → Hv → Nat := fun r h => match r[0]?, r[1]? with
  | some (some (VL.W.ref p)), some (some (VL.W.ref q)) => (match h[p]?, h[q]? with
    | some (.lst a), some (.lst b) => a.length + b.length + 1
    | _, _ => 1)
  | _, _ => 1
def m_compared : MFn := mDef ["one", "other"] ((mSeq (mExpr (mCall 1 m_require_fraction (mCons (mVar 0) mNil)))
    (mSeq (mExpr (mCall 1 m_require_fraction (mCons (mVar 1) mNil)))
    (mRet (mCall 2 m_order_of (mCons (mVar 0) (mCons (mVar 1) mNil)))))))
def m_sum_of_two : MFn := mDef ["total", "each", "common", "number", "reduced"] ((mSeq (mSet 2 (mCall 2 m_common_divisor (mCons (m2 mIx (mVar 0) (mC (.int 1))) (mCons (m2 mIx (mVar 1) (mC (.int 1))) mNil))))
    (mSeq (mSet 3 (m2 mAdd (m2 mMul (m2 mIx (mVar 0) (mC (.int 0))) (m2 mDiv (m2 mIx (mVar 1) (mC (.int 1))) (mVar 2))) (m2 mMul (m2 mIx (mVar 1) (mC (.int 0))) (m2 mDiv (m2 mIx (mVar 0) (mC (.int 1))) (mVar 2)))))
    (mSeq (mSet 4 (mCall 2 m_common_divisor (mCons (mVar 3) (mCons (mVar 2) mNil))))
    (mRet (mTup (mCons (m2 mDiv (mVar 3) (mVar 4)) (mCons (m2 mMul (m2 mDiv (m2 mIx (mVar 0) (mC (.int 1))) (mVar 2)) (m2 mDiv (m2 mIx (mVar 1) (mC (.int 1))) (mVar 4))) mNil))))))))
def m_total_of : MFn := mDef ["some", "total", "each"] ((mSeq (mIfS (mNotT (mT (mB mIsi (mCons (mVar 0) (mCons (mC (.ty "list")) mNil))))) (mRaise "b" "value" (mCons (mVar 0) mNil)) mNext)
    (mSeq (mSet 1 (mTup (mCons (mC (.int 0)) (mCons (mC (.int 1)) mNil))))
    (mSeq (mFor (mSrc (mVar 0)) (mGn 2) (mSeq (mExpr (mCall 1 m_require_fraction (mCons (mVar 2) mNil)))
    (mSet 1 (mCall 2 m_sum_of_two (mCons (mVar 1) (mCons (mVar 2) mNil))))))
    (mRet (mVar 1))))))
def m_points_of : MFn := mDef ["pieces", "piece"] ((mRet (mLc (mSrc (mVar 0)) 1 (mT (m2 (mEq false) (m2 mIx (mVar 1) (mC (.int 0))) (mC (.str ("at" : Str))))) (m2 mIx (mVar 1) (mC (.int 1))))))
def m_pair_sum : MFn := mDef ["piece", "one", "other"] ((mSeq (mPar 1 2 (mCons (m2 mIx (mVar 0) (m1 mNeg (mC (.int 2)))) (mCons (m2 mIx (mVar 0) (m1 mNeg (mC (.int 1)))) mNil)))
    (mSeq (mIfS (mOrT (mT (m2 (mIs false) (mVar 1) (mC .non))) (mT (m2 (mIs false) (mVar 2) (mC .non)))) (mRet (mC .non)) mNext)
    (mRet (mIf (mT (m2 (mEq false) (m2 mIx (mVar 0) (mC (.int 0))) (mC (.str ("at" : Str))))) (mCall 1 m_total_of (mCons (mLst (mCons (mVar 1) (mCons (mVar 2) mNil))) mNil)) (mTup (mCons (m2 mAdd (m2 mIx (mVar 1) (mC (.int 0))) (m2 mIx (mVar 2) (mC (.int 0)))) (mCons (m2 mAdd (m2 mIx (mVar 1) (mC (.int 1))) (m2 mIx (mVar 2) (mC (.int 1)))) mNil))))))))
def m_paired : MFn := mDef ["one", "other", "points", "rows", "ends", "x", "y"] ((mSeq (mSet 3 (mLst mNil))
    (mSeq (mSet 4 (mLst (mStarC (mSlA (mVar 2) (mPart (some (mC (.int 1)))) (mPart none)) (mCons (mC .non) mNil))))
    (mSeq (mFor (mZip (mCons (mVar 2) (mCons (mVar 4) mNil))) (mGs 2 (mGcons (mGn 5) (mGcons (mGn 6) mGnil))) (mSeq (mExpr (mApp (mVar 3) (mTup (mCons (mC (.str ("at" : Str))) (mCons (mVar 5) (mCons (mCall 2 m_time_at (mCons (mVar 0) (mCons (mVar 5) mNil))) (mCons (mCall 2 m_time_at (mCons (mVar 1) (mCons (mVar 5) mNil))) mNil)))))))
    (mIfS (mOrT (mT (m2 (mIs true) (mVar 6) (mC .non))) (mT (m2 (mIs false) (mCall 1 m_high_of (mCons (mVar 0) mNil)) (mC .non)))) (mExpr (mApp (mVar 3) (mTup (mCons (mC (.str ("between" : Str))) (mCons (mVar 5) (mCons (mVar 6) (mCons (mCall 2 m_line_after (mCons (mVar 0) (mCons (mVar 5) mNil))) (mCons (mCall 2 m_line_after (mCons (mVar 1) (mCons (mVar 5) mNil))) mNil)))))))) mNext)))
    (mRet (mVar 3))))))
def m_next_order : MFn := mDef ["one", "other", "first", "second"] ((mSeq (mIfS (mT (m2 (mEq false) (mVar 2) (mB mLen (mCons (mVar 0) mNil)))) (mRet (mC (.int 1))) mNext)
    (mSeq (mIfS (mT (m2 (mEq false) (mVar 3) (mB mLen (mCons (mVar 1) mNil)))) (mRet (m1 mNeg (mC (.int 1)))) mNext)
    (mRet (mCall 2 m_order_of (mCons (m2 mIx (mVar 0) (mVar 2)) (mCons (m2 mIx (mVar 1) (mVar 3)) mNil)))))))
def m_merged : MFn := mDef ["one", "other", "points", "first", "second", "order"] ((mSeq (mSet 2 (mLst mNil))
    (mSeq (mSet 3 (mC (.int 0)))
    (mSeq (mSet 4 (mC (.int 0)))
    (mSeq (mWhile fuel_merged (mOrT (mT (m2 mLt (mVar 3) (mB mLen (mCons (mVar 0) mNil)))) (mT (m2 mLt (mVar 4) (mB mLen (mCons (mVar 1) mNil))))) (mSeq (mSet 5 (mCall 4 m_next_order (mCons (mVar 0) (mCons (mVar 1) (mCons (mVar 3) (mCons (mVar 4) mNil))))))
    (mSeq (mExpr (mApp (mVar 2) (mIf (mT (m2 mLe (mVar 5) (mC (.int 0)))) (m2 mIx (mVar 0) (mVar 3)) (m2 mIx (mVar 1) (mVar 4)))))
    (mSeq (mIfS (mT (m2 mLe (mVar 5) (mC (.int 0)))) (mAug 3 mIAdd (mC (.int 1))) mNext)
    (mIfS (mT (m2 mGe (mVar 5) (mC (.int 0)))) (mAug 4 mIAdd (mC (.int 1))) mNext)))))
    (mRet (mVar 2)))))))
def m_sums : MFn := mDef ["one", "other", "rows", "piece"] ((mSeq (mSet 2 (mLst mNil))
    (mSeq (mFor (mSrc (mCall 3 m_paired (mCons (mVar 0) (mCons (mVar 1) (mCons (mCall 2 m_merged (mCons (mCall 1 m_points_of (mCons (mVar 0) mNil)) (mCons (mCall 1 m_points_of (mCons (mVar 1) mNil)) mNil))) mNil))))) (mGn 3) (mExpr (mApp (mVar 2) (mTup (mStarC (mSlA (mVar 3) (mPart none) (mPart (some (m1 mNeg (mC (.int 2)))))) (mCons (mCall 1 m_pair_sum (mCons (mVar 3) mNil)) mNil))))))
    (mRet (mVar 2)))))
def m_points_with_sides : MFn := mDef ["pieces", "rows", "index", "x", "before", "after"] ((mSeq (mSet 1 (mLst mNil))
    (mSeq (mFor (mRngC (mCons (mC (.int 0)) (mCons (mB mLen (mCons (mVar 0) mNil)) (mCons (mC (.int 2)) mNil)))) (mGn 2) (mSeq (mSet 3 (m2 mIx (m2 mIx (mVar 0) (mVar 2)) (mC (.int 1))))
    (mSeq (mSet 4 (mIf (mT (m2 mGt (mVar 2) (mC (.int 0)))) (mCall 2 m_value_or_none (mCons (m2 mIx (m2 mIx (mVar 0) (m2 mSub (mVar 2) (mC (.int 1)))) (mC (.int 3))) (mCons (mVar 3) mNil))) (mC .non)))
    (mSeq (mSet 5 (mIf (mT (m2 mLt (m2 mAdd (mVar 2) (mC (.int 1))) (mB mLen (mCons (mVar 0) mNil)))) (mCall 2 m_value_or_none (mCons (m2 mIx (m2 mIx (mVar 0) (m2 mAdd (mVar 2) (mC (.int 1)))) (mC (.int 3))) (mCons (mVar 3) mNil))) (mC .non)))
    (mExpr (mApp (mVar 1) (mTup (mCons (mVar 3) (mCons (mVar 4) (mCons (m2 mIx (m2 mIx (mVar 0) (mVar 2)) (mC (.int 2))) (mCons (mVar 5) mNil)))))))))))
    (mRet (mVar 1)))))
def m_is_drop : MFn := mDef ["one", "other"] ((mRet (mAndV (m2 (mIs true) (mVar 0) (mC .non)) (mAndV (m2 (mIs true) (mVar 1) (mC .non)) (m2 mGt (mCall 2 m_compared (mCons (mVar 0) (mCons (mVar 1) mNil))) (mC (.int 0)))))))
def m_is_jump_down : MFn := mDef ["before", "time", "after"] ((mSeq (mIfS (mT (m2 (mIs false) (mVar 1) (mC .non))) (mRet (mCall 2 m_is_drop (mCons (mVar 0) (mCons (mVar 2) mNil)))) mNext)
    (mRet (mOrV (mCall 2 m_is_drop (mCons (mVar 0) (mCons (mVar 1) mNil))) (mCall 2 m_is_drop (mCons (mVar 1) (mCons (mVar 2) mNil)))))))
def m_Shape_pieces : MFn := mDef ["self"] ((mRet (mB mListOf (mCons (mFld "S" "rows" (mVar 0)) mNil))))
def m_Shape_require_same_range : MFn := mDef ["self", "other"] ((mIfS (mOrT (mNotT (mT (fun r h => ((mVar 1) r h).bind (mIso [("S", true)])))) (mOrT (mT (m2 (mEq true) (mProp "S" m_Shape_low (mVar 0)) (mProp "S" m_Shape_low (mVar 1)))) (mT (m2 (mEq true) (mProp "S" m_Shape_high (mVar 0)) (mProp "S" m_Shape_high (mVar 1)))))) (mRaise "a" "value" (mCons (mVar 1) mNil)) mNext))
def m_Shape_add : MFn := mDef ["self", "other"] ((mSeq (mExpr (mMeth "S" "require_same_range" 1 m_Shape_require_same_range (mVar 0) (mCons (mVar 1) mNil)))
    (mRet (mMake "S" 1 m_Shape_init (mCons (mCall 2 m_sums (mCons (mFld "S" "rows" (mVar 0)) (mCons (mFld "S" "rows" (mVar 1)) mNil))) mNil)))))
def m_Shape_falls : MFn := mDef ["self", "row"] ((mRet (mLc (mSrc (mCall 1 m_points_with_sides (mCons (mFld "S" "rows" (mVar 0)) mNil))) 1 (mT (mCall 3 m_is_jump_down (mCons (m2 mIx (mVar 1) (mC (.int 1))) (mCons (m2 mIx (mVar 1) (mC (.int 2))) (mCons (m2 mIx (mVar 1) (mC (.int 3))) mNil))))) (mVar 1))))
end SHP
end
section
namespace VL
open PySem L2
theorem for_rngC {n : Nat} {lo c : Int} {s : Nat} {b : MS} (I : Nat → Ws → Hv → Prop) (step : ∀ i r h, i < n → I i r h → ∃ r' h', b (r.set s (some (.int (lo + i * c)))) h = .nx r' h' ∧ I (i + 1) r' h') :
    ∀ (k i : Nat) (r : Ws) (h : Hv), i + k = n → I i r h → ∃ r' h', VL.forM (nxC lo c n) (mGn s) b (k + 1) i r h = .nx r' h' ∧ I n r' h'
  | 0, i, r, h, hk, hi => by
    have e : i = n := by omega
    subst e
    refine ⟨r, h, ?_, hi⟩
    unfold VL.forM
    simp [nxC]
  | k + 1, i, r, h, hk, hi => by
    obtain ⟨r1, h1, e1, i1⟩ := step i r h (by omega) hi
    obtain ⟨r2, h2, e2, i2⟩ := for_rngC I step k (i + 1) r1 h1 (by omega) i1
    refine ⟨r2, h2, ?_, i2⟩
    unfold VL.forM
    simp only [nxC, show i < n by omega, if_true, mGn_eq, e1]
    exact e2
theorem size2 (n : Nat) : Builtin.Range.rangeSize 0 (n : Int) 2 = (((n + 1) / 2 : Nat) : Int) := by
  (unfold Builtin.Range.rangeSize)
  by_cases h : 0 < n
  · simp [h]; omega
  · have : n = 0 := by omega
    subst this
    rfl
theorem small2 {n : Nat} (h : n ≤ 100000) : Builtin.Range.small 0 (n : Int) 2 = true := by
  have s := size2 n
  unfold Builtin.Range.small
  rw [s]
  simp [Builtin.Range.rangeFitsLong]
  omega
theorem mRngC_of {n : Nat} {g g1 : Hv} {r : Ws} {f : Ws → Hv → Res (List W)} (hn : n ≤ 100000) (el : f r g = .val [.int 0, .int (n : Int), .int 2] g1) : mRngC f r g = .val ⟨(n + 1) / 2 + 1, nxC 0 2 ((n + 1) / 2)⟩ g1 := by
  unfold mRngC
  rw [el, bind_val]
  have s := size2 n
  have t : (Builtin.Range.rangeSize 0 (n : Int) 2).toNat = (n + 1) / 2 := by rw [s]; rfl
  have c : (decide ((2 : Int) ≠ 0) && decide ((2 : Int).natAbs < 1073741824) && Builtin.Range.small 0 (n : Int) 2 && decide (0 ≤ Builtin.Range.rangeSize 0 (n : Int) 2)) = true := by
    rw [small2 hn, s]
    simp
    omega
  unfold srcC
  simp only [c, if_true, t]
end VL
namespace SHP
open PySem L2 VL
/-- the line of a piece -/
def lnAt (R : List Pc) (i : Nat) : Option QQ := match R[i]? with
  | some (.bt _ _ l) => l
  | _ => none
def bef (R : List Pc) (k : Nat) (x : QQ) : Option QQ := vl (lnAt R (2 * k - 1)) x
def aft (R : List Pc) (k : Nat) (x : QQ) : Option QQ := vl (lnAt R (2 * k + 1)) x
def row (R : List Pc) (k : Nat) : W := match R[2 * k]? with
  | some (.at x t) => .tup [q2 x, qo (bef R k x), qo t, qo (aft R k x)]
  | _ => .non
abbrev pwB : MS := (mSeq (mSet 3 (m2 mIx (m2 mIx (mVar 0) (mVar 2)) (mC (.int 1))))
    (mSeq (mSet 4 (mIf (mT (m2 mGt (mVar 2) (mC (.int 0)))) (mCall 2 m_value_or_none (mCons (m2 mIx (m2 mIx (mVar 0) (m2 mSub (mVar 2) (mC (.int 1)))) (mC (.int 3))) (mCons (mVar 3) mNil))) (mC .non)))
    (mSeq (mSet 5 (mIf (mT (m2 mLt (m2 mAdd (mVar 2) (mC (.int 1))) (mB mLen (mCons (mVar 0) mNil)))) (mCall 2 m_value_or_none (mCons (m2 mIx (m2 mIx (mVar 0) (m2 mAdd (mVar 2) (mC (.int 1)))) (mC (.int 3))) (mCons (mVar 3) mNil))) (mC .non)))
    (mExpr (mApp (mVar 1) (mTup (mCons (mVar 3) (mCons (mVar 4) (mCons (m2 mIx (m2 mIx (mVar 0) (mVar 2)) (mC (.int 2))) (mCons (mVar 5) mNil))))))))))
section
variable {h g : Hv} {p q : Nat} {R : List Pc} {k : Nat} {o3 o4 o5 : Option W} {acc : List W}
abbrev pE6 (p q : Nat) (o2 o3 o4 o5 : Option W) : Ws := [some (.ref p), some (.ref q), o2, o3, o4, o5]
theorem pw_body (e : LP g p R) (wf : Wf R) (hk : 2 * k < R.length) (ea : g[q]? = some (.lst acc)) (hl : acc.length < 1000) : ∃ u3 u4 u5, pwB (pE6 p q (some (.int (0 + (k : Int) * 2))) o3 o4 o5) g = .nx (pE6 p q (some (.int (0 + (k : Int) * 2))) u3 u4 u5) (g.set q (.lst (acc ++ [row R k]))) := by
  obtain ⟨x, t, ex, fx, _⟩ := wf.ev (2 * k) (by omega) hk
  have m1 : mIx (.ref p) (.int (0 + (k : Int) * 2)) g = .val (pW (.at x t)) g := e.ixI (by omega) ex
  have v0 : ∀ o3 o4 o5 g, mVar 0 (pE6 p q (some (.int (0 + (k : Int) * 2))) o3 o4 o5) g = .val (.ref p) g := fun _ _ _ g => rfl
  have v1 : ∀ o3 o4 o5 g, mVar 1 (pE6 p q (some (.int (0 + (k : Int) * 2))) o3 o4 o5) g = .val (.ref q) g := fun _ _ _ g => rfl
  have v2 : ∀ o3 o4 o5 g, mVar 2 (pE6 p q (some (.int (0 + (k : Int) * 2))) o3 o4 o5) g = .val (.int (0 + (k : Int) * 2)) g := fun _ _ _ g => rfl
  have v3 : ∀ o4 o5 g, mVar 3 (pE6 p q (some (.int (0 + (k : Int) * 2))) (some (q2 x)) o4 o5) g = .val (q2 x) g := fun _ _ g => rfl
  have s1 : (mSet 3 (m2 mIx (m2 mIx (mVar 0) (mVar 2)) (mC (.int 1)))) (pE6 p q (some (.int (0 + (k : Int) * 2))) o3 o4 o5) g = .nx (pE6 p q (some (.int (0 + (k : Int) * 2))) (some (q2 x)) o4 o5) g := by
    simp only [mSet_eq, m2_eq, v0, v2, bind_val, mC_eq, m1, ixA1, andS_val]
    rfl
  have b4 : (mIf (mT (m2 mGt (mVar 2) (mC (.int 0)))) (mCall 2 m_value_or_none (mCons (m2 mIx (m2 mIx (mVar 0) (m2 mSub (mVar 2) (mC (.int 1)))) (mC (.int 3))) (mCons (mVar 3) mNil))) (mC .non)) (pE6 p q (some (.int (0 + (k : Int) * 2))) (some (q2 x)) o4 o5) g = .val (qo (bef R k x)) g := by
    rcases Nat.eq_zero_or_pos k with z | z
    · subst z
      have l0 : bef R 0 x = none := by
        unfold bef lnAt
        rw [show R[2 * 0 - 1]? = some (.at x t) from ex]
        rfl
      rw [l0]
      simp only [mIf_eq, mT_eq, m2_eq, v2, bind_val, mC_eq, mGt_int, asB_bl, show decide ((0 : Int) < 0 + ((0 : Nat) : Int) * 2) = false from rfl, Bool.false_eq_true, if_false]
      rfl
    · obtain ⟨a, t', b, l, _, eb, _, ll, _⟩ := wf.od (2 * k - 1) (by omega) (by omega)
      have mb : mIx (.ref p) (.int (0 + (k : Int) * 2 - 1)) g = .val (pW (.bt a b l)) g := e.ixI (by omega) eb
      have lb : bef R k x = vl l x := by
        unfold bef lnAt
        rw [eb]
      have vo := von_eq (h := g) (l := l) fx ll
      rw [lb]
      simp only [mIf_eq, mT_eq, m2_eq, v0, v2, v3, bind_val, mC_eq, mGt_int, asB_bl, show decide ((0 : Int) < 0 + (k : Int) * 2) = true from decide_eq_true (by omega), if_true, mCall_eq, mCons_eq, mSub_int, mb, ixB3, mNil_eq, List.length_cons, List.length_nil, Nat.zero_add, Nat.reduceAdd, vo]
  have v4 : ∀ w o5 g, mVar 4 (pE6 p q (some (.int (0 + (k : Int) * 2))) (some (q2 x)) (some w) o5) g = .val w g := fun _ _ g => rfl
  have v5 : ∀ o4 w g, mVar 5 (pE6 p q (some (.int (0 + (k : Int) * 2))) (some (q2 x)) o4 (some w)) g = .val w g := fun _ _ g => rfl
  have b5 : ∀ o4, (mIf (mT (m2 mLt (m2 mAdd (mVar 2) (mC (.int 1))) (mB mLen (mCons (mVar 0) mNil)))) (mCall 2 m_value_or_none (mCons (m2 mIx (m2 mIx (mVar 0) (m2 mAdd (mVar 2) (mC (.int 1)))) (mC (.int 3))) (mCons (mVar 3) mNil))) (mC .non)) (pE6 p q (some (.int (0 + (k : Int) * 2))) (some (q2 x)) o4 o5) g = .val (qo (aft R k x)) g := fun o4 => by
    have ln := e.len
    by_cases z : 2 * k + 1 < R.length
    · obtain ⟨a, t', b, l, _, eb, _, ll, _⟩ := wf.od (2 * k + 1) (by omega) z
      have mb : mIx (.ref p) (.int (0 + (k : Int) * 2 + 1)) g = .val (pW (.bt a b l)) g := e.ixI (by omega) eb
      have lb : aft R k x = vl l x := by
        unfold aft lnAt
        rw [eb]
      have vo := von_eq (h := g) (l := l) fx ll
      rw [lb]
      simp only [mIf_eq, mT_eq, m2_eq, mB_eq, v0, v2, v3, bind_val, mC_eq, mAdd_int, mCons_eq, mNil_eq, ln, mLt_int, asB_bl, show decide (0 + (k : Int) * 2 + 1 < (R.length : Int)) = true from decide_eq_true (by omega), if_true, mCall_eq, mb, ixB3, List.length_cons, List.length_nil, Nat.zero_add, Nat.reduceAdd, vo]
    · have lb : aft R k x = none := by
        unfold aft lnAt
        (rw [List.getElem?_eq_none (by omega)])
        rfl
      rw [lb]
      simp only [mIf_eq, mT_eq, m2_eq, mB_eq, v0, v2, v3, bind_val, mC_eq, mAdd_int, mCons_eq, mNil_eq, ln, mLt_int, asB_bl, show decide (0 + (k : Int) * 2 + 1 < (R.length : Int)) = false from decide_eq_false (by omega), Bool.false_eq_true, if_false]
      rfl
  have rw_ : row R k = .tup [q2 x, qo (bef R k x), qo t, qo (aft R k x)] := by
    unfold row
    rw [ex]
  refine ⟨some (q2 x), some (qo (bef R k x)), some (qo (aft R k x)), ?_⟩
  unfold pwB
  rw [mSeq_eq, s1, thenS_nx, mSeq_eq, mSet_eq, b4, andS_val, thenS_nx, mSeq_eq, mSet_eq]
  show thenS ((_ : Res W).andS _ _) _ = _
  have b5' := b5 (some (qo (bef R k x)))
  rw [show (pE6 p q (some (.int (0 + (k : Int) * 2))) (some (q2 x)) o4 o5).set 4 (some (qo (bef R k x))) = pE6 p q (some (.int (0 + (k : Int) * 2))) (some (q2 x)) (some (qo (bef R k x))) o5 from rfl, b5', andS_val, thenS_nx]
  show (mExpr _) (pE6 p q (some (.int (0 + (k : Int) * 2))) (some (q2 x)) (some (qo (bef R k x))) (some (qo (aft R k x)))) g = _
  rw [mExpr_eq, rw_]
  have al : acc.length < 100000 := by omega
  simp only [mApp, v0, v1, v2, v3, v4, v5, bind_val, ea, mTup_eq, mCons_eq, m2_eq, mC_eq, m1, ixA2, mNil_eq, List.length_cons, List.length_nil, Nat.zero_add, Nat.reduceAdd, show (4 : Nat) ≤ 100000 from by decide, if_true, al, andS_val]
end
section
variable {h g : Hv} {p q : Nat} {R : List Pc}
def rows (R : List Pc) : List W := (List.range ((R.length + 1) / 2)).map (row R)
theorem set_end {h : Hv} {a b : O} : (h ++ [a]).set h.length b = h ++ [b] := by simp
theorem sides_ok (e : LP h p R) (wf : Wf R) (hs : R.length ≤ 1000) : m_points_with_sides [.ref p] h = .val (.ref h.length) (h ++ [.lst (rows R)]) := by
  obtain ⟨r', h', lp, ⟨o2, o3, o4, o5, rfl⟩, rfl⟩ := for_rngC (n := (R.length + 1) / 2) (lo := 0) (c := 2) (s := 2) (b := pwB) (fun k r g => (∃ o2 o3 o4 o5, r = pE6 p h.length o2 o3 o4 o5) ∧ g = h ++ [.lst ((List.range k).map (row R))])
    (fun k r g hk z => by
      obtain ⟨⟨o2, o3, o4, o5, rfl⟩, rfl⟩ := z
      obtain ⟨u3, u4, u5, b⟩ := pw_body (p := p) (o3 := o3) (o4 := o4) (o5 := o5) (e.old [.lst ((List.range k).map (row R))]) wf (k := k) (by omega) (q := h.length) (acc := (List.range k).map (row R)) get_last (by simp; omega)
      refine ⟨_, _, b, ⟨_, _, _, _, rfl⟩, ?_⟩
      rw [set_end, List.range_succ, List.map_append, List.map_cons, List.map_nil]) ((R.length + 1) / 2) 0 (pE6 p h.length none none none none) (h ++ [.lst []]) (by omega) ⟨⟨_, _, _, _, rfl⟩, rfl⟩
  have st : startW ["pieces", "rows", "index", "x", "before", "after"] [.ref p] = [some (.ref p), none, none, none, none, none] := rfl
  have s1 : (mSet 1 (mLst mNil)) [some (.ref p), none, none, none, none, none] h = .nx (pE6 p h.length none none none none) (h ++ [.lst []]) := by
    simp only [mSet_eq, mLst_eq, mNil_eq, bind_val, List.length_nil, show (0 : Nat) ≤ 100000 from by decide, if_true, mNew_eq, andS_val]
    rfl
  have src : (mRngC (mCons (mC (.int 0)) (mCons (mB mLen (mCons (mVar 0) mNil)) (mCons (mC (.int 2)) mNil)))) (pE6 p h.length none none none none) (h ++ [.lst []]) = .val ⟨(R.length + 1) / 2 + 1, nxC 0 2 ((R.length + 1) / 2)⟩ (h ++ [.lst []]) := by
    have ln := (e.old [.lst []]).len
    have v0 : mVar 0 (pE6 p h.length none none none none) (h ++ [.lst []]) = .val (.ref p) (h ++ [.lst []]) := rfl
    refine mRngC_of (by omega) ?_
    simp only [mCons_eq, mC_eq, bind_val, mB_eq, v0, mNil_eq, ln]
  have fe : mFor (mRngC (mCons (mC (.int 0)) (mCons (mB mLen (mCons (mVar 0) mNil)) (mCons (mC (.int 2)) mNil)))) (mGn 2) pwB (pE6 p h.length none none none none) (h ++ [.lst []]) = .nx (pE6 p h.length o2 o3 o4 o5) (h ++ [.lst (rows R)]) := by
    unfold mFor
    rw [src, andS_val]
    exact lp
  unfold m_points_with_sides
  unfold pwB at fe
  rw [mDef_eq, st, mSeq_eq, s1, thenS_nx, mSeq_eq, fe, thenS_nx, mRet_eq]
  rfl
end
end SHP
end
section
namespace SHP
open PySem L2 VL
/-! ### the sum of two reduced fractions, by the divisor of their divisors -/
theorem cop_left {a b c : Int} (h : Int.gcd (a * b) c = 1) : Int.gcd b c = 1 := by
  have z : Int.gcd b c ∣ Int.gcd (a * b) c := Int.dvd_gcd (Int.dvd_trans (Int.gcd_dvd_left ..) ⟨a, Int.mul_comm ..⟩) (Int.gcd_dvd_right ..) |> fun z => by exact_mod_cast z
  rw [h] at z
  exact Nat.dvd_one.mp z
theorem gcd_split {a b : Int} (hb : b ≠ 0) : ∃ a' b' : Int, a = (Int.gcd a b : Int) * a' ∧ b = (Int.gcd a b : Int) * b' ∧ Int.gcd a' b' = 1 := by
  obtain ⟨a', ha⟩ : (Int.gcd a b : Int) ∣ a := Int.gcd_dvd_left ..
  obtain ⟨b', hb'⟩ : (Int.gcd a b : Int) ∣ b := Int.gcd_dvd_right ..
  refine ⟨a', b', ha, hb', ?_⟩
  have p := gcd_pos (n := a) hb
  have e : Int.gcd ((Int.gcd a b : Int) * a') ((Int.gcd a b : Int) * b') = (Int.gcd a b : Int).natAbs * Int.gcd a' b' := Int.gcd_mul_left ..
  rw [← ha, ← hb'] at e
  have p2 : 0 < Int.gcd a b := by omega
  rw [Int.natAbs_natCast] at e
  exact (Nat.eq_of_mul_eq_mul_left p2 (by rw [Nat.mul_one]; exact e)).symm
theorem fdiv_mul {g x : Int} (hg : g ≠ 0) : (g * x).fdiv g = x := Int.mul_fdiv_cancel_left x hg
theorem sum_red {p q n d : Int} (hq : 0 < q) (hd : 0 < d) (h1 : Int.gcd p q = 1) (h2 : Int.gcd n d = 1) {g t r : Int} (hg : g = (Int.gcd q d : Int)) (ht : t = p * d.fdiv g + n * q.fdiv g) (hr : r = (Int.gcd t g : Int)) :
    t.fdiv r = (fr (p * d + n * q) (q * d)).1 ∧ q.fdiv g * d.fdiv r = (fr (p * d + n * q) (q * d)).2 := by
  have hd0 : d ≠ 0 := by omega
  have gp := gcd_pos (n := q) hd0
  rw [← hg] at gp
  obtain ⟨q', d', eq, ed, c0⟩ := gcd_split (a := q) (b := d) hd0
  rw [← hg] at eq ed
  have g0 : g ≠ 0 := by omega
  have dv1 : d.fdiv g = d' := by rw [ed]; exact fdiv_mul g0
  have dv2 : q.fdiv g = q' := by rw [eq]; exact fdiv_mul g0
  rw [dv1, dv2] at ht
  have q'p : 0 < q' := by
    refine Int.not_le.mp fun z => ?_
    have : g * q' ≤ 0 := Int.mul_nonpos_of_nonneg_of_nonpos (by omega) z
    omega
  have d'p : 0 < d' := by
    refine Int.not_le.mp fun z => ?_
    have : g * d' ≤ 0 := Int.mul_nonpos_of_nonneg_of_nonpos (by omega) z
    omega
  have c1 : Int.gcd p q' = 1 := by rw [eq, Int.gcd_comm] at h1; rw [Int.gcd_comm]; exact cop_left h1
  have c2 : Int.gcd n d' = 1 := by rw [ed, Int.gcd_comm] at h2; rw [Int.gcd_comm]; exact cop_left h2
  have t1 : Int.gcd t q' = 1 := by
    rw [ht, Int.gcd_add_mul_right_left, Int.gcd_mul_right_left_of_gcd_eq_one c1, Int.gcd_comm]
    exact c0
  have t2 : Int.gcd t d' = 1 := by
    rw [ht, Int.add_comm, Int.gcd_add_mul_right_left, Int.gcd_mul_right_left_of_gcd_eq_one c2]
    exact c0
  have rp := gcd_pos (n := t) g0
  rw [← hr] at rp
  have r0 : r ≠ 0 := by omega
  obtain ⟨t', g', et, eg, c3⟩ := gcd_split (a := t) (b := g) g0
  rw [← hr] at et eg
  have g'p : 0 < g' := by
    refine Int.not_le.mp fun z => ?_
    have : r * g' ≤ 0 := Int.mul_nonpos_of_nonneg_of_nonpos (by omega) z
    omega
  have dv3 : t.fdiv r = t' := by rw [et]; exact fdiv_mul r0
  have ed2 : d = r * (g' * d') := by rw [← Int.mul_assoc, ← eg]; exact ed
  have dv4 : d.fdiv r = g' * d' := by rw [ed2]; exact fdiv_mul r0
  have k1 : Int.gcd t' q' = 1 := cop_left (a := r) (by rw [← et]; exact t1)
  have k2 : Int.gcd t' d' = 1 := cop_left (a := r) (by rw [← et]; exact t2)
  have cop : Int.gcd t' (q' * (g' * d')) = 1 := by
    rw [Int.gcd_mul_right_right_of_gcd_eq_one k1, Int.gcd_mul_right_right_of_gcd_eq_one c3]
    exact k2
  have pos : 0 < q' * (g' * d') := Int.mul_pos q'p (Int.mul_pos g'p d'p)
  have val : t' * (q * d) = (p * d + n * q) * (q' * (g' * d')) := by
    have s : p * d + n * q = g * t := by
      calc p * d + n * q = p * (g * d') + n * (g * q') := by rw [← ed, ← eq]
        _ = g * (p * d') + g * (n * q') := by rw [Int.mul_left_comm p, Int.mul_left_comm n]
        _ = g * (p * d' + n * q') := by rw [Int.mul_add]
        _ = g * t := by rw [ht]
    calc t' * (q * d) = t' * ((g * q') * (r * (g' * d'))) := by rw [← eq, ← ed2]
      _ = g * (r * t') * (q' * (g' * d')) := by ac_rfl
      _ = g * t * (q' * (g' * d')) := by rw [← et]
      _ = (p * d + n * q) * (q' * (g' * d')) := by rw [s]
  have qd : q * d ≠ 0 := Int.mul_ne_zero (by omega) hd0
  have e := fr_eq (n := t') (d := q' * (g' * d')) (m := p * d + n * q) (e := q * d) (by omega) qd val
  rw [fr_self pos cop] at e
  rw [dv3, dv2, dv4, ← e]
  exact ⟨rfl, rfl⟩
theorem sm_fdiv {x g : Int} (hg : g ∣ x) (g0 : g ≠ 0) (h : Sm x) : Sm (x.fdiv g) := by
  have e : g * x.fdiv g = x := Int.mul_fdiv_cancel' hg
  have k := congrArg Int.natAbs e
  rw [Int.natAbs_mul] at k
  have l : 1 ≤ g.natAbs := by omega
  have m : (x.fdiv g).natAbs ≤ x.natAbs := by
    calc (x.fdiv g).natAbs = 1 * (x.fdiv g).natAbs := by rw [Nat.one_mul]
      _ ≤ g.natAbs * (x.fdiv g).natAbs := Nat.mul_le_mul_right _ l
      _ = x.natAbs := k
  exact Nat.lt_of_le_of_lt m h
theorem div_sm {i j : Int} {h : Hv} (j0 : j ≠ 0) (hj : Sm j) : mDiv (.int i) (.int j) h = .val (.int (i.fdiv j)) h := mDiv_int j0 (by have := hj.log; omega)
theorem gcd_Sm {n d : Int} (hd : d ≠ 0) (h : Sm d) : Sm (Int.gcd n d : Int) := by
  have := gcd_sm (n := n) hd h
  unfold Sm
  rw [Int.natAbs_natCast]
  exact this

/-! ### sums of fractions, of lines -/
def sum2 (x y : QQ) : QQ := fr (x.1 * y.2 + y.1 * x.2) (x.2 * y.2)
theorem sum2_eq {h : Hv} {x y : QQ} (fx : Fq x) (fy : Fq y) : m_sum_of_two [q2 x, q2 y] h = .val (q2 (sum2 x y)) h := by
  obtain ⟨a, b⟩ := x
  obtain ⟨n, d⟩ := y
  obtain ⟨hb, h1, sa, sb⟩ := fx
  obtain ⟨hd, h2, sn, sd⟩ := fy
  dsimp only at hb h1 sa sb hd h2 sn sd
  have hd0 : d ≠ 0 := by omega
  have gp := gcd_pos (n := b) hd0
  have gs : Sm (Int.gcd b d : Int) := gcd_Sm hd0 sd
  generalize hg : (Int.gcd b d : Int) = g at gp gs
  have g0 : g ≠ 0 := by omega
  have gb : g ∣ b := hg ▸ Int.gcd_dvd_left ..
  have gd : g ∣ d := hg ▸ Int.gcd_dvd_right ..
  have s1 := sm_fdiv gd g0 sd
  have s2 := sm_fdiv gb g0 sb
  obtain ⟨t, ht⟩ : ∃ t, t = a * d.fdiv g + n * b.fdiv g := ⟨_, rfl⟩
  have rp := gcd_pos (n := t) g0
  have rs : Sm (Int.gcd t g : Int) := gcd_Sm g0 gs
  have rd' : (Int.gcd t g : Int) ∣ d := Int.dvd_trans (Int.gcd_dvd_right ..) gd
  generalize hr : (Int.gcd t g : Int) = r at rp rs rd'
  have r0 : r ≠ 0 := by omega
  have s3 := sm_fdiv rd' r0 sd
  obtain ⟨k1, k2⟩ := sum_red hb hd h1 h2 hg.symm ht hr.symm
  have c1 := cd_eq b d h
  have c2 := cd_eq t g h
  rw [hg] at c1
  rw [hr] at c2
  unfold sum2
  dsimp only
  have e2 : q2 (fr (a * d + n * b) (b * d)) = .tup [.int (t.fdiv r), .int (b.fdiv g * d.fdiv r)] := by rw [k1, k2]
  rw [e2]
  have mt : (W.int (a * d.fdiv g + n * b.fdiv g)) = .int t := by rw [ht]
  simp [m_sum_of_two, mDef_eq, startW, c1, div_sm g0 gs, mul_sm sa s1, mul_sm sn s2, mt, c2, div_sm r0 rs, mul_sm s2 s3]
theorem bn1 : Bn 1 1 := by
  unfold Bn
  decide
theorem bn0 : Bn 1 0 := by
  unfold Bn
  decide
theorem fq0 : Fq (0, 1) := ⟨by decide, by decide, bn0.sm (by decide), bn1.sm (by decide)⟩
theorem sum2_zero {x : QQ} (fx : Fq x) : sum2 (0, 1) x = x := by
  unfold sum2
  have e : ((0, 1) : QQ).1 * x.2 + x.1 * ((0, 1) : QQ).2 = x.1 := by
    show 0 * x.2 + x.1 * 1 = x.1
    rw [Int.zero_mul, Int.zero_add, Int.mul_one]
  have e2 : ((0, 1) : QQ).2 * x.2 = x.2 := Int.one_mul _
  rw [e, e2]
  exact fr_self fx.ps fx.on
theorem tot_eq {h : Hv} {p : Nat} {x y : QQ} (e : h[p]? = some (.lst [q2 x, q2 y])) (fx : Fq x) (fy : Fq y) : m_total_of [.ref p] h = .val (q2 (sum2 x y)) h := by
  have st : startW ["some", "total", "each"] [.ref p] = [some (.ref p), none, none] := rfl
  have s0 := sum2_eq (h := h) fq0 fx
  rw [sum2_zero fx] at s0
  have s1 := sum2_eq (h := h) fx fy
  let b : MS := (mSeq (mExpr (mCall 1 m_require_fraction (mCons (mVar 2) mNil))) (mSet 1 (mCall 2 m_sum_of_two (mCons (mVar 1) (mCons (mVar 2) mNil)))))
  have t0 : b [some (.ref p), some (q2 (0, 1)), some (q2 x)] h = .nx [some (.ref p), some (q2 x), some (q2 x)] h := by
    simp [b, req_eq fx, s0]
  have t1 : b [some (.ref p), some (q2 x), some (q2 y)] h = .nx [some (.ref p), some (q2 (sum2 x y)), some (q2 y)] h := by
    simp [b, req_eq fy, s1]
  obtain ⟨r', h', lp, fin⟩ := for_seq (p := p) (L := [q2 x, q2 y]) (s := 2) (b := b) (fun i r g => g = h ∧ ((i = 0 ∧ r = [some (.ref p), some (q2 (0, 1)), none]) ∨ (i = 1 ∧ r = [some (.ref p), some (q2 x), some (q2 x)]) ∨ (i = 2 ∧ r = [some (.ref p), some (q2 (sum2 x y)), some (q2 y)])))
    (fun i r g z => by rw [z.1]; exact e)
    (fun i w ew r g z => by
      obtain ⟨rfl, z⟩ := z
      match i, ew with
      | 0, ew =>
        cases ew
        rcases z with ⟨_, rfl⟩ | ⟨z, _⟩ | ⟨z, _⟩
        · exact ⟨_, _, t0, rfl, .inr (.inl ⟨rfl, rfl⟩)⟩
        · cases z
        · cases z
      | 1, ew =>
        cases ew
        rcases z with ⟨z, _⟩ | ⟨_, rfl⟩ | ⟨z, _⟩
        · cases z
        · exact ⟨_, _, t1, rfl, .inr (.inr ⟨rfl, rfl⟩)⟩
        · cases z
      | i + 2, ew => cases ew) [q2 x, q2 y].length 0 [some (.ref p), some (q2 (0, 1)), none] h (by omega) ⟨rfl, .inl ⟨rfl, rfl⟩⟩
  obtain ⟨rfl, fin⟩ := fin
  rcases fin with ⟨z, _⟩ | ⟨z, _⟩ | ⟨_, rfl⟩
  · cases z
  · cases z
  have is := isi_lst e
  have a1 : (mIfS (mNotT (mT (mB mIsi (mCons (mVar 0) (mCons (mC (.ty "list")) mNil))))) (mRaise "b" "value" (mCons (mVar 0) mNil)) mNext) [some (.ref p), none, none] h' = .nx [some (.ref p), none, none] h' := by
    simp [is]
  have a2 : (mSet 1 (mTup (mCons (mC (.int 0)) (mCons (mC (.int 1)) mNil)))) [some (.ref p), none, none] h' = .nx [some (.ref p), some (q2 (0, 1)), none] h' := by
    simp
  have sr : (mSrc (mVar 0)) [some (.ref p), some (q2 (0, 1)), none] h' = .val ⟨[q2 x, q2 y].length + 1, nxSeq p⟩ h' := by
    unfold mSrc
    rw [mVar0, bind_val]
    simp only [srcOf, e]
  have a3 : mFor (mSrc (mVar 0)) (mGn 2) b [some (.ref p), some (q2 (0, 1)), none] h' = .nx [some (.ref p), some (q2 (sum2 x y)), some (q2 y)] h' := by
    unfold mFor
    rw [sr, andS_val]
    exact lp
  unfold m_total_of
  rw [mDef_eq, st, mSeq_eq, a1, thenS_nx, mSeq_eq, a2, thenS_nx, mSeq_eq, a3, thenS_nx]
  simp
theorem cmpd_eq {h : Hv} {x y : QQ} (fx : Fq x) (fy : Fq y) : m_compared [q2 x, q2 y] h = .val (.int (sg (x.1 * y.2 - y.1 * x.2))) h := by
  simp [m_compared, mDef_eq, startW, req_eq fx, req_eq fy, order_eq fx fy]
end SHP
end
section
namespace VL
open PySem L2
/-! ### comprehensions with a test -/
theorem comp_if {p i : Nat} {L : List W} {r : Ws} {h : Hv} {t : Ws → Hv → Res Bool} {f : Ws → Hv → Res W} {F : W → W} {B : W → Bool} (hs : L.length < 100000) (hp : h[p]? = some (.lst L)) (ht : ∀ w ∈ L, ∀ g, Ext h g → t (r.set i (some w)) g = .val (B w) g) (hf : ∀ w ∈ L, B w = true → ∀ g, Ext h g → f (r.set i (some w)) g = .val (F w) g) :
    ∀ (k j : Nat), j + k = L.length → compM (nxSeq p) i t f h.length (k + 1) j r (h ++ [.lst (((L.take j).filter B).map F)]) = .val (.ref h.length) (h ++ [.lst ((L.filter B).map F)])
  | 0, j, hk => by
    have e0 : (h ++ [O.lst (((L.take j).filter B).map F)])[p]? = some (.lst L) := get_old hp
    have en : L[j]? = none := List.getElem?_eq_none (by omega)
    have et : L.take j = L := List.take_of_length_le (by omega)
    rw [et] at e0 ⊢
    unfold compM
    simp only [nxSeq, e0, en]
  | k + 1, j, hk => by
    have lt : j < L.length := by omega
    have e0 : (h ++ [O.lst (((L.take j).filter B).map F)])[p]? = some (.lst L) := get_old hp
    have en : L[j]? = some L[j] := List.getElem?_eq_getElem lt
    have m : L[j] ∈ L := List.getElem_mem lt
    have tk : L.take (j + 1) = L.take j ++ [L[j]] := by rw [List.take_succ, en, Option.toList_some]
    have e2 := ht _ m (h ++ [.lst (((L.take j).filter B).map F)]) (Ext.more _ _)
    have ih := comp_if hs hp ht hf k (j + 1) (by omega)
    rw [tk, List.filter_append] at ih
    by_cases c : B L[j] = true
    · have e1 := hf _ m c (h ++ [.lst (((L.take j).filter B).map F)]) (Ext.more _ _)
      have la : (h ++ [O.lst (((L.take j).filter B).map F)])[h.length]? = some (.lst (((L.take j).filter B).map F)) := get_last
      have ln : (((L.take j).filter B).map F).length < 100000 := by
        have := List.length_filter_le B (L.take j)
        simp only [List.length_map, List.length_take] at *
        omega
      have fs : [L[j]].filter B = [L[j]] := by simp [c]
      rw [fs, List.map_append, List.map_cons, List.map_nil] at ih
      rw [c] at e2
      generalize ((L.take j).filter B).map F = A at *
      have st : (h ++ [O.lst A]).set h.length (.lst (A ++ [F L[j]])) = h ++ [.lst (A ++ [F L[j]])] := by simp
      unfold compM
      simp only [nxSeq, e0, en, e2, noX, bind_val, if_true, e1, la, ln, st]
      exact ih
    · have fs : [L[j]].filter B = [] := by simp [c]
      rw [fs, List.append_nil] at ih
      rw [Bool.eq_false_iff.mpr c] at e2
      unfold compM
      simp only [nxSeq, e0, en, e2, noX, bind_val, Bool.false_eq_true, if_false]
      exact ih
theorem lc_if {p i : Nat} {L : List W} {r : Ws} {h h1 : Hv} {src : Ws → Hv → Res Src} {t : Ws → Hv → Res Bool} {f : Ws → Hv → Res W} {F : W → W} {B : W → Bool} (es : src r h = .val ⟨L.length + 1, nxSeq p⟩ h1) (hs : L.length < 100000) (hp : h1[p]? = some (.lst L)) (ht : ∀ w ∈ L, ∀ g, Ext h1 g → t (r.set i (some w)) g = .val (B w) g) (hf : ∀ w ∈ L, B w = true → ∀ g, Ext h1 g → f (r.set i (some w)) g = .val (F w) g) :
    mLc src i t f r h = .val (.ref h1.length) (h1 ++ [.lst ((L.filter B).map F)]) := by
  unfold mLc
  rw [es, bind_val]
  have := comp_if hs hp ht hf L.length 0 (by omega)
  simpa using this
end VL
namespace SHP
open PySem L2 VL
/-! ### the points of a list of pieces -/
def ptsR : List Pc → List QQ
  | [] => []
  | .at x _ :: r => x :: ptsR r
  | .bt _ _ _ :: r => ptsR r
def isAt : W → Bool
  | .tup (.str x :: _) => x == ("at" : Str)
  | _ => false
def at1 : W → W
  | .tup (_ :: x :: _) => x
  | w => w
theorem isAt_at {x : QQ} {t : Option QQ} : isAt (pW (.at x t)) = true := by show (("at" : Str) == ("at" : Str)) = true; decide +kernel
theorem isAt_bt {x : QQ} {y l : Option QQ} : isAt (pW (.bt x y l)) = false := by show (("between" : Str) == ("at" : Str)) = false; decide +kernel
theorem ptsR_eq : ∀ R : List Pc, ((R.map pW).filter isAt).map at1 = (ptsR R).map q2
  | [] => rfl
  | .at x t :: r => by
    rw [List.map_cons, List.filter_cons, if_pos isAt_at, List.map_cons, ptsR_eq r]
    rfl
  | .bt x y l :: r => by
    rw [List.map_cons, List.filter_cons, if_neg (by rw [isAt_bt]; decide), ptsR_eq r]
    rfl
theorem pts_ok {h : Hv} {p : Nat} {R : List Pc} (e : LP h p R) (hs : R.length ≤ 1000) : m_points_of [.ref p] h = .val (.ref h.length) (h ++ [.lst ((ptsR R).map q2)]) := by
  have st : startW ["pieces", "piece"] [.ref p] = [some (.ref p), none] := rfl
  have sr : (mSrc (mVar 0)) [some (.ref p), none] h = .val ⟨(R.map pW).length + 1, nxSeq p⟩ h := src_lp e mVar0
  have l := lc_if (i := 1) (t := (mT (m2 (mEq false) (m2 mIx (mVar 1) (mC (.int 0))) (mC (.str ("at" : Str)))))) (f := m2 mIx (mVar 1) (mC (.int 1))) (B := isAt) (F := at1) sr (by simp; omega) e
    (fun w hw g k => by
      obtain ⟨c, _, rfl⟩ := List.mem_map.mp hw
      cases c with
      | «at» x t =>
        rw [isAt_at]
        show (mT (m2 (mEq false) (m2 mIx (mVar 1) (mC (.int 0))) (mC (.str ("at" : Str))))) [some (.ref p), some (pW (.at x t))] g = _
        simp only [mT_eq, m2_eq, mVarS, mVar0, bind_val, mC_eq, ixA0, eq_at, asB_bl]
      | bt x y l =>
        rw [isAt_bt]
        show (mT (m2 (mEq false) (m2 mIx (mVar 1) (mC (.int 0))) (mC (.str ("at" : Str))))) [some (.ref p), some (pW (.bt x y l))] g = _
        simp only [mT_eq, m2_eq, mVarS, mVar0, bind_val, mC_eq, ixB0, eq_ba, asB_bl])
    (fun w hw hb g k => by
      obtain ⟨c, _, rfl⟩ := List.mem_map.mp hw
      cases c with
      | «at» x t =>
        show (m2 mIx (mVar 1) (mC (.int 1))) [some (.ref p), some (pW (.at x t))] g = _
        simp only [m2_eq, mVarS, mVar0, bind_val, mC_eq, ixA1]
        rfl
      | bt x y l => rw [isAt_bt] at hb; cases hb)
  rw [ptsR_eq] at l
  unfold m_points_of
  rw [mDef_eq, st, mRet_eq, l]
  rfl
end SHP
end
section
namespace SHP
open PySem L2 VL
/-! ### two lists of points as one -/
def mrg : Nat → List QQ → List QQ → List QQ
  | 0, _, _ => []
  | _ + 1, [], [] => []
  | n + 1, a :: as, [] => a :: mrg n as []
  | n + 1, [], b :: bs => b :: mrg n [] bs
  | n + 1, a :: as, b :: bs => if Lt a b then a :: mrg n as (b :: bs) else if a = b then a :: mrg n as bs else b :: mrg n (a :: as) bs
theorem mrg_mem {x : QQ} : ∀ (n : Nat) (A B : List QQ), A.length + B.length ≤ n → (x ∈ mrg n A B ↔ x ∈ A ∨ x ∈ B)
  | 0, A, B, h => by
    cases A with
    | cons => simp at h
    | nil => cases B with
      | cons => simp at h
      | nil => simp [mrg]
  | n + 1, [], [], h => by simp [mrg]
  | n + 1, a :: as, [], h => by
    (simp only [List.length_cons, List.length_nil] at h)
    simp only [mrg, List.mem_cons, mrg_mem n as [] (by simp; omega), List.not_mem_nil, or_false]
  | n + 1, [], b :: bs, h => by
    (simp only [List.length_cons, List.length_nil] at h)
    simp only [mrg, List.mem_cons, mrg_mem n [] bs (by simp; omega), List.not_mem_nil, false_or]
  | n + 1, a :: as, b :: bs, h => by
    simp only [List.length_cons] at h
    unfold mrg
    split
    · simp only [List.mem_cons, mrg_mem n as (b :: bs) (by simp only [List.length_cons]; omega)]
      exact (or_assoc).symm
    · split
      · rename_i e
        subst e
        simp only [List.mem_cons, mrg_mem n as bs (by omega)]
        constructor
        · rintro (z | z | z)
          · exact .inl (.inl z)
          · exact .inl (.inr z)
          · exact .inr (.inr z)
        · rintro ((z | z) | z | z)
          · exact .inl z
          · exact .inr (.inl z)
          · exact .inl z
          · exact .inr (.inr z)
      · simp only [List.mem_cons, mrg_mem n (a :: as) bs (by simp only [List.length_cons]; omega)]
        constructor
        · rintro (z | (z | z) | z)
          · exact .inr (.inl z)
          · exact .inl (.inl z)
          · exact .inl (.inr z)
          · exact .inr (.inr z)
        · rintro ((z | z) | z | z)
          · exact .inr (.inl (.inl z))
          · exact .inr (.inl (.inr z))
          · exact .inl z
          · exact .inr (.inr z)
theorem mrg_inc : ∀ (n : Nat) (A B : List QQ), A.length + B.length ≤ n → (∀ x ∈ A, Fq x) → (∀ x ∈ B, Fq x) → A.Pairwise Lt → B.Pairwise Lt → (mrg n A B).Pairwise Lt
  | 0, A, B, _, _, _, _, _ => by simp [mrg]
  | n + 1, [], [], _, _, _, _, _ => by simp [mrg]
  | n + 1, a :: as, [], h, fa, fb, pa, pb => by
    (simp only [List.length_cons, List.length_nil] at h)
    obtain ⟨p1, p2⟩ := List.pairwise_cons.mp pa
    refine List.pairwise_cons.mpr ⟨fun y hy => ?_, mrg_inc n as [] (by simp; omega) (fun x hx => fa x (List.mem_cons_of_mem _ hx)) fb p2 pb⟩
    rcases (mrg_mem n as [] (by simp; omega)).mp hy with z | z
    · exact p1 y z
    · cases z
  | n + 1, [], b :: bs, h, fa, fb, pa, pb => by
    (simp only [List.length_cons, List.length_nil] at h)
    obtain ⟨p1, p2⟩ := List.pairwise_cons.mp pb
    refine List.pairwise_cons.mpr ⟨fun y hy => ?_, mrg_inc n [] bs (by simp; omega) fa (fun x hx => fb x (List.mem_cons_of_mem _ hx)) pa p2⟩
    rcases (mrg_mem n [] bs (by simp; omega)).mp hy with z | z
    · cases z
    · exact p1 y z
  | n + 1, a :: as, b :: bs, h, fa, fb, pa, pb => by
    simp only [List.length_cons] at h
    obtain ⟨p1, p2⟩ := List.pairwise_cons.mp pa
    obtain ⟨q1, q2⟩ := List.pairwise_cons.mp pb
    have f1 : ∀ x ∈ as, Fq x := fun x hx => fa x (List.mem_cons_of_mem _ hx)
    have f2 : ∀ x ∈ bs, Fq x := fun x hx => fb x (List.mem_cons_of_mem _ hx)
    have ha := fa a (List.mem_cons_self ..)
    have hb := fb b (List.mem_cons_self ..)
    unfold mrg
    split
    · rename_i lt
      refine List.pairwise_cons.mpr ⟨fun y hy => ?_, mrg_inc n as (b :: bs) (by simp only [List.length_cons]; omega) f1 fb p2 pb⟩
      rcases (mrg_mem n as (b :: bs) (by simp only [List.length_cons]; omega)).mp hy with z | z
      · exact p1 y z
      · rcases List.mem_cons.mp z with rfl | z
        · exact lt
        · exact Lt.trans ha.ps hb.ps (f2 y z).ps lt (q1 y z)
    · split
      · rename_i e
        subst e
        refine List.pairwise_cons.mpr ⟨fun y hy => ?_, mrg_inc n as bs (by omega) f1 f2 p2 q2⟩
        rcases (mrg_mem n as bs (by omega)).mp hy with z | z
        · exact p1 y z
        · exact q1 y z
      · rename_i n1 n2
        have lt : Lt b a := by
          rcases Lt.tri ha hb with z | z | z
          · exact absurd z n1
          · exact absurd z n2
          · exact z
        refine List.pairwise_cons.mpr ⟨fun y hy => ?_, mrg_inc n (a :: as) bs (by simp only [List.length_cons]; omega) fa f2 pa q2⟩
        rcases (mrg_mem n (a :: as) bs (by simp only [List.length_cons]; omega)).mp hy with z | z
        · rcases List.mem_cons.mp z with rfl | z
          · exact lt
          · exact Lt.trans hb.ps ha.ps (f1 y z).ps lt (p1 y z)
        · exact q1 y z
theorem mrg_len : ∀ (n : Nat) (A B : List QQ), (mrg n A B).length ≤ A.length + B.length
  | 0, A, B => by simp [mrg]
  | n + 1, [], [] => by simp [mrg]
  | n + 1, a :: as, [] => by
    have := mrg_len n as []
    simp only [mrg, List.length_cons, List.length_nil] at *
    omega
  | n + 1, [], b :: bs => by
    have := mrg_len n [] bs
    simp only [mrg, List.length_cons, List.length_nil] at *
    omega
  | n + 1, a :: as, b :: bs => by
    have h1 := mrg_len n as (b :: bs)
    have h2 := mrg_len n as bs
    have h3 := mrg_len n (a :: as) bs
    unfold mrg
    split
    · simp only [List.length_cons] at *; omega
    · split
      · simp only [List.length_cons] at *; omega
      · simp only [List.length_cons] at *; omega
section
variable {h : Hv} {pa pb : Nat} {A B : List QQ}
def LQ (h : Hv) (p : Nat) (A : List QQ) : Prop := h[p]? = some (.lst (A.map q2))
theorem LQ.old (e : LQ h pa A) (t : Hv) : LQ (h ++ t) pa A := get_old e
theorem LQ.ext {g : Hv} (e : LQ h pa A) (k : Ext h g) : LQ g pa A := k _ _ e
theorem LQ.len (e : LQ h pa A) : mLen [.ref pa] h = .val (.int A.length) h := by
  have := len_lst e
  rwa [List.length_map] at this
theorem LQ.ix (e : LQ h pa A) {i : Nat} {x : QQ} (g : A[i]? = some x) : mIx (.ref pa) (.int (i : Int)) h = .val (q2 x) h := ix_nat e (by rw [List.getElem?_map, g]; rfl)
theorem next_ok (ea : LQ h pa A) (eb : LQ h pb B) {i j : Nat} (fa : ∀ x ∈ A, Fq x) (fb : ∀ x ∈ B, Fq x) (hi : i ≤ A.length) (hj : j ≤ B.length) :
    m_next_order [.ref pa, .ref pb, .int (i : Int), .int (j : Int)] h = .val (.int (match A[i]?, B[j]? with | none, _ => 1 | _, none => -1 | some a, some b => sg (a.1 * b.2 - b.1 * a.2))) h := by
  have st : startW ["one", "other", "first", "second"] [.ref pa, .ref pb, .int (i : Int), .int (j : Int)] = [some (.ref pa), some (.ref pb), some (.int (i : Int)), some (.int (j : Int))] := rfl
  have la := ea.len
  have lb := eb.len
  unfold m_next_order
  rw [mDef_eq, st]
  by_cases c1 : i = A.length
  · have n1 : A[i]? = none := List.getElem?_eq_none (by omega)
    rw [n1]
    have : (i : Int) = (A.length : Int) := by omega
    simp [la, eq_int, this]
  · have l1 : i < A.length := by omega
    have n1 : A[i]? = some A[i] := List.getElem?_eq_getElem l1
    have d1 : ¬ (i : Int) = (A.length : Int) := by omega
    by_cases c2 : j = B.length
    · have n2 : B[j]? = none := List.getElem?_eq_none (by omega)
      rw [n1, n2]
      have : (j : Int) = (B.length : Int) := by omega
      simp [la, lb, eq_int, this, d1]
    · have l2 : j < B.length := by omega
      have n2 : B[j]? = some B[j] := List.getElem?_eq_getElem l2
      have d2 : ¬ (j : Int) = (B.length : Int) := by omega
      rw [n1, n2]
      have o := order_eq (h := h) (fa _ (List.getElem_mem l1)) (fb _ (List.getElem_mem l2))
      simp [la, lb, eq_int, d1, d2, ea.ix n1, eb.ix n2, o]
abbrev mgE (pa pb q : Nat) (i j : Int) (o : Option W) : Ws := [some (.ref pa), some (.ref pb), some (.ref q), some (.int i), some (.int j), o]
abbrev mgT : Ws → Hv → Res Bool := (mOrT (mT (m2 mLt (mVar 3) (mB mLen (mCons (mVar 0) mNil)))) (mT (m2 mLt (mVar 4) (mB mLen (mCons (mVar 1) mNil)))))
abbrev mgB : MS := (mSeq (mSet 5 (mCall 4 m_next_order (mCons (mVar 0) (mCons (mVar 1) (mCons (mVar 3) (mCons (mVar 4) mNil))))))
    (mSeq (mExpr (mApp (mVar 2) (mIf (mT (m2 mLe (mVar 5) (mC (.int 0)))) (m2 mIx (mVar 0) (mVar 3)) (m2 mIx (mVar 1) (mVar 4)))))
    (mSeq (mIfS (mT (m2 mLe (mVar 5) (mC (.int 0)))) (mAug 3 mIAdd (mC (.int 1))) mNext)
    (mIfS (mT (m2 mGe (mVar 5) (mC (.int 0)))) (mAug 4 mIAdd (mC (.int 1))) mNext))))
theorem mg_body {q i j : Nat} {acc : List QQ} {o5 : Option W} {o : Int} {v : QQ} {g g' : Hv} (eq : LQ g q acc) (hl : acc.length < 5000)
    (no : m_next_order [.ref pa, .ref pb, .int (i : Int), .int (j : Int)] g = .val (.int o) g) (iv : (if o ≤ 0 then mIx (.ref pa) (.int (i : Int)) g else mIx (.ref pb) (.int (j : Int)) g) = .val (q2 v) g) (hg : g' = g.set q (.lst ((acc ++ [v]).map q2))) :
    mgB (mgE pa pb q i j o5) g = .nx (mgE pa pb q (if o ≤ 0 then (i : Int) + 1 else i) (if 0 ≤ o then (j : Int) + 1 else j) (some (.int o))) g' := by
  have s1 : (mSet 5 (mCall 4 m_next_order (mCons (mVar 0) (mCons (mVar 1) (mCons (mVar 3) (mCons (mVar 4) mNil)))))) (mgE pa pb q i j o5) g = .nx (mgE pa pb q i j (some (.int o))) g := by
    simp [no]
  have lm : (acc.map q2).length < 100000 := by simp; omega
  have s2 : (mExpr (mApp (mVar 2) (mIf (mT (m2 mLe (mVar 5) (mC (.int 0)))) (m2 mIx (mVar 0) (mVar 3)) (m2 mIx (mVar 1) (mVar 4))))) (mgE pa pb q i j (some (.int o))) g = .nx (mgE pa pb q i j (some (.int o))) g' := by
    have ee : (mIf (mT (m2 mLe (mVar 5) (mC (.int 0)))) (m2 mIx (mVar 0) (mVar 3)) (m2 mIx (mVar 1) (mVar 4))) (mgE pa pb q i j (some (.int o))) g = .val (q2 v) g := by
      by_cases c : o ≤ 0
      · rw [if_pos c] at iv
        simp [c, iv]
      · rw [if_neg c] at iv
        simp [c, iv]
    have v2 : mVar 2 (mgE pa pb q i j (some (.int o))) g = .val (.ref q) g := rfl
    have eq' : g[q]? = some (.lst (acc.map q2)) := eq
    rw [mExpr_eq]
    simp only [mApp, v2, bind_val, eq', ee, lm, if_true, andS_val, hg, List.map_append, List.map_cons, List.map_nil]
  have s3 : (mIfS (mT (m2 mLe (mVar 5) (mC (.int 0)))) (mAug 3 mIAdd (mC (.int 1))) mNext) (mgE pa pb q i j (some (.int o))) g' = .nx (mgE pa pb q (if o ≤ 0 then (i : Int) + 1 else i) j (some (.int o))) g' := by
    by_cases c : o ≤ 0
    · simp [c, mAug, mIAdd]
    · simp [c]
  have s4 : ∀ i' : Int, (mIfS (mT (m2 mGe (mVar 5) (mC (.int 0)))) (mAug 4 mIAdd (mC (.int 1))) mNext) (mgE pa pb q i' j (some (.int o))) g' = .nx (mgE pa pb q i' (if 0 ≤ o then (j : Int) + 1 else j) (some (.int o))) g' := fun i' => by
    by_cases c : 0 ≤ o
    · simp [c, mAug, mIAdd]
    · simp [c]
  unfold mgB
  rw [mSeq_eq, s1, thenS_nx, mSeq_eq, s2, thenS_nx, mSeq_eq, s3, thenS_nx, s4]
theorem drop_at {α : Type} {L : List α} {i : Nat} {a : α} (e : L[i]? = some a) : L.drop i = a :: L.drop (i + 1) := by
  obtain ⟨h, rfl⟩ := List.getElem?_eq_some_iff.mp e
  exact List.drop_eq_getElem_cons h
theorem mg_loop (ea : LQ h pa A) (eb : LQ h pb B) (fa : ∀ x ∈ A, Fq x) (fb : ∀ x ∈ B, Fq x) : ∀ (n i j : Nat) (acc : List QQ) (o5 : Option W), (A.length - i) + (B.length - j) < n → i ≤ A.length → j ≤ B.length → acc.length + (A.length - i) + (B.length - j) ≤ 4000 →
    ∃ o, whileM mgT mgB n (mgE pa pb h.length i j o5) (h ++ [.lst (acc.map q2)]) = .nx (mgE pa pb h.length A.length B.length o) (h ++ [.lst ((acc ++ mrg n (A.drop i) (B.drop j)).map q2)])
  | 0, i, j, acc, o5, hn, _, _, _ => absurd hn (Nat.not_lt_zero _)
  | n + 1, i, j, acc, o5, hn, hi, hj, hs => by
    have ea' := ea.old [.lst (acc.map q2)]
    have eb' := eb.old [.lst (acc.map q2)]
    have eq' : LQ (h ++ [.lst (acc.map q2)]) h.length acc := get_last
    have la := ea'.len
    have lb := eb'.len
    have tt : mgT (mgE pa pb h.length i j o5) (h ++ [.lst (acc.map q2)]) = .val (decide (i < A.length ∨ j < B.length)) (h ++ [.lst (acc.map q2)]) := by
      by_cases c : i < A.length
      · have : (i : Int) < (A.length : Int) := by omega
        simp [la, c, this]
      · have : ¬ (i : Int) < (A.length : Int) := by omega
        by_cases c2 : j < B.length
        · have : (j : Int) < (B.length : Int) := by omega
          simp [la, lb, c, c2]
        · simp [la, lb, c, c2]
    have st : ∀ v : QQ, (h ++ [O.lst (acc.map q2)]).set h.length (.lst ((acc ++ [v]).map q2)) = h ++ [.lst ((acc ++ [v]).map q2)] := fun v => by
      generalize (acc ++ [v]).map q2 = Z
      simp
    have no := next_ok ea' eb' fa fb hi hj
    unfold whileM
    rw [tt, andS_val]
    by_cases c1 : i < A.length
    · have n1 : A[i]? = some A[i] := List.getElem?_eq_getElem c1
      have d1 := drop_at n1
      generalize A[i] = a at n1 d1
      by_cases c2 : j < B.length
      · have n2 : B[j]? = some B[j] := List.getElem?_eq_getElem c2
        have d2 := drop_at n2
        generalize B[j] = b at n2 d2
        rw [n1, n2] at no
        dsimp only at no
        have ha := fa a (List.mem_of_getElem? n1)
        have hb := fb b (List.mem_of_getElem? n2)
        rw [if_pos (decide_eq_true (.inl c1)), d1, d2]
        unfold mrg
        rcases sg_tri ha hb with ⟨z, s⟩ | ⟨z, s⟩ | ⟨z, s⟩
        · rw [s] at no
          have b1 := mg_body (o5 := o5) (v := a) eq' (by omega) no (by rw [if_pos (by decide)]; exact ea'.ix n1) (st a).symm
          rw [if_pos (by decide), if_neg (by decide)] at b1
          obtain ⟨o, ih⟩ := mg_loop ea eb fa fb n (i + 1) j (acc ++ [a]) (some (.int (-1))) (by omega) (by omega) hj (by simp; omega)
          refine ⟨o, ?_⟩
          rw [b1, if_pos z]
          rw [← d2]
          have : ((i : Int) + 1) = ((i + 1 : Nat) : Int) := by omega
          rw [this]
          rw [List.append_assoc] at ih
          exact ih
        · rw [s] at no
          have b1 := mg_body (o5 := o5) (v := a) eq' (by omega) no (by rw [if_pos (by decide)]; exact ea'.ix n1) (st a).symm
          rw [if_pos (by decide), if_pos (by decide)] at b1
          obtain ⟨o, ih⟩ := mg_loop ea eb fa fb n (i + 1) (j + 1) (acc ++ [a]) (some (.int 0)) (by omega) (by omega) (by omega) (by simp; omega)
          refine ⟨o, ?_⟩
          subst z
          rw [b1, if_neg (Lt.irrefl a), if_pos rfl]
          have e1 : (i : Int) + 1 = ((i + 1 : Nat) : Int) := by omega
          have e2 : ((j : Int) + 1) = ((j + 1 : Nat) : Int) := by omega
          rw [e1, e2]
          rw [List.append_assoc] at ih
          exact ih
        · rw [s] at no
          have b1 := mg_body (o5 := o5) (v := b) eq' (by omega) no (by rw [if_neg (by decide)]; exact eb'.ix n2) (st b).symm
          rw [if_neg (by decide), if_pos (by decide)] at b1
          obtain ⟨o, ih⟩ := mg_loop ea eb fa fb n i (j + 1) (acc ++ [b]) (some (.int 1)) (by omega) hi (by omega) (by simp; omega)
          refine ⟨o, ?_⟩
          have n3 : ¬ Lt a b := fun q => by unfold Lt at *; omega
          have n4 : a ≠ b := fun q => by subst q; exact Lt.irrefl _ z
          rw [b1, if_neg n3, if_neg n4, ← d1]
          have e2 : ((j : Int) + 1) = ((j + 1 : Nat) : Int) := by omega
          rw [e2]
          rw [List.append_assoc] at ih
          exact ih
      · have n2 : B[j]? = none := List.getElem?_eq_none (by omega)
        have d2 : B.drop j = [] := List.drop_eq_nil_of_le (by omega)
        rw [n1, n2] at no
        dsimp only at no
        have b1 := mg_body (o5 := o5) (v := a) eq' (by omega) no (by rw [if_pos (by decide)]; exact ea'.ix n1) (st a).symm
        rw [if_pos (by decide), if_neg (by decide)] at b1
        obtain ⟨o, ih⟩ := mg_loop ea eb fa fb n (i + 1) j (acc ++ [a]) (some (.int (-1))) (by omega) (by omega) hj (by simp; omega)
        refine ⟨o, ?_⟩
        rw [if_pos (decide_eq_true (.inl c1)), d1, d2, b1]
        rw [d2] at ih
        have : ((i : Int) + 1) = ((i + 1 : Nat) : Int) := by omega
        rw [this]
        rw [List.append_assoc] at ih
        exact ih
    · have n1 : A[i]? = none := List.getElem?_eq_none (by omega)
      have d1 : A.drop i = [] := List.drop_eq_nil_of_le (by omega)
      by_cases c2 : j < B.length
      · have n2 : B[j]? = some B[j] := List.getElem?_eq_getElem c2
        have d2 := drop_at n2
        generalize B[j] = b at n2 d2
        rw [n1, n2] at no
        dsimp only at no
        have b1 := mg_body (o5 := o5) (v := b) eq' (by omega) no (by rw [if_neg (by decide)]; exact eb'.ix n2) (st b).symm
        rw [if_neg (by decide), if_pos (by decide)] at b1
        obtain ⟨o, ih⟩ := mg_loop ea eb fa fb n i (j + 1) (acc ++ [b]) (some (.int 1)) (by omega) hi (by omega) (by simp; omega)
        refine ⟨o, ?_⟩
        rw [if_pos (decide_eq_true (.inr c2)), d1, d2, b1]
        rw [d1] at ih
        have : ((j : Int) + 1) = ((j + 1 : Nat) : Int) := by omega
        rw [this]
        rw [List.append_assoc] at ih
        exact ih
      · have d2 : B.drop j = [] := List.drop_eq_nil_of_le (by omega)
        have ei : i = A.length := by omega
        have ej : j = B.length := by omega
        refine ⟨o5, ?_⟩
        rw [decide_eq_false (by omega), if_neg (by decide), d1, d2]
        subst ei ej
        rw [show mrg (n + 1) [] [] = [] from rfl, List.append_nil]
theorem merged_ok (ea : LQ h pa A) (eb : LQ h pb B) (fa : ∀ x ∈ A, Fq x) (fb : ∀ x ∈ B, Fq x) (hs : A.length + B.length ≤ 4000) : m_merged [.ref pa, .ref pb] h = .val (.ref h.length) (h ++ [.lst ((mrg (A.length + B.length + 1) A B).map q2)]) := by
  have st : startW ["one", "other", "points", "first", "second", "order"] [.ref pa, .ref pb] = [some (.ref pa), some (.ref pb), none, none, none, none] := rfl
  obtain ⟨o, lp⟩ := mg_loop ea eb fa fb (A.length + B.length + 1) 0 0 [] none (by omega) (by omega) (by omega) (by simp; omega)
  have s1 : (mSet 2 (mLst mNil)) [some (.ref pa), some (.ref pb), none, none, none, none] h = .nx [some (.ref pa), some (.ref pb), some (.ref h.length), none, none, none] (h ++ [.lst []]) := by
    simp
  have s2 : (mSet 3 (mC (.int 0))) [some (.ref pa), some (.ref pb), some (.ref h.length), none, none, none] (h ++ [.lst []]) = .nx [some (.ref pa), some (.ref pb), some (.ref h.length), some (.int 0), none, none] (h ++ [.lst []]) := by
    simp
  have s3 : (mSet 4 (mC (.int 0))) [some (.ref pa), some (.ref pb), some (.ref h.length), some (.int 0), none, none] (h ++ [.lst []]) = .nx (mgE pa pb h.length 0 0 none) (h ++ [.lst []]) := by
    simp
  have fu : fuel_merged (mgE pa pb h.length 0 0 none) (h ++ [.lst []]) = A.length + B.length + 1 := by
    have e1 : (h ++ [O.lst []])[pa]? = some (.lst (A.map q2)) := ea.old _
    have e2 : (h ++ [O.lst []])[pb]? = some (.lst (B.map q2)) := eb.old _
    unfold fuel_merged
    simp only [mgE, List.getElem?_cons_zero, List.getElem?_cons_succ, e1, e2, List.length_map]
  have s4 : mWhile fuel_merged mgT mgB (mgE pa pb h.length 0 0 none) (h ++ [.lst []]) = .nx (mgE pa pb h.length A.length B.length o) (h ++ [.lst ((mrg (A.length + B.length + 1) A B).map q2)]) := by
    unfold mWhile
    rw [fu]
    exact lp
  unfold m_merged
  rw [mDef_eq, st, mSeq_eq, s1, thenS_nx, mSeq_eq, s2, thenS_nx, mSeq_eq, s3, thenS_nx, mSeq_eq, s4, thenS_nx]
  rfl
end
end SHP
end
section
namespace SHP
open PySem L2 VL
/-! ### the piece of a point -/
instance decInR : (c : Pc) → (x : QQ) → Decidable (InR c x)
  | .at _ _, _ => .isFalse id
  | .bt a none _, x => decidable_of_iff (¬ Lt x a) ⟨fun z => ⟨z, fun _ q => by cases q⟩, fun z => z.1⟩
  | .bt a (some b) _, x => decidable_of_iff (¬ Lt x a ∧ Lt x b) ⟨fun z => ⟨z.1, fun _ q => by cases q; exact z.2⟩, fun z => ⟨z.1, z.2 b rfl⟩⟩
def tmR (R : List Pc) (x : QQ) : Option QQ := match R.find? (fun c => decide (In c x)) with
  | some c => tm c x
  | none => none
def lnR (R : List Pc) (x : QQ) : Option QQ := match R.find? (fun c => decide (InR c x)) with
  | some c => ln c
  | none => none
section
variable {h : Hv} {p : Nat} {R : List Pc} {x : QQ} {c : Pc}
theorem tmR_eq (wf : Wf R) (fx : Fq x) (hc : c ∈ R) (ic : In c x) : tmR R x = tm c x := by
  unfold tmR
  cases e : R.find? (fun c => decide (In c x)) with
  | none => exact absurd (decide_eq_true ic) (by have := List.find?_eq_none.mp e c hc; simpa using this)
  | some d =>
    have m := List.mem_of_find?_eq_some e
    have i9 := List.find?_some e
    have i : In d x := of_decide_eq_true i9
    rw [tm_one wf fx hc m ic i]
theorem lnR_eq (wf : Wf R) (fx : Fq x) (hc : c ∈ R) (ic : InR c x) : lnR R x = ln c := by
  unfold lnR
  cases e : R.find? (fun c => decide (InR c x)) with
  | none => exact absurd (decide_eq_true ic) (by have := List.find?_eq_none.mp e c hc; simpa using this)
  | some d =>
    have m := List.mem_of_find?_eq_some e
    have i9 := List.find?_some e
    have i : InR d x := of_decide_eq_true i9
    rw [inR_one wf fx hc m ic i]
theorem timeR (e : LP h p R) (wf : Wf R) (r : Rg R x) (hs : R.length ≤ 1000) : m_time_at [.ref p, q2 x] h = .val (qo (tmR R x)) h := by
  obtain ⟨c, c1, c2, c3⟩ := time_ok e wf r.fx hs r.ge r.le
  rw [c3, tmR_eq wf r.fx c1 c2]
theorem afterR (e : LP h p R) (wf : Wf R) (r : Rg R x) (hs : R.length ≤ 1000) (nh : ∀ t, R[R.length - 1]? ≠ some (.at x t)) : m_line_after [.ref p, q2 x] h = .val (qo (lnR R x)) h := by
  obtain ⟨c, c1, c2, _, c3⟩ := after_ok e wf r.fx hs r.ge r.le nh
  rw [c3, lnR_eq wf r.fx c1 c2]
end
/-! ### pieces made of points -/
section
variable {α β : Type} (A : QQ → α) (B : QQ → Option QQ → α) (op : Bool) (pts : List QQ)
def blk (i : Nat) : List α := match pts[i]? with
  | some x => A x :: (if (pts[i + 1]?).isSome || op then [B x pts[i + 1]?] else [])
  | none => []
def mkP : Nat → List α
  | 0 => []
  | i + 1 => mkP i ++ blk A B op pts i
theorem mkP_map (F : α → β) : ∀ n, (mkP A B op pts n).map F = mkP (fun x => F (A x)) (fun x y => F (B x y)) op pts n
  | 0 => rfl
  | n + 1 => by
    rw [mkP, mkP, List.map_append, mkP_map F n]
    congr 1
    unfold blk
    split
    · rw [List.map_cons]
      congr 1
      split <;> rfl
    · rfl
variable {A B op pts}
theorem mkP_len : ∀ n, n + 1 ≤ pts.length → (mkP A B op pts n).length = 2 * n
  | 0, _ => rfl
  | n + 1, h => by
    have e : pts[n]? = some pts[n] := List.getElem?_eq_getElem (by omega)
    have e2 : pts[n + 1]? = some pts[n + 1] := List.getElem?_eq_getElem (by omega)
    rw [mkP, List.length_append, mkP_len n (by omega)]
    unfold blk
    rw [e, e2]
    simp
    omega
theorem mkP_pre : ∀ (n j : Nat), j ≤ n → mkP A B op pts j <+: mkP A B op pts n
  | 0, j, h => by
    have : j = 0 := by omega
    subst this
    exact List.prefix_refl _
  | n + 1, j, h => by
    by_cases c : j = n + 1
    · subst c
      exact List.prefix_refl _
    · exact (mkP_pre n j (by omega)).trans (List.prefix_append _ _)
theorem pre_get {l m : List α} (h : l <+: m) {i : Nat} {a : α} (e : l[i]? = some a) : m[i]? = some a := by
  obtain ⟨t, rfl⟩ := h
  rw [List.getElem?_append_left (lt_of_get e)]
  exact e
theorem mkP_at {j : Nat} {x : QQ} (e : pts[j]? = some x) : (mkP A B op pts pts.length)[2 * j]? = some (A x) := by
  have hj := lt_of_get e
  refine pre_get (mkP_pre _ (j + 1) (by omega)) ?_
  have l := mkP_len (A := A) (B := B) (op := op) j hj
  rw [mkP, List.getElem?_append_right (by omega), l, Nat.sub_self]
  unfold blk
  rw [e]
  rfl
theorem mkP_bt {j : Nat} {x : QQ} (e : pts[j]? = some x) (h : j + 1 < pts.length ∨ op = true) : (mkP A B op pts pts.length)[2 * j + 1]? = some (B x pts[j + 1]?) := by
  have hj := lt_of_get e
  refine pre_get (mkP_pre _ (j + 1) (by omega)) ?_
  have l := mkP_len (A := A) (B := B) (op := op) j hj
  rw [mkP, List.getElem?_append_right (by omega), l, show 2 * j + 1 - 2 * j = 1 by omega]
  unfold blk
  rw [e]
  dsimp only
  rw [if_pos ?_]
  · rfl
  · rcases h with h | h
    · rw [List.getElem?_eq_getElem h]
      rfl
    · rw [h, Bool.or_true]
theorem mkP_length (h0 : 0 < pts.length) : (mkP A B op pts pts.length).length = if op then 2 * pts.length else 2 * pts.length - 1 := by
  obtain ⟨n, hn⟩ : ∃ n, pts.length = n + 1 := ⟨pts.length - 1, by omega⟩
  have l := mkP_len (A := A) (B := B) (op := op) (pts := pts) n (by omega)
  have e : pts[n]? = some pts[n] := List.getElem?_eq_getElem (by omega)
  have e2 : pts[n + 1]? = none := List.getElem?_eq_none (by omega)
  rw [hn, mkP, List.length_append, l]
  unfold blk
  rw [e, e2]
  cases op <;> simp <;> omega
end
/-- the points of a range -/
structure Pt (R : List Pc) (pts : List QQ) : Prop where
  ne : 0 < pts.length
  inc : pts.Pairwise Lt
  rg : ∀ x ∈ pts, Rg R x
theorem Pt.lt {R : List Pc} {pts : List QQ} (p : Pt R pts) {j k : Nat} {x y : QQ} (hjk : j < k) (e1 : pts[j]? = some x) (e2 : pts[k]? = some y) : Lt x y := by
  obtain ⟨h1, rfl⟩ := List.getElem?_eq_some_iff.mp e1
  obtain ⟨h2, rfl⟩ := List.getElem?_eq_some_iff.mp e2
  exact List.pairwise_iff_getElem.mp p.inc j k h1 h2 hjk
theorem Pt.nh {R : List Pc} {pts : List QQ} (p : Pt R pts) {j : Nat} {x : QQ} (e : pts[j]? = some x) (h : j + 1 < pts.length) : ∀ t, R[R.length - 1]? ≠ some (.at x t) := fun t z => by
  have e2 : pts[j + 1]? = some pts[j + 1] := List.getElem?_eq_getElem h
  exact (p.rg _ (List.getElem_mem h)).le x t z (p.lt (Nat.lt_succ_self j) e e2)
theorem wf_made {pts : List QQ} {f : QQ → Option QQ} {g : QQ → Option QQ} {op : Bool} {R : List Pc} (p : Pt R pts) (hf : ∀ x ∈ pts, FqO (f x)) (hg : ∀ x ∈ pts, LnO (g x)) : Wf (mkP (fun x => Pc.at x (f x)) (fun x y => Pc.bt x y (g x)) op pts pts.length) := by
  have n0 := p.ne
  have len := mkP_length (A := fun x => Pc.at x (f x)) (B := fun x y => Pc.bt x y (g x)) (op := op) n0
  have e0 : pts[0]? = some pts[0] := List.getElem?_eq_getElem n0
  refine ⟨?_, ⟨_, _, mkP_at e0, (p.rg _ (List.getElem_mem n0)).nn⟩, fun i h1 h2 => ?_, fun i h1 h2 => ?_⟩
  · rw [len]
    split <;> omega
  · have hj : i / 2 < pts.length := by
      rw [len] at h2
      split at h2 <;> omega
    have e : pts[i / 2]? = some pts[i / 2] := List.getElem?_eq_getElem hj
    have z := mkP_at (A := fun x => Pc.at x (f x)) (B := fun x y => Pc.bt x y (g x)) (op := op) e
    rw [show 2 * (i / 2) = i by omega] at z
    exact ⟨_, _, z, (p.rg _ (List.getElem_mem hj)).fx, hf _ (List.getElem_mem hj)⟩
  · have hj : i / 2 < pts.length := by
      rw [len] at h2
      split at h2 <;> omega
    have hb : i / 2 + 1 < pts.length ∨ op = true := by
      rw [len] at h2
      cases op with
      | true => exact .inr rfl
      | false => simp at h2; omega
    have e : pts[i / 2]? = some pts[i / 2] := List.getElem?_eq_getElem hj
    have m := List.getElem_mem hj
    have z := mkP_at (A := fun x => Pc.at x (f x)) (B := fun x y => Pc.bt x y (g x)) (op := op) e
    have z2 := mkP_bt (A := fun x => Pc.at x (f x)) (B := fun x y => Pc.bt x y (g x)) e hb
    rw [show 2 * (i / 2) = i - 1 by omega] at z
    rw [show 2 * (i / 2) + 1 = i by omega] at z2
    refine ⟨_, _, _, _, z, z2, ?_, hg _ m, fun y' hy => p.lt (Nat.lt_succ_self _) e hy, fun h3 => ?_, fun h3 => ?_⟩
    · cases hy : pts[i / 2 + 1]? with
      | none => trivial
      | some y => exact (p.rg y (List.mem_of_getElem? hy)).fx
    · have hk : i / 2 + 1 < pts.length := by
        rw [len] at h3
        split at h3 <;> omega
      have e2 : pts[i / 2 + 1]? = some pts[i / 2 + 1] := List.getElem?_eq_getElem hk
      have z3 := mkP_at (A := fun x => Pc.at x (f x)) (B := fun x y => Pc.bt x y (g x)) (op := op) e2
      rw [show 2 * (i / 2 + 1) = i + 1 by omega] at z3
      exact ⟨_, _, e2, z3⟩
    · refine List.getElem?_eq_none ?_
      rw [len] at h3
      split at h3 <;> omega
end SHP
end
section
namespace SHP
open PySem L2 VL
/-! ### pieces of two lists, side by side -/
inductive P4 where
  | at (x : QQ) (s t : Option QQ)
  | bt (x : QQ) (y k l : Option QQ)
def p4W : P4 → W
  | .at x s t => .tup [.str ("at" : Str), q2 x, qo s, qo t]
  | .bt x y k l => .tup [.str ("between" : Str), q2 x, qo y, qo k, qo l]
def par (R1 R2 : List Pc) (op : Bool) (pts : List QQ) (n : Nat) : List P4 := mkP (fun x => P4.at x (tmR R1 x) (tmR R2 x)) (fun x y => P4.bt x y (lnR R1 x) (lnR R2 x)) op pts n
section
variable {h g : Hv} {p1 p2 pp q en : Nat} {R1 R2 : List Pc} {pts : List QQ} {acc : List W} {c1 : Pc}
abbrev paE (p1 p2 pp q en : Nat) (o5 o6 : Option W) : Ws := [some (.ref p1), some (.ref p2), some (.ref pp), some (.ref q), some (.ref en), o5, o6]
abbrev paB : MS := (mSeq (mExpr (mApp (mVar 3) (mTup (mCons (mC (.str ("at" : Str))) (mCons (mVar 5) (mCons (mCall 2 m_time_at (mCons (mVar 0) (mCons (mVar 5) mNil))) (mCons (mCall 2 m_time_at (mCons (mVar 1) (mCons (mVar 5) mNil))) mNil)))))))
    (mIfS (mOrT (mT (m2 (mIs true) (mVar 6) (mC .non))) (mT (m2 (mIs false) (mCall 1 m_high_of (mCons (mVar 0) mNil)) (mC .non)))) (mExpr (mApp (mVar 3) (mTup (mCons (mC (.str ("between" : Str))) (mCons (mVar 5) (mCons (mVar 6) (mCons (mCall 2 m_line_after (mCons (mVar 0) (mCons (mVar 5) mNil))) (mCons (mCall 2 m_line_after (mCons (mVar 1) (mCons (mVar 5) mNil))) mNil)))))))) mNext))
theorem pa_body {i : Nat} {x : QQ} {o5 o6 : Option W} {L : List P4} (e1 : LP g p1 R1) (e2 : LP g p2 R2) (n1 : p1 ≠ q) (n2 : p2 ≠ q) (w1 : Wf R1) (w2 : Wf R2) (s1 : R1.length ≤ 1000) (s2 : R2.length ≤ 1000) (pt1 : Pt R1 pts) (pt2 : Pt R2 pts)
    (hc1 : R1[R1.length - 1]? = some c1) (ho : ∀ t x, (hi c1).isNone = true → R2[R2.length - 1]? ≠ some (.at x t)) (ex : pts[i]? = some x) (eq : g[q]? = some (.lst (L.map p4W))) (hl : L.length < 5000) :
    paB (paE p1 p2 pp q en (some (q2 x)) (some (qo pts[i + 1]?))) g = .nx (paE p1 p2 pp q en (some (q2 x)) (some (qo pts[i + 1]?))) (g.set q (.lst ((L ++ blk (fun x => P4.at x (tmR R1 x) (tmR R2 x)) (fun x y => P4.bt x y (lnR R1 x) (lnR R2 x)) (hi c1).isNone pts i).map p4W))) := by
  have mx := List.mem_of_getElem? ex
  have r1 := pt1.rg x mx
  have r2 := pt2.rg x mx
  have t1 := timeR e1 w1 r1 s1
  have t2 := timeR e2 w2 r2 s2
  let E : Ws := paE p1 p2 pp q en (some (q2 x)) (some (qo pts[i + 1]?))
  have v0 : ∀ g, mVar 0 E g = .val (.ref p1) g := fun g => rfl
  have v1 : ∀ g, mVar 1 E g = .val (.ref p2) g := fun g => rfl
  have v3 : ∀ g, mVar 3 E g = .val (.ref q) g := fun g => rfl
  have v5 : ∀ g, mVar 5 E g = .val (q2 x) g := fun g => rfl
  have v6 : ∀ g, mVar 6 E g = .val (qo pts[i + 1]?) g := fun g => rfl
  have lm : (L.map p4W).length < 100000 := by simp; omega
  have a1 : (mExpr (mApp (mVar 3) (mTup (mCons (mC (.str ("at" : Str))) (mCons (mVar 5) (mCons (mCall 2 m_time_at (mCons (mVar 0) (mCons (mVar 5) mNil))) (mCons (mCall 2 m_time_at (mCons (mVar 1) (mCons (mVar 5) mNil))) mNil))))))) E g = .nx E (g.set q (.lst ((L ++ [P4.at x (tmR R1 x) (tmR R2 x)]).map p4W))) := by
    rw [mExpr_eq]
    simp only [mApp, v3, bind_val, eq, mTup_eq, mCons_eq, mC_eq, v5, mCall_eq, v0, v1, mNil_eq, List.length_cons, List.length_nil, Nat.zero_add, Nat.reduceAdd, if_true, t1, t2, show (4 : Nat) ≤ 100000 from by decide, lm, andS_val, List.map_append, List.map_cons, List.map_nil]
    rfl
  have g1 : ∀ Z : O, LP (g.set q Z) p1 R1 := fun Z => by
    show (g.set q Z)[p1]? = _
    rw [List.getElem?_set_ne (Ne.symm n1)]
    exact e1
  have g2 : ∀ Z : O, LP (g.set q Z) p2 R2 := fun Z => by
    show (g.set q Z)[p2]? = _
    rw [List.getElem?_set_ne (Ne.symm n2)]
    exact e2
  have eq2 : ∀ Z : O, (g.set q Z)[q]? = some Z := fun Z => by
    rw [List.getElem?_set_self (lt_of_get eq)]
  have hh := hi_ok (g1 (.lst ((L ++ [P4.at x (tmR R1 x) (tmR R2 x)]).map p4W))) hc1
  have tst : (mOrT (mT (m2 (mIs true) (mVar 6) (mC .non))) (mT (m2 (mIs false) (mCall 1 m_high_of (mCons (mVar 0) mNil)) (mC .non)))) E (g.set q (.lst ((L ++ [P4.at x (tmR R1 x) (tmR R2 x)]).map p4W))) = .val ((pts[i + 1]?).isSome || (hi c1).isNone) (g.set q (.lst ((L ++ [P4.at x (tmR R1 x) (tmR R2 x)]).map p4W))) := by
    have z1 : ∀ g, mIs true (qo pts[i + 1]?) .non g = .val (.bl (pts[i + 1]?).isSome) g := fun g => by
      rw [nn_o]
      cases pts[i + 1]? <;> rfl
    have z2 : ∀ g, mIs false (qo (hi c1)) .non g = .val (.bl (hi c1).isNone) g := fun g => by
      rw [nn_o]
      rfl
    cases c : (pts[i + 1]?).isSome with
    | true =>
      rw [c] at z1
      simp only [mOrT_eq, mT_eq, m2_eq, v6, bind_val, mC_eq, z1, asB_bl, if_true, Bool.true_or]
    | false =>
      rw [c] at z1
      simp only [mOrT_eq, mT_eq, m2_eq, v6, bind_val, mC_eq, z1, asB_bl, Bool.false_eq_true, if_false, mCall_eq, mCons_eq, v0, mNil_eq, List.length_cons, List.length_nil, Nat.zero_add, if_true, hh, z2, Bool.false_or]
  unfold paB
  rw [mSeq_eq, a1, thenS_nx, mIfS_eq, tst, andS_val]
  unfold blk
  rw [ex]
  dsimp only
  cases c : ((pts[i + 1]?).isSome || (hi c1).isNone) with
  | false =>
    rw [if_neg (by decide), if_neg (by decide)]
    rfl
  | true =>
    rw [if_pos rfl, if_pos rfl]
    have nh1 : ∀ t, R1[R1.length - 1]? ≠ some (.at x t) := by
      cases c2 : (pts[i + 1]?).isSome with
      | true =>
        obtain ⟨y, hy⟩ := Option.isSome_iff_exists.mp c2
        exact pt1.nh ex (lt_of_get hy)
      | false =>
        rw [c2, Bool.false_or] at c
        intro t z
        rw [hc1] at z
        cases z
        cases c
    have nh2 : ∀ t, R2[R2.length - 1]? ≠ some (.at x t) := by
      cases c2 : (pts[i + 1]?).isSome with
      | true =>
        obtain ⟨y, hy⟩ := Option.isSome_iff_exists.mp c2
        exact pt2.nh ex (lt_of_get hy)
      | false =>
        rw [c2, Bool.false_or] at c
        exact fun t => ho t x c
    generalize hG : g.set q (.lst ((L ++ [P4.at x (tmR R1 x) (tmR R2 x)]).map p4W)) = G
    have l1 := afterR (by rw [← hG]; exact g1 _) w1 r1 s1 nh1 (h := G)
    have l2 := afterR (by rw [← hG]; exact g2 _) w2 r2 s2 nh2 (h := G)
    have eG : G[q]? = some (.lst ((L ++ [P4.at x (tmR R1 x) (tmR R2 x)]).map p4W)) := by rw [← hG]; exact eq2 _
    have lm2 : ((L ++ [P4.at x (tmR R1 x) (tmR R2 x)]).map p4W).length < 100000 := by simp; omega
    have ss : ∀ Z : O, G.set q Z = g.set q Z := fun Z => by rw [← hG, List.set_set]
    show (mExpr _) E G = .nx E _
    rw [mExpr_eq]
    simp only [mApp, v3, bind_val, eG, mTup_eq, mCons_eq, mC_eq, v5, v6, mCall_eq, v0, v1, mNil_eq, List.length_cons, List.length_nil, Nat.zero_add, Nat.reduceAdd, if_true, l1, l2, show (5 : Nat) ≤ 100000 from by decide, lm2, andS_val, ss]
    have fin : (L ++ P4.at x (tmR R1 x) (tmR R2 x) :: [P4.bt x pts[i + 1]? (lnR R1 x) (lnR R2 x)]).map p4W = (L ++ [P4.at x (tmR R1 x) (tmR R2 x)]).map p4W ++ [W.tup [.str ("between" : Str), q2 x, qo pts[i + 1]?, qo (lnR R1 x), qo (lnR R2 x)]] := by
      simp [p4W]
    rw [fin]
theorem par_len (R1 R2 : List Pc) (op : Bool) (pts : List QQ) : ∀ n, (par R1 R2 op pts n).length ≤ 2 * n
  | 0 => Nat.le_refl 0
  | n + 1 => by
    have := par_len R1 R2 op pts n
    unfold par at *
    rw [mkP, List.length_append]
    have b : (blk (fun x => P4.at x (tmR R1 x) (tmR R2 x)) (fun x y => P4.bt x y (lnR R1 x) (lnR R2 x)) op pts n).length ≤ 2 := by
      unfold blk
      split
      · rw [List.length_cons]
        split <;> simp
      · simp
    omega
theorem for_zip {p q s t : Nat} {A B : List W} {b : MS} (I : Nat → Ws → Hv → Prop) (keep : ∀ i r h, I i r h → h[p]? = some (.lst A) ∧ h[q]? = some (.lst B)) (hl : A.length = B.length)
    (step : ∀ (i : Nat) x y, A[i]? = some x → B[i]? = some y → ∀ r h, I i r h → ∃ r' h', b ((r.set s (some x)).set t (some y)) h = .nx r' h' ∧ I (i + 1) r' h') :
    ∀ (k i : Nat) (r : Ws) (h : Hv), i + k = A.length → I i r h → ∃ r' h', VL.forM (nxZip p q) (mGs 2 (mGcons (mGn s) (mGcons (mGn t) mGnil))) b (k + 1) i r h = .nx r' h' ∧ I A.length r' h'
  | 0, i, r, h, hk, hi => by
    obtain ⟨k1, k2⟩ := keep i r h hi
    have e : A[i]? = none := List.getElem?_eq_none (by omega)
    refine ⟨r, h, ?_, ?_⟩
    · unfold VL.forM
      simp only [nxZip, k1, k2, zipN, e]
    · have : i = A.length := by omega
      rw [← this]
      exact hi
  | k + 1, i, r, h, hk, hi => by
    obtain ⟨k1, k2⟩ := keep i r h hi
    have e : A[i]? = some (A[i]'(by omega)) := List.getElem?_eq_getElem (by omega)
    have e2 : B[i]? = some (B[i]'(by omega)) := List.getElem?_eq_getElem (by omega)
    obtain ⟨r1, h1, e3, i1⟩ := step i _ _ e e2 r h hi
    obtain ⟨r2, h2, e4, i2⟩ := for_zip I keep hl step k (i + 1) r1 h1 (by omega) i1
    refine ⟨r2, h2, ?_, i2⟩
    have gt : mGs 2 (mGcons (mGn s) (mGcons (mGn t) mGnil)) (.tup [A[i]'(by omega), B[i]'(by omega)]) r h = .nx ((r.set s (some (A[i]'(by omega)))).set t (some (B[i]'(by omega)))) h := by
      simp [mGs, mGcons, mGnil]
    unfold VL.forM
    simp only [nxZip, k1, k2, zipN, e, e2, gt, e3]
    exact e4
end
end SHP
end
section
namespace SHP
open PySem L2 VL
section
variable {h g : Hv} {p1 p2 pp q : Nat} {R1 R2 : List Pc} {pts : List QQ} {c1 : Pc} {x : QQ} {s t y k l : Option QQ}
theorem set_mid {h tl : Hv} {a b : O} : (h ++ a :: tl).set h.length b = h ++ b :: tl := by simp
theorem ends_at {i : Nat} (hi : i < pts.length) : ((pts.map q2).drop 1 ++ [W.non])[i]? = some (qo pts[i + 1]?) := by
  by_cases c : i + 1 < pts.length
  · rw [List.getElem?_append_left (by simp; omega), List.getElem?_drop, List.getElem?_map, show 1 + i = i + 1 by omega, List.getElem?_eq_getElem c]
    rfl
  · have e : pts[i + 1]? = none := List.getElem?_eq_none (by omega)
    rw [e, List.getElem?_append_right (by simp; omega)]
    have : i - ((pts.map q2).drop 1).length = 0 := by simp; omega
    rw [this]
    rfl
theorem paired_ok (e1 : LP h p1 R1) (e2 : LP h p2 R2) (ep : LQ h pp pts) (w1 : Wf R1) (w2 : Wf R2) (s1 : R1.length ≤ 1000) (s2 : R2.length ≤ 1000) (pt1 : Pt R1 pts) (pt2 : Pt R2 pts)
    (hc1 : R1[R1.length - 1]? = some c1) (ho : ∀ t x, (hi c1).isNone = true → R2[R2.length - 1]? ≠ some (.at x t)) (hl : pts.length ≤ 2000) :
    ∃ tl, m_paired [.ref p1, .ref p2, .ref pp] h = .val (.ref h.length) (h ++ O.lst ((par R1 R2 (hi c1).isNone pts pts.length).map p4W) :: tl) := by
  let D : List W := (pts.map q2).drop 1
  let tl : Hv := [.lst D, .lst (D ++ [.non])]
  have n0 := pt1.ne
  have st : startW ["one", "other", "points", "rows", "ends", "x", "y"] [.ref p1, .ref p2, .ref pp] = [some (.ref p1), some (.ref p2), some (.ref pp), none, none, none, none] := rfl
  have b1 : (mSet 3 (mLst mNil)) [some (.ref p1), some (.ref p2), some (.ref pp), none, none, none, none] h = .nx [some (.ref p1), some (.ref p2), some (.ref pp), some (.ref h.length), none, none, none] (h ++ [.lst []]) := by
    simp
  have ep1 : (h ++ [O.lst []])[pp]? = some (.lst (pts.map q2)) := ep.old _
  have cd : cutW (pts.map q2) (some 1) none = D := cut_drop _ 1 (by simp; omega)
  have b2 : (mSet 4 (mLst (mStarC (mSlA (mVar 2) (mPart (some (mC (.int 1)))) (mPart none)) (mCons (mC .non) mNil)))) [some (.ref p1), some (.ref p2), some (.ref pp), some (.ref h.length), none, none, none] (h ++ [.lst []]) = .nx (paE p1 p2 pp h.length (h.length + 2) none none) (h ++ O.lst [] :: tl) := by
    have sl : (mSlA (mVar 2) (mPart (some (mC (.int 1)))) (mPart none)) [some (.ref p1), some (.ref p2), some (.ref pp), some (.ref h.length), none, none, none] (h ++ [.lst []]) = .val (.ref (h.length + 1)) (h ++ [.lst [], .lst D]) := by
      simp only [mSlA, mPart, mVarS, mVar0, bind_val, mC_eq, mCutA, ep1, cd, mNew_eq]
      simp
    have it : itemsO (.ref (h.length + 1)) (h ++ [.lst [], .lst D]) = some D := by
      have z : (h ++ [O.lst [], O.lst D])[h.length + 1]? = some (.lst D) := by simp
      simp only [itemsO, z]
    have dl : (D ++ [W.non]).length ≤ 100000 := by simp [D]; omega
    have sc : (mStarC (mSlA (mVar 2) (mPart (some (mC (.int 1)))) (mPart none)) (mCons (mC .non) mNil)) [some (.ref p1), some (.ref p2), some (.ref pp), some (.ref h.length), none, none, none] (h ++ [.lst []]) = .val (D ++ [.non]) (h ++ [.lst [], .lst D]) := by
      unfold mStarC
      rw [sl, bind_val]
      simp only [mStarO, it, mCons_eq, mC_eq, bind_val, mNil_eq]
    rw [mSet_eq, mLst_eq, sc, bind_val, if_pos dl, mNew_eq, andS_val]
    clear_value D
    simp [tl]
  have lt0 : (h ++ O.lst [] :: tl)[h.length + 2]? = some (.lst (D ++ [.non])) := by simp [tl]
  have old : ∀ (Z : O) {j : Nat} {o : O}, h[j]? = some o → (h ++ Z :: tl)[j]? = some o := fun Z j o e => get_old e
  let A : List W := pts.map q2
  have la : A.length = pts.length := List.length_map ..
  obtain ⟨r', h', lp, ⟨o5, o6, rfl⟩, rfl⟩ := for_zip (p := pp) (q := h.length + 2) (s := 5) (t := 6) (A := A) (B := D ++ [.non]) (b := paB)
    (fun i r g => (∃ o5 o6, r = paE p1 p2 pp h.length (h.length + 2) o5 o6) ∧ g = h ++ O.lst ((par R1 R2 (hi c1).isNone pts i).map p4W) :: tl)
    (fun i r g z => by
      rw [z.2]
      exact ⟨old _ ep, by simp [tl]⟩)
    (by simp [A, D]; omega)
    (fun i u v eu ev r g z => by
      obtain ⟨⟨o5, o6, rfl⟩, rfl⟩ := z
      rw [List.getElem?_map] at eu
      obtain ⟨x, ex, rfl⟩ := Option.map_eq_some_iff.mp eu
      have hx := lt_of_get ex
      rw [ends_at hx] at ev
      cases ev
      have b := pa_body (q := h.length) (pp := pp) (en := h.length + 2) (o5 := o5) (o6 := o6) (i := i) (L := par R1 R2 (hi c1).isNone pts i) (g := h ++ O.lst ((par R1 R2 (hi c1).isNone pts i).map p4W) :: tl) (old _ e1) (old _ e2) (by have := lt_of_get e1; omega) (by have := lt_of_get e2; omega) w1 w2 s1 s2 pt1 pt2 hc1 ho ex (by simp) (by have := par_len R1 R2 (hi c1).isNone pts i; omega)
      rw [set_mid] at b
      exact ⟨_, _, b, ⟨_, _, rfl⟩, rfl⟩) A.length 0 (paE p1 p2 pp h.length (h.length + 2) none none) (h ++ O.lst [] :: tl) (by omega) ⟨⟨_, _, rfl⟩, rfl⟩
  rw [la] at lp
  have sr : (mZip (mCons (mVar 2) (mCons (mVar 4) mNil))) (paE p1 p2 pp h.length (h.length + 2) none none) (h ++ O.lst [] :: tl) = .val ⟨pts.length + 1, nxZip pp (h.length + 2)⟩ (h ++ O.lst [] :: tl) := by
    have z1 : (h ++ O.lst [] :: tl)[pp]? = some (.lst (pts.map q2)) := old _ ep
    unfold mZip
    rw [mCons_eq]
    simp only [mVar0, mVarS, bind_val, mCons_eq, mNil_eq, srcZ, z1, lt0, List.length_map]
  have fe : mFor (mZip (mCons (mVar 2) (mCons (mVar 4) mNil))) (mGs 2 (mGcons (mGn 5) (mGcons (mGn 6) mGnil))) paB (paE p1 p2 pp h.length (h.length + 2) none none) (h ++ O.lst [] :: tl) = .nx (paE p1 p2 pp h.length (h.length + 2) o5 o6) (h ++ O.lst ((par R1 R2 (hi c1).isNone pts pts.length).map p4W) :: tl) := by
    unfold mFor
    rw [sr, andS_val]
    exact lp
  refine ⟨tl, ?_⟩
  unfold m_paired
  unfold paB at fe
  rw [mDef_eq, st, mSeq_eq, b1, thenS_nx, mSeq_eq, b2, thenS_nx, mSeq_eq, fe, thenS_nx, mRet_eq]
  rfl
/-! ### sums -/
def addT (s t : Option QQ) : Option QQ := match s, t with
  | some s, some t => some (sum2 s t)
  | _, _ => none
def addL (k l : Option QQ) : Option QQ := match k, l with
  | some k, some l => some (k.1 + l.1, k.2 + l.2)
  | _, _ => none
def P4.last : P4 → Option QQ
  | .at _ s t => addT s t
  | .bt _ _ k l => addL k l
def sumC : P4 → Pc
  | .at x s t => .at x (addT s t)
  | .bt x y k l => .bt x y (addL k l)
def P4ok : P4 → Prop
  | .at _ s t => FqO s ∧ FqO t
  | .bt _ _ _ _ => True
theorem ix4a {a b c d : W} : mIx (.tup [a, b, c, d]) (.int (-2)) g = .val c g := rfl
theorem ix4b {a b c d : W} : mIx (.tup [a, b, c, d]) (.int (-1)) g = .val d g := rfl
theorem ix5a {a b c d e : W} : mIx (.tup [a, b, c, d, e]) (.int (-2)) g = .val d g := rfl
theorem ix5b {a b c d e : W} : mIx (.tup [a, b, c, d, e]) (.int (-1)) g = .val e g := rfl
theorem none_t : mIs false (qo s) .non g = .val (.bl s.isNone) g := by rw [nn_o]; rfl
abbrev psE (w : W) (a b : Option W) : Ws := [some w, a, b]
theorem psum_ok {d : P4} (ok : P4ok d) : ∃ tl, m_pair_sum [p4W d] g = .val (qo d.last) (g ++ tl) := by
  have st : startW ["piece", "one", "other"] [p4W d] = psE (p4W d) none none := rfl
  have key : ∀ (u v : Option QQ), (∀ g, mIx (p4W d) (.int (-2)) g = .val (qo u) g) → (∀ g, mIx (p4W d) (.int (-1)) g = .val (qo v) g) →
      (mPar 1 2 (mCons (m2 mIx (mVar 0) (m1 mNeg (mC (.int 2)))) (mCons (m2 mIx (mVar 0) (m1 mNeg (mC (.int 1)))) mNil))) (psE (p4W d) none none) g = .nx (psE (p4W d) (some (qo u)) (some (qo v))) g ∧
      (mIfS (mOrT (mT (m2 (mIs false) (mVar 1) (mC .non))) (mT (m2 (mIs false) (mVar 2) (mC .non)))) (mRet (mC .non)) mNext) (psE (p4W d) (some (qo u)) (some (qo v))) g = if u.isNone || v.isNone then .rt .non g else .nx (psE (p4W d) (some (qo u)) (some (qo v))) g := by
    intro u v h1 h2
    constructor
    · unfold mPar
      simp only [mCons_eq, m2_eq, mVar0, bind_val, m1_eq, mC_eq, mNeg_int, h1, h2, mNil_eq, andS_val]
      rfl
    · cases hu : u.isNone with
      | true => simp only [mIfS_eq, mOrT_eq, mT_eq, m2_eq, mVarS, mVar0, bind_val, mC_eq, none_t, hu, asB_bl, if_true, andS_val, mRet_eq, Bool.true_or]
      | false =>
        cases hv : v.isNone with
        | true => simp only [mIfS_eq, mOrT_eq, mT_eq, m2_eq, mVarS, mVar0, bind_val, mC_eq, none_t, hu, hv, asB_bl, Bool.false_eq_true, if_false, if_true, andS_val, mRet_eq, Bool.false_or]
        | false => simp only [mIfS_eq, mOrT_eq, mT_eq, m2_eq, mVarS, mVar0, bind_val, mC_eq, none_t, hu, hv, asB_bl, Bool.false_eq_true, if_false, andS_val, mNext_eq, Bool.false_or]
  cases d with
  | «at» x s t =>
    obtain ⟨k1, k2⟩ := key s t (fun g => ix4a) (fun g => ix4b)
    unfold m_pair_sum
    rw [mDef_eq, st, mSeq_eq, k1, thenS_nx, mSeq_eq, k2]
    cases s with
    | none => exact ⟨[], by rw [List.append_nil]; rfl⟩
    | some s =>
      cases t with
      | none => exact ⟨[], by rw [List.append_nil]; rfl⟩
      | some t =>
        have tt := tot_eq (h := g ++ [.lst [q2 s, q2 t]]) (p := g.length) get_last ok.1 ok.2
        refine ⟨[.lst [q2 s, q2 t]], ?_⟩
        rw [if_neg (by simp), thenS_nx]
        have i0 : mIx (p4W (.at x (some s) (some t))) (.int 0) g = .val (.str ("at" : Str)) g := rfl
        simp only [mRet_eq, mIf_eq, mT_eq, m2_eq, mVar0, bind_val, mC_eq, i0, eq_at, asB_bl, if_true, mCall_eq, mCons_eq, mLst_eq, mVarS, qo_some, mNil_eq, List.length_cons, List.length_nil, Nat.zero_add, Nat.reduceAdd, show (2 : Nat) ≤ 100000 from by decide, mNew_eq, tt, andS_val, endS_rt]
        rfl
  | bt x y k l =>
    obtain ⟨k1, k2⟩ := key k l (fun g => ix5a) (fun g => ix5b)
    unfold m_pair_sum
    rw [mDef_eq, st, mSeq_eq, k1, thenS_nx, mSeq_eq, k2]
    refine ⟨[], ?_⟩
    rw [List.append_nil]
    cases k with
    | none => rfl
    | some k =>
      cases l with
      | none => rfl
      | some l =>
        rw [if_neg (by simp), thenS_nx]
        have i0 : mIx (p4W (.bt x y (some k) (some l))) (.int 0) g = .val (.str ("between" : Str)) g := rfl
        simp only [mRet_eq, mIf_eq, mT_eq, m2_eq, mVar0, bind_val, mC_eq, i0, eq_ba, asB_bl, Bool.false_eq_true, if_false, mTup_eq, mCons_eq, mVarS, qo_some, mNil_eq]
        simp [P4.last, addL]
end
end SHP
end
section
namespace SHP
open PySem L2 VL
section
variable {h g : Hv} {p1 p2 pp q : Nat} {R1 R2 : List Pc} {pts : List QQ} {c1 : Pc} {x : QQ} {s t y k l : Option QQ}
theorem cut4 {a b c d : W} : mCutA (.tup [a, b, c, d]) none (some (-2)) g = .val (.tup [a, b]) g := rfl
theorem cut5 {a b c d e : W} : mCutA (.tup [a, b, c, d, e]) none (some (-2)) g = .val (.tup [a, b, c]) g := rfl
abbrev suE (p1 p2 q : Nat) (o : Option W) : Ws := [some (.ref p1), some (.ref p2), some (.ref q), o]
abbrev suB : MS := (mExpr (mApp (mVar 2) (mTup (mStarC (mSlA (mVar 3) (mPart none) (mPart (some (m1 mNeg (mC (.int 2)))))) (mCons (mCall 1 m_pair_sum (mCons (mVar 3) mNil)) mNil)))))
theorem star_tup {f : Ws → Hv → Res W} {gg : Ws → Hv → Res (List W)} {r : Ws} {xs ws : List W} {h1 h2 : Hv} (e1 : f r g = .val (.tup xs) h1) (e2 : gg r h1 = .val ws h2) : mStarC f gg r g = .val (xs ++ ws) h2 := by
  unfold mStarC
  rw [e1, bind_val]
  simp only [mStarO, itemsO, e2, bind_val]
theorem su_body {d : P4} {acc : List Pc} (ok : P4ok d) (eq : LP g q acc) (hl : acc.length < 5000) : ∃ tl, suB (suE p1 p2 q (some (p4W d))) g = .nx (suE p1 p2 q (some (p4W d))) ((g ++ tl).set q (.lst ((acc ++ [sumC d]).map pW))) := by
  obtain ⟨tl, e⟩ := psum_ok (g := g) ok
  refine ⟨tl, ?_⟩
  let E : Ws := suE p1 p2 q (some (p4W d))
  have v2 : ∀ g, mVar 2 E g = .val (.ref q) g := fun g => rfl
  have v3 : ∀ g, mVar 3 E g = .val (p4W d) g := fun g => rfl
  have cs : (mCons (mCall 1 m_pair_sum (mCons (mVar 3) mNil)) mNil) E g = .val [qo d.last] (g ++ tl) := by
    simp only [mCons_eq, mCall_eq, v3, bind_val, mNil_eq, List.length_cons, List.length_nil, Nat.zero_add, if_true, e]
  have sl : ∃ xs, (mSlA (mVar 3) (mPart none) (mPart (some (m1 mNeg (mC (.int 2)))))) E g = .val (.tup xs) g ∧ W.tup (xs ++ [qo d.last]) = pW (sumC d) ∧ (xs ++ [qo d.last]).length ≤ 100000 := by
    cases d with
    | «at» x s t =>
      refine ⟨[.str ("at" : Str), q2 x], ?_, rfl, by show (3 : Nat) ≤ 100000; decide⟩
      simp only [mSlA, v3, bind_val, mPart, m1_eq, mC_eq, mNeg_int]
      exact cut4
    | bt x y k l =>
      refine ⟨[.str ("between" : Str), q2 x, qo y], ?_, rfl, by show (4 : Nat) ≤ 100000; decide⟩
      simp only [mSlA, v3, bind_val, mPart, m1_eq, mC_eq, mNeg_int]
      exact cut5
  obtain ⟨xs, s1, s2, s3⟩ := sl
  have st := star_tup s1 cs
  have eq1 : g[q]? = some (.lst (acc.map pW)) := eq
  have eq2 : (g ++ tl)[q]? = some (.lst (acc.map pW)) := get_old eq
  have lm : (acc.map pW).length < 100000 := by simp; omega
  show suB E g = .nx E _
  unfold suB
  rw [mExpr_eq]
  simp only [mApp, v2, bind_val, eq1, mTup_eq, st, s3, if_true, eq2, lm, andS_val, s2, List.map_append, List.map_cons, List.map_nil]
theorem su_loop {PL : Nat} {L : List P4} {g0 : Hv} (ok : ∀ d ∈ L, P4ok d) (hL : L.length < 5000) (n : PL ≠ q) (e0 : g0[PL]? = some (.lst (L.map p4W))) (eq : LP g0 q []) (o : Option W) :
    ∃ o' g', VL.forM (nxSeq PL) (mGn 3) suB (L.length + 1) 0 (suE p1 p2 q o) g0 = .nx (suE p1 p2 q o') g' ∧ LP g' q (L.map sumC) ∧ Kp q g0 g' := by
  have la : (L.map p4W).length = L.length := List.length_map ..
  obtain ⟨r', g', lp, ⟨o', rfl⟩, l1, l2⟩ := for_seq (p := PL) (L := L.map p4W) (s := 3) (b := suB) (fun i r g => (∃ o, r = suE p1 p2 q o) ∧ LP g q ((L.take i).map sumC) ∧ Kp q g0 g)
    (fun i r g z => z.2.2 PL _ n e0)
    (fun i w ew r g z => by
      obtain ⟨⟨o, rfl⟩, l1, l2⟩ := z
      rw [List.getElem?_map] at ew
      obtain ⟨d, ed, rfl⟩ := Option.map_eq_some_iff.mp ew
      obtain ⟨tl, b⟩ := su_body (p1 := p1) (p2 := p2) (ok d (List.mem_of_getElem? ed)) l1 (by simp; omega)
      refine ⟨_, _, b, ⟨_, rfl⟩, ?_, Kp.trans (Kp.trans l2 (Kp.more q g tl)) (Kp.set q _ _)⟩
      have ql : q < (g ++ tl).length := by have := lt_of_get l1; simp; omega
      show ((g ++ tl).set q _)[q]? = _
      rw [List.getElem?_set_self ql, take_next ed]
      simp) (L.map p4W).length 0 (suE p1 p2 q o) g0 (by omega) ⟨⟨_, rfl⟩, eq, Kp.refl _ _⟩
  rw [la] at lp l1
  rw [List.take_length] at l1
  exact ⟨o', g', lp, l1, l2⟩
/-! ### points of two ranges that are one -/
structure SameR (R1 R2 : List Pc) : Prop where
  lo : ∃ x t u, R1[0]? = some (.at x t) ∧ R2[0]? = some (.at x u)
  hi : ∃ c d, R1[R1.length - 1]? = some c ∧ R2[R2.length - 1]? = some d ∧ hi c = hi d
theorem SameR.rg (sr : SameR R1 R2) {x : QQ} (r : Rg R1 x) : Rg R2 x := by
  obtain ⟨a, t, u, l1, l2⟩ := sr.lo
  obtain ⟨c, d, h1, h2, h3⟩ := sr.hi
  refine ⟨r.fx, r.nn, fun y v e => ?_, fun y v e => ?_⟩
  · rw [l2] at e
    cases e
    exact r.ge _ t l1
  · rw [h2] at e
    cases e
    cases c with
    | «at» z w =>
      cases h3
      exact r.le _ w h1
    | bt _ _ _ => cases h3
theorem SameR.symm (sr : SameR R1 R2) : SameR R2 R1 := by
  obtain ⟨a, t, u, l1, l2⟩ := sr.lo
  obtain ⟨c, d, h1, h2, h3⟩ := sr.hi
  exact ⟨⟨a, u, t, l2, l1⟩, ⟨d, c, h2, h1, h3.symm⟩⟩
theorem ptsR_mem {x : QQ} : ∀ {R : List Pc}, x ∈ ptsR R ↔ ∃ t, Pc.at x t ∈ R
  | [] => by simp [ptsR]
  | .at y t :: r => by
    simp only [ptsR, List.mem_cons, ptsR_mem (R := r)]
    constructor
    · rintro (rfl | ⟨u, z⟩)
      · exact ⟨t, .inl rfl⟩
      · exact ⟨u, .inr z⟩
    · rintro ⟨u, z | z⟩
      · cases z
        exact .inl rfl
      · exact .inr ⟨u, z⟩
  | .bt a b l :: r => by
    simp only [ptsR, List.mem_cons, ptsR_mem (R := r)]
    constructor
    · rintro ⟨u, z⟩
      exact ⟨u, .inr z⟩
    · rintro ⟨u, z | z⟩
      · cases z
      · exact ⟨u, z⟩
theorem ptsR_len : ∀ (R : List Pc), (ptsR R).length ≤ R.length
  | [] => Nat.le_refl 0
  | .at y t :: r => by
    have := ptsR_len r
    simp only [ptsR, List.length_cons]
    omega
  | .bt a b l :: r => by
    have := ptsR_len r
    simp only [ptsR, List.length_cons]
    omega
theorem ptsR_rg (wf : Wf R1) {x : QQ} (hx : x ∈ ptsR R1) : Rg R1 x := by
  obtain ⟨t, m⟩ := ptsR_mem.mp hx
  obtain ⟨i, e⟩ := mem_ix m
  exact rg_in wf (wf_at wf e).2.1 m rfl
theorem inc_of {P : List QQ} (f : ∀ x ∈ P, Fq x) (inc : Inc P) : P.Pairwise Lt := by
  induction P with
  | nil => exact List.Pairwise.nil
  | cons a r ih =>
    have ir : Inc r := fun i u v e1 e2 => inc (i + 1) u v e1 e2
    have p := ih (fun x hx => f x (List.mem_cons_of_mem _ hx)) ir
    refine List.pairwise_cons.mpr ⟨fun y hy => ?_, p⟩
    cases r with
    | nil => cases hy
    | cons b r =>
      have ab := inc 0 a b rfl rfl
      rcases List.mem_cons.mp hy with rfl | z
      · exact ab
      · have fa := f a (by simp)
        have fb := f b (by simp)
        have fy := f y (List.mem_cons_of_mem _ hy)
        exact Lt.trans fa.ps fb.ps fy.ps ab ((List.pairwise_cons.mp p).1 y z)
theorem pairwise_of_ix {R : List Pc} (wf : Wf R) : (ptsR R).Pairwise Lt := by
  have go : ∀ (n : Nat) (L : List Pc), L.length ≤ n → (∀ (i j : Nat) (a b : QQ) (t u : Option QQ), i < j → L[i]? = some (Pc.at a t) → L[j]? = some (Pc.at b u) → Lt a b) → (ptsR L).Pairwise Lt := by
    intro n
    induction n with
    | zero =>
      intro L hL _
      have : L = [] := List.length_eq_zero_iff.mp (by omega)
      subst this
      exact List.Pairwise.nil
    | succ n ih =>
      intro L hL hI
      cases L with
      | nil => exact List.Pairwise.nil
      | cons c r =>
        have hr := ih r (by simp at hL; omega) (fun i j a b t u lt e1 e2 => hI (i + 1) (j + 1) a b t u (by omega) e1 e2)
        cases c with
        | «at» a t =>
          refine List.pairwise_cons.mpr ⟨fun y hy => ?_, hr⟩
          obtain ⟨u, m⟩ := ptsR_mem.mp hy
          obtain ⟨j, e⟩ := mem_ix m
          exact hI 0 (j + 1) a y t u (by omega) rfl e
        | bt _ _ _ => exact hr
  refine go R.length R (Nat.le_refl _) fun i j a b t u lt e1 e2 => ?_
  obtain ⟨o1, _⟩ := wf_at wf e1
  obtain ⟨o2, _⟩ := wf_at wf e2
  exact pts_lt' wf (i := i / 2) (j := j / 2) (by omega) (by rw [show 2 * (i / 2) = i by omega]; exact e1) (by rw [show 2 * (j / 2) = j by omega]; exact e2)
/-- all points of both -/
def mg2 (R1 R2 : List Pc) : List QQ := mrg ((ptsR R1).length + (ptsR R2).length + 1) (ptsR R1) (ptsR R2)
theorem mg2_mem {x : QQ} : x ∈ mg2 R1 R2 ↔ x ∈ ptsR R1 ∨ x ∈ ptsR R2 := mrg_mem _ _ _ (by omega)
theorem mg2_pt (w1 : Wf R1) (w2 : Wf R2) (sr : SameR R1 R2) : Pt R1 (mg2 R1 R2) := by
  obtain ⟨a, t, u, l1, l2⟩ := sr.lo
  have rg : ∀ x ∈ mg2 R1 R2, Rg R1 x := fun x hx => by
    rcases mg2_mem.mp hx with z | z
    · exact ptsR_rg w1 z
    · exact sr.symm.rg (ptsR_rg w2 z)
  refine ⟨?_, mrg_inc _ _ _ (by omega) (fun x hx => (ptsR_rg w1 hx).fx) (fun x hx => (ptsR_rg w2 hx).fx) (pairwise_of_ix w1) (pairwise_of_ix w2), rg⟩
  have m : a ∈ mg2 R1 R2 := mg2_mem.mpr (.inl (ptsR_mem.mpr ⟨t, List.mem_of_getElem? l1⟩))
  exact List.length_pos_of_mem m
theorem mg2_len : (mg2 R1 R2).length ≤ R1.length + R2.length := by
  have a := mrg_len ((ptsR R1).length + (ptsR R2).length + 1) (ptsR R1) (ptsR R2)
  have b := ptsR_len R1
  have c := ptsR_len R2
  unfold mg2
  omega
/-- the pieces of the sum -/
def sumR (R1 R2 : List Pc) (op : Bool) : List Pc := mkP (fun x => Pc.at x (addT (tmR R1 x) (tmR R2 x))) (fun x y => Pc.bt x y (addL (lnR R1 x) (lnR R2 x))) op (mg2 R1 R2) (mg2 R1 R2).length
theorem sumR_eq (op : Bool) : (par R1 R2 op (mg2 R1 R2) (mg2 R1 R2).length).map sumC = sumR R1 R2 op := by
  unfold par sumR
  rw [mkP_map]
  rfl
theorem sums_ok (e1 : LP h p1 R1) (e2 : LP h p2 R2) (w1 : Wf R1) (w2 : Wf R2) (s1 : R1.length ≤ 200) (s2 : R2.length ≤ 200) (sr : SameR R1 R2) (hc1 : R1[R1.length - 1]? = some c1)
    (ft : ∀ x ∈ mg2 R1 R2, FqO (tmR R1 x) ∧ FqO (tmR R2 x)) : ∃ g, m_sums [.ref p1, .ref p2] h = .val (.ref h.length) g ∧ LP g h.length (sumR R1 R2 (hi c1).isNone) ∧ Ext h g := by
  have st : startW ["one", "other", "rows", "piece"] [.ref p1, .ref p2] = [some (.ref p1), some (.ref p2), none, none] := rfl
  have pt1 := mg2_pt w1 w2 sr
  have pt2 : Pt R2 (mg2 R1 R2) := ⟨pt1.ne, pt1.inc, fun x hx => sr.rg (pt1.rg x hx)⟩
  have b1 : (mSet 2 (mLst mNil)) [some (.ref p1), some (.ref p2), none, none] h = .nx (suE p1 p2 h.length none) (h ++ [.lst []]) := by
    simp
  let h1 : Hv := h ++ [.lst []]
  have l1 : h1.length = h.length + 1 := by simp [h1]
  let E := suE p1 p2 h.length none
  have v0 : ∀ g, mVar 0 E g = .val (.ref p1) g := fun g => rfl
  have v1 : ∀ g, mVar 1 E g = .val (.ref p2) g := fun g => rfl
  have o1 := pts_ok (e1.old [.lst []]) (by omega)
  let h2 : Hv := h1 ++ [.lst ((ptsR R1).map q2)]
  have l2 : h2.length = h.length + 2 := by simp [h2, l1]
  have e2b : LP h2 p2 R2 := (e2.old _).old _
  have o2 := pts_ok e2b (by omega)
  let h3 : Hv := h2 ++ [.lst ((ptsR R2).map q2)]
  have l3 : h3.length = h.length + 3 := by simp [h3, l2]
  have qa : LQ h3 h1.length (ptsR R1) := by
    have : LQ h2 h1.length (ptsR R1) := get_last
    exact this.old _
  have qb : LQ h3 h2.length (ptsR R2) := get_last
  have pl1 := ptsR_len R1
  have pl2 := ptsR_len R2
  have o3 := merged_ok qa qb (fun x hx => (ptsR_rg w1 hx).fx) (fun x hx => (ptsR_rg w2 hx).fx) (by omega)
  let h4 : Hv := h3 ++ [.lst ((mg2 R1 R2).map q2)]
  have qm : LQ h4 h3.length (mg2 R1 R2) := get_last
  have l4 : h4.length = h.length + 4 := by simp [h4, l3]
  have x4 : Ext h h4 := ((Ext.more h _).trans (Ext.more h1 _)).trans ((Ext.more h2 _).trans (Ext.more h3 _))
  have ho : ∀ (t : Option QQ) (x : QQ), (hi c1).isNone = true → R2[R2.length - 1]? ≠ some (.at x t) := fun t x hn z => by
    obtain ⟨c, d, k1, k2, k3⟩ := sr.hi
    rw [hc1] at k1
    cases k1
    rw [k2] at z
    cases z
    rw [k3] at hn
    cases hn
  have ml : (mg2 R1 R2).length ≤ 400 := by have := mg2_len (R1 := R1) (R2 := R2); omega
  obtain ⟨tl, o4⟩ := paired_ok (e1.ext x4) (e2.ext x4) qm w1 w2 (by omega) (by omega) pt1 pt2 hc1 ho (by omega)
  let P := par R1 R2 (hi c1).isNone (mg2 R1 R2) (mg2 R1 R2).length
  let h5 : Hv := h4 ++ O.lst (P.map p4W) :: tl
  have pl : P.length < 5000 := by have := par_len R1 R2 (hi c1).isNone (mg2 R1 R2) (mg2 R1 R2).length; show (par _ _ _ _ _).length < 5000; omega
  have eP : h5[h4.length]? = some (.lst (P.map p4W)) := by simp [h5]
  have ok : ∀ d ∈ P, P4ok d := by
    have go : ∀ n, ∀ d ∈ par R1 R2 (hi c1).isNone (mg2 R1 R2) n, P4ok d := by
      intro n
      induction n with
      | zero => intro d hd; cases hd
      | succ n ih =>
        intro d hd
        unfold par at hd ih
        rw [mkP, List.mem_append] at hd
        rcases hd with z | z
        · exact ih d z
        · unfold blk at z
          split at z
          · rename_i x ex
            rcases List.mem_cons.mp z with rfl | z
            · exact ft x (List.mem_of_getElem? ex)
            · split at z
              · rw [List.mem_singleton] at z
                subst z
                trivial
              · cases z
          · cases z
    exact go _
  have x5 : Ext h4 h5 := Ext.more h4 _
  have q0 : LP h5 h.length [] := x5 _ _ (((Ext.more h1 _).trans ((Ext.more h2 _).trans (Ext.more h3 _))) _ _ (show h1[h.length]? = _ from get_last))
  obtain ⟨o', g', lp, k1, k2⟩ := su_loop (p1 := p1) (p2 := p2) (q := h.length) ok pl (by omega) eP q0 none
  have sr : (mSrc (mCall 3 m_paired (mCons (mVar 0) (mCons (mVar 1) (mCons (mCall 2 m_merged (mCons (mCall 1 m_points_of (mCons (mVar 0) mNil)) (mCons (mCall 1 m_points_of (mCons (mVar 1) mNil)) mNil))) mNil))))) E h1 = .val ⟨P.length + 1, nxSeq h4.length⟩ h5 := by
    have c1' : (mCall 1 m_points_of (mCons (mVar 0) mNil)) E h1 = .val (.ref h1.length) h2 := by
      simp only [mCall_eq, mCons_eq, v0, bind_val, mNil_eq, List.length_cons, List.length_nil, Nat.zero_add, if_true]
      exact o1
    have c2' : (mCall 1 m_points_of (mCons (mVar 1) mNil)) E h2 = .val (.ref h2.length) h3 := by
      simp only [mCall_eq, mCons_eq, v1, bind_val, mNil_eq, List.length_cons, List.length_nil, Nat.zero_add, if_true]
      exact o2
    have c3' : (mCall 2 m_merged (mCons (mCall 1 m_points_of (mCons (mVar 0) mNil)) (mCons (mCall 1 m_points_of (mCons (mVar 1) mNil)) mNil))) E h1 = .val (.ref h3.length) h4 := by
      rw [mCall_eq, mCons_eq, c1', bind_val, mCons_eq, c2', bind_val, mNil_eq, bind_val, bind_val, bind_val, if_pos (show [W.ref h1.length, W.ref h2.length].length = 2 from rfl)]
      exact o3
    have c4' : (mCall 3 m_paired (mCons (mVar 0) (mCons (mVar 1) (mCons (mCall 2 m_merged (mCons (mCall 1 m_points_of (mCons (mVar 0) mNil)) (mCons (mCall 1 m_points_of (mCons (mVar 1) mNil)) mNil))) mNil)))) E h1 = .val (.ref h4.length) h5 := by
      rw [mCall_eq, mCons_eq, v0, bind_val, mCons_eq, v1, bind_val, mCons_eq, c3', bind_val, mNil_eq, bind_val, bind_val, bind_val, bind_val, if_pos (show [W.ref p1, W.ref p2, W.ref h3.length].length = 3 from rfl)]
      exact o4
    unfold mSrc
    rw [c4', bind_val]
    simp only [srcOf, eP, List.length_map]
  have fe : mFor (mSrc (mCall 3 m_paired (mCons (mVar 0) (mCons (mVar 1) (mCons (mCall 2 m_merged (mCons (mCall 1 m_points_of (mCons (mVar 0) mNil)) (mCons (mCall 1 m_points_of (mCons (mVar 1) mNil)) mNil))) mNil))))) (mGn 3) suB E h1 = .nx (suE p1 p2 h.length o') g' := by
    unfold mFor
    rw [sr, andS_val]
    exact lp
  rw [sumR_eq] at k1
  refine ⟨g', ?_, k1, ?_⟩
  · unfold m_sums
    unfold suB at fe
    rw [mDef_eq, st, mSeq_eq, b1, thenS_nx, mSeq_eq, fe, thenS_nx, mRet_eq]
    rfl
  · exact k2.ext (x4.trans x5) (Nat.le_refl _)
end
end SHP
end
section
namespace SHP
open PySem L2 VL
section
variable {h g : Hv} {q1 q1' q2' q3 : Nat} {R R1 R2 P : List Pc} {c1 : Pc} {x : QQ} {s t y k l : Option QQ}
/-! ### shapes of one range, their sum -/
theorem iso_S {w : W} {q q' : Nat} (sh : Sh h q q' R) : mIso [("S", true)] (.ref q) h = .val (.bl true) h := by
  have e : tyO h (.ref q) = some "S" := by simp only [tyO, sh.1]
  unfold mIso
  rw [e]
  rfl
theorem same_ok (sh1 : Sh h q1 q1' R1) (sh2 : Sh h q3 q2' R2) (sr : SameR R1 R2) : m_Shape_require_same_range [.ref q1, .ref q3] h = .val .non h := by
  obtain ⟨a, t, u, l1, l2⟩ := sr.lo
  obtain ⟨c, d, h1, h2, h3⟩ := sr.hi
  have st : startW ["self", "other"] [.ref q1, .ref q3] = [some (.ref q1), some (.ref q3)] := rfl
  have i1 := iso_S (w := .non) sh2
  have lo1 := low_ok sh1 l1
  have lo2 := low_ok sh2 l2
  have hi1 := high_ok sh1 h1
  have hi2 := high_ok sh2 h2
  rw [← h3] at hi2
  have z1 : mEq true (q2 a) (q2 a) h = .val (.bl false) h := by rw [cmp_q]; simp
  have z2 : mEq true (qo (hi c)) (qo (hi c)) h = .val (.bl false) h := by rw [cmp_o]; simp
  unfold m_Shape_require_same_range
  rw [mDef_eq, st]
  simp only [mIfS_eq, mOrT_eq, mNotT_eq, mT_eq, mVarS, mVar0, bind_val, i1, asB_bl, Bool.not_true, Bool.false_eq_true, if_false, m2_eq, mProp, lo1, lo2, z1, hi1, hi2, z2, andS_val, mNext_eq]
  rfl
theorem lk_same {w : W} : List.lookup ("require_same_range" : Str) [(("rows" : Str), w)] = none := by
  have : (("require_same_range" : Str) == ("rows" : Str)) = false := by decide +kernel
  rw [List.lookup_cons, this]
  rfl
/-- sums that are not too long -/
def SumOk (R1 R2 : List Pc) : Prop := ∀ x ∈ mg2 R1 R2, (FqO (tmR R1 x) ∧ FqO (tmR R2 x)) ∧ FqO (addT (tmR R1 x) (tmR R2 x)) ∧ LnO (addL (lnR R1 x) (lnR R2 x))
theorem sumR_wf (w1 : Wf R1) (w2 : Wf R2) (sr : SameR R1 R2) (ok : SumOk R1 R2) (op : Bool) : Wf (sumR R1 R2 op) :=
  wf_made (mg2_pt w1 w2 sr) (fun x hx => (ok x hx).2.1) (fun x hx => (ok x hx).2.2)
theorem sumR_len (op : Bool) : (sumR R1 R2 op).length ≤ 2 * (R1.length + R2.length) := by
  have a := par_len R1 R2 op (mg2 R1 R2) (mg2 R1 R2).length
  have b := mg2_len (R1 := R1) (R2 := R2)
  rw [← sumR_eq, List.length_map]
  omega
theorem add_ok (sh1 : Sh h q1 q1' R1) (sh2 : Sh h q3 q2' R2) (w1 : Wf R1) (w2 : Wf R2) (s1 : R1.length ≤ 200) (s2 : R2.length ≤ 200) (sr : SameR R1 R2) (hc1 : R1[R1.length - 1]? = some c1) (ok : SumOk R1 R2) :
    ∃ g, m_Shape_add [.ref q1, .ref q3] h = .val (.ref g.length) (shH g (sumR R1 R2 (hi c1).isNone)) ∧ Ext h g := by
  have st : startW ["self", "other"] [.ref q1, .ref q3] = [some (.ref q1), some (.ref q3)] := rfl
  have sm := same_ok sh1 sh2 sr
  have rq : (mMeth "S" "require_same_range" 1 m_Shape_require_same_range (mVar 0) (mCons (mVar 1) mNil)) [some (.ref q1), some (.ref q3)] h = .val .non h := by
    unfold mMeth
    rw [mVar0, bind_val]
    simp only [mMethO, sh1.1, lk_same, and_self, if_true, mCons_eq, mVar0, mVarS, bind_val, mNil_eq, List.length_cons, List.length_nil, Nat.zero_add, sm]
  obtain ⟨g, e1, e2, e3⟩ := sums_ok sh1.2 sh2.2 w1 w2 s1 s2 sr hc1 (fun x hx => (ok x hx).1)
  have f1 : (mCall 2 m_sums (mCons (mFld "S" "rows" (mVar 0)) (mCons (mFld "S" "rows" (mVar 1)) mNil))) [some (.ref q1), some (.ref q3)] h = .val (.ref h.length) g := by
    simp only [mCall_eq, mCons_eq, mFld, mVar0, mVarS, bind_val, fld_ok sh1, fld_ok sh2, mNil_eq, List.length_cons, List.length_nil, Nat.zero_add, Nat.reduceAdd, if_true, e1]
  have ln := sumR_len (R1 := R1) (R2 := R2) (hi c1).isNone
  have mk := make_ok f1 e2 (sumR_wf w1 w2 sr ok _) (by omega)
  refine ⟨g, ?_, e3⟩
  unfold m_Shape_add
  rw [mDef_eq, st, mSeq_eq, mExpr_eq, rq, andS_val, thenS_nx, mRet_eq, mk, andS_val, endS_rt]
theorem ownB_ok {f1 f2 : Ws → Hv → Res W} {r : Ws} (v1 : f1 r h = .val (.ref q1) h) (v2 : f2 r h = .val (.ref q3) h) (sh1 : Sh h q1 q1' R1) (sh2 : Sh h q3 q2' R2) (mf : MFn) : (m2 (mOwnBO "S" mf) f1 f2) r h = mf [.ref q1, .ref q3] h := by
  simp only [m2_eq, v1, v2, bind_val, mOwnBO, sh1.1, sh2.1, and_self, if_true]
/-! ### what stays when points are taken out -/
theorem stepR_all {φ : Pc → Prop} (hm : ∀ a b l x y r, φ (.bt a b l) → φ (.bt x y r) → φ (.bt a y r)) {c : Pc} (hR : ∀ d ∈ R, φ d) (hc : φ c) : ∀ d ∈ stepR R c, φ d := by
  have app : ∀ d ∈ R ++ [c], φ d := fun d hd => by
    rcases List.mem_append.mp hd with z | z
    · exact hR d z
    · rw [List.mem_singleton] at z
      rw [z]
      exact hc
  intro d hd
  unfold stepR at hd
  split at hd
  · rename_i x y r xl yl l xp t e2 e3
    split at hd
    · rcases List.mem_append.mp hd with z | z
      · exact hR d (List.mem_of_mem_take z)
      · rw [List.mem_singleton] at z
        rw [z]
        exact hm _ _ _ _ _ _ (hR _ (List.mem_of_getElem? e2)) hc
    · exact app d hd
  · exact app d hd
theorem shR_all {φ : Pc → Prop} (hm : ∀ a b l x y r, φ (.bt a b l) → φ (.bt x y r) → φ (.bt a y r)) (hP : ∀ d ∈ P, φ d) : ∀ d ∈ shR P, φ d := by
  have go : ∀ (L R : List Pc), (∀ d ∈ L, φ d) → (∀ d ∈ R, φ d) → ∀ d ∈ L.foldl stepR R, φ d := by
    intro L
    induction L with
    | nil => exact fun R _ h => h
    | cons c L ih => exact fun R hL hR => ih _ (fun d hd => hL d (List.mem_cons_of_mem _ hd)) (stepR_all hm hR (hL c (List.mem_cons_self ..)))
  exact go P [] hP (fun d hd => by cases hd)
theorem shR_pt {t : Option QQ} (h : Pc.at x t ∈ shR P) : Pc.at x t ∈ P := by
  have := shR_all (P := P) (φ := fun d => ∀ x t, d = .at x t → .at x t ∈ P) (fun _ _ _ _ _ _ _ _ _ _ z => by cases z) (fun d hd x t z => by rw [← z]; exact hd) _ h
  exact this x t rfl
/-- lines and times that are not long -/
def LdO : Option QQ → Prop
  | none => True
  | some l => Bn 20 l.1 ∧ Bn 20 l.2
def PgT : Pc → Prop
  | .at y t => Gd 60 y ∧ TbO t
  | .bt a b l => Gd 60 a ∧ (∀ b', b = some b' → Gd 60 b') ∧ LbO l
def PgU : Pc → Prop
  | .at y t => Gd 60 y ∧ FqO t
  | .bt a b l => Gd 60 a ∧ (∀ b', b = some b' → Gd 60 b') ∧ LdO l
theorem LbO.ld (h : LbO l) : LdO l := by
  cases l with
  | none => trivial
  | some l => exact ⟨h.1.mono (by decide), h.2.mono (by decide)⟩
theorem LdO.ln (h : LdO l) : LnO l := by
  cases l with
  | none => trivial
  | some l => exact ⟨h.1.sm (by decide), h.2.sm (by decide)⟩
theorem PgT.u {c : Pc} (h : PgT c) : PgU c := by
  cases c with
  | «at» y t => exact ⟨h.1, h.2.fq⟩
  | bt a b l => exact ⟨h.1, h.2.1, h.2.2.ld⟩
theorem shR_pgt (hP : ∀ d ∈ P, PgT d) : ∀ d ∈ shR P, PgT d := shR_all (fun _ _ _ _ _ _ a b => ⟨a.1, b.2.1, b.2.2⟩) hP
theorem shR_pgu (hP : ∀ d ∈ P, PgU d) : ∀ d ∈ shR P, PgU d := shR_all (fun _ _ _ _ _ _ a b => ⟨a.1, b.2.1, b.2.2⟩) hP
theorem pgt_of {xs : List QQ} {m : Nat} (w : Wp xs m P) (gd : ∀ x ∈ xs, Gd 60 x) {c : Pc} (hc : c ∈ P) : PgT c := by
  obtain ⟨i, e⟩ := mem_ix hc
  have hi := lt_of_get e
  have hl := w.len
  rcases Nat.mod_two_eq_zero_or_one i with o | o
  · obtain ⟨x, t, a, b, f⟩ := w.at_ (i / 2) (by omega)
    rw [show 2 * (i / 2) = i by omega, e] at b
    cases b
    exact ⟨gd _ (List.mem_of_getElem? a), f⟩
  · obtain ⟨x, l, a, b, f⟩ := w.bt_ (i / 2) (by omega)
    rw [show 2 * (i / 2) + 1 = i by omega, e] at b
    cases b
    exact ⟨gd _ (List.mem_of_getElem? a), fun b' hb => gd _ (List.mem_of_getElem? hb), f⟩
/-! ### bounds of sums -/
theorem vl_fu (ll : LdO l) (g : Gd 60 x) : FqO (vl l x) := by
  cases l with
  | none => trivial
  | some l =>
    obtain ⟨b1, b2⟩ := ll
    exact fr_fq g.fq.ps (((b1.mul g.b1).add (b2.mul g.b2)).sm (by decide)) g.fq.s2
theorem tm_tb {c : Pc} (pg : PgT c) (gx : Gd 60 x) : TbO (tm c x) := by
  cases c with
  | «at» y t => exact pg.2
  | bt a b l => exact vl_tb pg.2.2 gx
theorem add_fq (a : TbO s) (b : TbO t) : FqO (addT s t) := by
  cases s with
  | none => trivial
  | some s =>
    cases t with
    | none => trivial
    | some t =>
      obtain ⟨fs, s1, s2⟩ := a
      obtain ⟨ft, t1, t2⟩ := b
      exact fr_fq (Int.mul_pos fs.ps ft.ps) (((s1.mul t2).add (t1.mul s2)).sm (by decide)) ((s2.mul t2).sm (by decide))
theorem addL_ld (a : LbO k) (b : LbO l) : LdO (addL k l) := by
  cases k with
  | none => trivial
  | some k =>
    cases l with
    | none => trivial
    | some l => exact ⟨(a.1.add b.1).mono (by decide), (a.2.add b.2).mono (by decide)⟩
theorem tmR_tb (pg : ∀ c ∈ R, PgT c) (gx : Gd 60 x) : TbO (tmR R x) := by
  unfold tmR
  split
  · rename_i c e
    exact tm_tb (pg c (List.mem_of_find?_eq_some e)) gx
  · trivial
theorem lnR_lb (pg : ∀ c ∈ R, PgT c) : LbO (lnR R x) := by
  unfold lnR
  split
  · rename_i c e
    have p := pg c (List.mem_of_find?_eq_some e)
    cases c with
    | «at» => trivial
    | bt a b l => exact p.2.2
  · trivial
theorem mg2_gd (g1 : ∀ c ∈ R1, PgT c) (g2 : ∀ c ∈ R2, PgT c) (hx : x ∈ mg2 R1 R2) : Gd 60 x := by
  rcases mg2_mem.mp hx with z | z
  · obtain ⟨t, m⟩ := ptsR_mem.mp z
    exact (g1 _ m).1
  · obtain ⟨t, m⟩ := ptsR_mem.mp z
    exact (g2 _ m).1
theorem sumOk_of (g1 : ∀ c ∈ R1, PgT c) (g2 : ∀ c ∈ R2, PgT c) : SumOk R1 R2 := fun x hx => by
  have gx := mg2_gd g1 g2 hx
  have a := tmR_tb g1 gx
  have b := tmR_tb g2 gx
  exact ⟨⟨a.fq, b.fq⟩, add_fq a b, (addL_ld (lnR_lb g1) (lnR_lb g2)).ln⟩
theorem mkP_all {α : Type} {A : QQ → α} {B : QQ → Option QQ → α} {op : Bool} {pts : List QQ} {φ : α → Prop} (ha : ∀ x ∈ pts, φ (A x)) (hb : ∀ i x, pts[i]? = some x → φ (B x pts[i + 1]?)) : ∀ n, ∀ d ∈ mkP A B op pts n, φ d
  | 0, d, hd => by cases hd
  | n + 1, d, hd => by
    rw [mkP, List.mem_append] at hd
    rcases hd with z | z
    · exact mkP_all ha hb n d z
    · unfold blk at z
      split at z
      · rename_i x ex
        rcases List.mem_cons.mp z with rfl | z
        · exact ha x (List.mem_of_getElem? ex)
        · split at z
          · rw [List.mem_singleton] at z
            subst z
            exact hb n x ex
          · cases z
      · cases z
theorem sumR_pgu (g1 : ∀ c ∈ R1, PgT c) (g2 : ∀ c ∈ R2, PgT c) (op : Bool) : ∀ d ∈ sumR R1 R2 op, PgU d := by
  unfold sumR
  refine mkP_all (fun x hx => ?_) (fun i x ex => ?_) _
  · exact ⟨mg2_gd g1 g2 hx, (sumOk_of g1 g2 x hx).2.1⟩
  · have hx := List.mem_of_getElem? ex
    exact ⟨mg2_gd g1 g2 hx, fun b' hb => mg2_gd g1 g2 (List.mem_of_getElem? hb), addL_ld (lnR_lb g1) (lnR_lb g2)⟩
end
end SHP
end
section
namespace SHP
open PySem L2 VL
/-! ### points with their sides, by x -/
instance decInL : (c : Pc) → (x : QQ) → Decidable (InL c x)
  | .at _ _, _ => .isFalse id
  | .bt a none _, x => decidable_of_iff (Lt a x) ⟨fun z => ⟨z, fun _ q => by cases q⟩, fun z => z.1⟩
  | .bt a (some b) _, x => decidable_of_iff (Lt a x ∧ ¬ Lt b x) ⟨fun z => ⟨z.1, fun _ q => by cases q; exact z.2⟩, fun z => ⟨z.1, z.2 b rfl⟩⟩
def lvR (R : List Pc) (x : QQ) : Option QQ := match R.find? (fun c => decide (InL c x)) with
  | some c => vl (ln c) x
  | none => none
def rvR (R : List Pc) (x : QQ) : Option QQ := vl (lnR R x) x
def srow (R : List Pc) (x : QQ) : W := .tup [q2 x, qo (lvR R x), qo (tmR R x), qo (rvR R x)]
section
variable {R P : List Pc} {x : QQ} {c : Pc} {t : Option QQ}
theorem lvR_eq (wf : Wf R) (fx : Fq x) (hc : c ∈ R) (ic : InL c x) : lvR R x = vl (ln c) x := by
  unfold lvR
  cases e : R.find? (fun c => decide (InL c x)) with
  | none => exact absurd (decide_eq_true ic) (by have := List.find?_eq_none.mp e c hc; simpa using this)
  | some d =>
    have m := List.mem_of_find?_eq_some e
    have i9 := List.find?_some e
    have i : InL d x := of_decide_eq_true i9
    rw [inL_one wf fx hc m ic i]
theorem lvR_none (h : ∀ c ∈ R, ¬ InL c x) : lvR R x = none := by
  unfold lvR
  cases e : R.find? (fun c => decide (InL c x)) with
  | none => rfl
  | some d =>
    have i9 := List.find?_some e
    exact absurd (of_decide_eq_true i9) (h d (List.mem_of_find?_eq_some e))
theorem lnR_none (h : ∀ c ∈ R, ¬ InR c x) : lnR R x = none := by
  unfold lnR
  cases e : R.find? (fun c => decide (InR c x)) with
  | none => rfl
  | some d =>
    have i9 := List.find?_some e
    exact absurd (of_decide_eq_true i9) (h d (List.mem_of_find?_eq_some e))
theorem ptsR_get : ∀ (L : List Pc), (∀ (i : Nat) (c : Pc), L[i]? = some c → (i % 2 = 0 → ∃ x t, c = .at x t) ∧ (i % 2 = 1 → ∃ x y l, c = .bt x y l)) → ∀ (k : Nat) (x : QQ), ((ptsR L)[k]? = some x ↔ ∃ t, L[2 * k]? = some (.at x t))
  | [], h, k, x => by simp [ptsR]
  | [a], h, k, x => by
    obtain ⟨x0, t0, rfl⟩ := (h 0 a rfl).1 rfl
    cases k with
    | zero => simp [ptsR]
    | succ k => simp [ptsR]
  | a :: b :: r, h, k, x => by
    obtain ⟨x0, t0, rfl⟩ := (h 0 a rfl).1 rfl
    obtain ⟨x1, y1, l1, rfl⟩ := (h 1 b rfl).2 rfl
    cases k with
    | zero => simp [ptsR]
    | succ k =>
      have ih := ptsR_get r (fun i c e => by
        have z := h (i + 2) c e
        rw [show (i + 2) % 2 = i % 2 by omega] at z
        exact z) k x
      show (ptsR r)[k]? = some x ↔ _
      rw [ih, show 2 * (k + 1) = 2 * k + 2 by omega]
      rfl
theorem wf_alt (wf : Wf R) : ∀ (i : Nat) (c : Pc), R[i]? = some c → (i % 2 = 0 → ∃ x t, c = .at x t) ∧ (i % 2 = 1 → ∃ x y l, c = .bt x y l) := fun i c e => by
  have hl := lt_of_get e
  constructor
  · intro h
    obtain ⟨x, t, a, _⟩ := wf.ev i h hl
    rw [e] at a
    cases a
    exact ⟨x, t, rfl⟩
  · intro h
    obtain ⟨x, t, y, l, _, a, _⟩ := wf.od i h hl
    rw [e] at a
    cases a
    exact ⟨x, y, l, rfl⟩
theorem row_eq (wf : Wf R) {k : Nat} (e : R[2 * k]? = some (.at x t)) : row R k = srow R x := by
  have hl := lt_of_get e
  obtain ⟨_, fx, _⟩ := wf_at wf e
  have m := List.mem_of_getElem? e
  have h1 : bef R k x = lvR R x := by
    by_cases k0 : k = 0
    · subst k0
      have e0 : R[0]? = some (.at x t) := e
      rw [lvR_none fun c hc ic => first_noL wf fx e0 hc ic]
      unfold bef lnAt
      rw [show 2 * 0 - 1 = 0 from rfl, e0]
      rfl
    · obtain ⟨a, t', y, l, _, e2, _, _, lt, f1, _⟩ := wf.od (2 * k - 1) (by omega) (by omega)
      obtain ⟨y', t2, ey, e3⟩ := f1 (by omega)
      rw [show 2 * k - 1 + 1 = 2 * k by omega, e] at e3
      cases e3
      subst ey
      have il : InL (.bt a (some x) l) x := ⟨lt x rfl, fun b' hb => by cases hb; exact Lt.irrefl _⟩
      rw [lvR_eq wf fx (List.mem_of_getElem? e2) il]
      unfold bef lnAt
      rw [e2]
      rfl
  have h2 : aft R k x = rvR R x := by
    by_cases k1 : 2 * k + 1 < R.length
    · obtain ⟨a, t', y, l, e3, e2, _, _, lt, _⟩ := wf.od (2 * k + 1) (by omega) k1
      rw [show 2 * k + 1 - 1 = 2 * k by omega, e] at e3
      cases e3
      have ir : InR (.bt x y l) x := ⟨Lt.irrefl _, lt⟩
      unfold rvR
      rw [lnR_eq wf fx (List.mem_of_getElem? e2) ir]
      unfold aft lnAt
      rw [e2]
      rfl
    · have e0 : R[R.length - 1]? = some (.at x t) := by
        rw [show R.length - 1 = 2 * k by omega]
        exact e
      unfold rvR
      rw [lnR_none fun c hc ic => last_noR wf fx e0 hc ic]
      unfold aft lnAt
      (rw [List.getElem?_eq_none (by omega)])
  have h3 : tmR R x = t := tmR_eq wf fx m rfl
  unfold row srow
  rw [e]
  dsimp only
  rw [h1, h2, h3]
theorem rows_eq (wf : Wf R) : rows R = (ptsR R).map (srow R) := by
  (refine List.ext_getElem? fun k => ?_)
  have pg := ptsR_get R (wf_alt wf) k
  unfold rows
  (rw [List.getElem?_map, List.getElem?_map])
  by_cases h : 2 * k < R.length
  · obtain ⟨x, t, e, _⟩ := wf.ev (2 * k) (by omega) h
    rw [(pg x).mpr ⟨t, e⟩, List.getElem?_range (by omega)]
    simp only [Option.map_some, row_eq wf e]
  · have z : (ptsR R)[k]? = none := by
      cases q : (ptsR R)[k]? with
      | none => rfl
      | some x =>
        obtain ⟨t, e⟩ := (pg x).mp q
        exact absurd (lt_of_get e) h
    rw [z, List.getElem?_eq_none (by rw [List.length_range]; omega)]
    rfl
/-! ### points taken out change nothing -/
theorem tmR_sh (wf : Wf P) (fx : Fq x) (hc : c ∈ P) (ic : In c x) : tmR (shR P) x = tmR P x := by
  obtain ⟨d, d1, d2, d3⟩ := shR_in wf fx ⟨c, hc, ic, rfl⟩
  rw [tmR_eq (shR_wf wf).1 fx d1 d2, tmR_eq wf fx hc ic, d3]
theorem lvR_sh (wf : Wf P) (fx : Fq x) (hc : c ∈ P) (ic : In c x) : lvR (shR P) x = lvR P x := by
  by_cases h0 : ∃ t, P[0]? = some (.at x t)
  · obtain ⟨t, e⟩ := h0
    rw [lvR_none fun c hc ic => first_noL wf fx e hc ic, lvR_none fun c hc ic => first_noL (shR_wf wf).1 fx (shR_first e) hc ic]
  · obtain ⟨d, d1, d2⟩ := exL wf (fun t z => h0 ⟨t, z⟩) hc ic
    obtain ⟨u, u1, u2, u3⟩ := shR_inL wf fx ⟨d, d1, d2, rfl⟩
    rw [lvR_eq (shR_wf wf).1 fx u1 u2, lvR_eq wf fx d1 d2, u3]
theorem rvR_sh (wf : Wf P) (fx : Fq x) (hc : c ∈ P) (ic : In c x) : rvR (shR P) x = rvR P x := by
  unfold rvR
  by_cases h0 : ∃ t, P[P.length - 1]? = some (.at x t)
  · obtain ⟨t, e⟩ := h0
    obtain ⟨w2, _, _, a, cc, q1, q2, q3⟩ := shR_wf wf
    rw [e] at q1
    cases q1
    have q3' : a = .at x t := q3
    subst q3'
    rw [lnR_none fun c hc ic => last_noR wf fx e hc ic, lnR_none fun c hc ic => last_noR w2 fx q2 hc ic]
  · obtain ⟨d, d1, d2⟩ := exR wf (fun t z => h0 ⟨t, z⟩) hc ic
    obtain ⟨u, u1, u2, u3⟩ := shR_inR wf fx ⟨d, d1, d2, rfl⟩
    rw [lnR_eq (shR_wf wf).1 fx u1 u2, lnR_eq wf fx d1 d2, u3]
/-! ### jumps down -/
def drop (u v : Option QQ) : Bool := match u, v with
  | some u, some v => decide (Lt v u)
  | _, _ => false
def jd (b t a : Option QQ) : Bool := match t with
  | none => drop b a
  | some t => drop b (some t) || drop (some t) a
def unqo : W → Option QQ
  | .tup [.int a, .int b] => some (a, b)
  | _ => none
theorem unqo_qo (o : Option QQ) : unqo (qo o) = o := by cases o <;> rfl
def jW : W → Bool
  | .tup [_, b, t, a] => jd (unqo b) (unqo t) (unqo a)
  | _ => false
def jR (R : List Pc) (x : QQ) : Bool := jd (lvR R x) (tmR R x) (rvR R x)
theorem jW_srow : jW (srow R x) = jR R x := by
  unfold srow jR
  simp only [jW, unqo_qo]
def fallsR (R : List Pc) : List W := ((ptsR R).filter (jR R)).map (srow R)
theorem filter_rows (wf : Wf R) : (rows R).filter jW = fallsR R := by
  rw [rows_eq wf, List.filter_map]
  unfold fallsR
  congr 1
  (refine List.filter_congr fun x _ => ?_)
  exact jW_srow
theorem drop_self (u : Option QQ) : drop u u = false := by
  cases u with
  | none => rfl
  | some u => exact decide_eq_false (Lt.irrefl u)
theorem jd_self (u : Option QQ) : jd u u u = false := by
  cases u with
  | none => rfl
  | some u =>
    show (drop (some u) (some u) || drop (some u) (some u)) = false
    rw [drop_self]
    rfl
theorem sorted_ext {α : Type} {r : α → α → Prop} (ir : ∀ a, ¬ r a a) (as : ∀ a b, r a b → ¬ r b a) : ∀ {L M : List α}, L.Pairwise r → M.Pairwise r → (∀ x, x ∈ L ↔ x ∈ M) → L = M
  | [], [], _, _, _ => rfl
  | [], b :: M, _, _, h => by
    have := (h b).mpr (by simp)
    cases this
  | a :: L, [], _, _, h => by
    have := (h a).mp (by simp)
    cases this
  | a :: L, b :: M, p, q, h => by
    obtain ⟨p1, p2⟩ := List.pairwise_cons.mp p
    obtain ⟨q1, q2⟩ := List.pairwise_cons.mp q
    have e : a = b := by
      rcases List.mem_cons.mp ((h a).mp (by simp)) with z | z
      · exact z
      · rcases List.mem_cons.mp ((h b).mpr (by simp)) with w | w
        · exact w.symm
        · exact absurd (p1 b w) (as _ _ (q1 a z))
    subst e
    congr 1
    refine sorted_ext ir as p2 q2 fun x => ?_
    constructor
    · intro hx
      rcases List.mem_cons.mp ((h x).mp (List.mem_cons_of_mem _ hx)) with z | z
      · subst z
        exact absurd (p1 _ hx) (ir _)
      · exact z
    · intro hx
      rcases List.mem_cons.mp ((h x).mpr (List.mem_cons_of_mem _ hx)) with z | z
      · subst z
        exact absurd (q1 _ hx) (ir _)
      · exact z
theorem falls_sh (wf : Wf P) : fallsR (shR P) = fallsR P := by
  have w2 := (shR_wf wf).1
  have sub : ∀ x ∈ ptsR (shR P), x ∈ ptsR P := fun x hx => by
    obtain ⟨t, m⟩ := ptsR_mem.mp hx
    exact ptsR_mem.mpr ⟨t, shR_pt m⟩
  have same : ∀ x ∈ ptsR P, lvR (shR P) x = lvR P x ∧ tmR (shR P) x = tmR P x ∧ rvR (shR P) x = rvR P x := fun x hx => by
    obtain ⟨t, m⟩ := ptsR_mem.mp hx
    have fx := (ptsR_rg wf hx).fx
    exact ⟨lvR_sh wf fx m rfl, tmR_sh wf fx m rfl, rvR_sh wf fx m rfl⟩
  have js : ∀ x ∈ ptsR P, jR (shR P) x = jR P x := fun x hx => by
    obtain ⟨a, b, c⟩ := same x hx
    unfold jR
    rw [a, b, c]
  have ss : ∀ x ∈ ptsR P, srow (shR P) x = srow P x := fun x hx => by
    obtain ⟨a, b, c⟩ := same x hx
    unfold srow
    rw [a, b, c]
  have fl : (ptsR (shR P)).filter (jR (shR P)) = (ptsR P).filter (jR P) := by
    refine sorted_ext (r := Lt) Lt.irrefl (fun a b h => h.asym) ((pairwise_of_ix w2).filter _) ((pairwise_of_ix wf).filter _) fun x => ?_
    rw [List.mem_filter, List.mem_filter]
    constructor
    · rintro ⟨m, j⟩
      have m' := sub x m
      exact ⟨m', by rw [← js x m']; exact j⟩
    · rintro ⟨m, j⟩
      rw [← js x m] at j
      refine ⟨?_, j⟩
      obtain ⟨t, mt⟩ := ptsR_mem.mp m
      have fx := (ptsR_rg wf m).fx
      obtain ⟨d, d1, d2, d3⟩ := shR_in wf fx ⟨_, mt, rfl, rfl⟩
      cases d with
      | «at» y u =>
        have : x = y := d2
        subst this
        exact ptsR_mem.mpr ⟨u, d1⟩
      | bt a b l =>
        have il : InL (.bt a b l) x := ⟨d2.1, fun b' hb z => by have := d2.2 b' hb; exact this.asym z⟩
        have ir : InR (.bt a b l) x := ⟨fun z => d2.1.asym z, d2.2⟩
        have e1 := lvR_eq w2 fx d1 il
        have e2 : rvR (shR P) x = vl l x := by
          unfold rvR
          rw [lnR_eq w2 fx d1 ir]
          rfl
        have e3 := tmR_eq w2 fx d1 d2
        have : jR (shR P) x = jd (vl l x) (vl l x) (vl l x) := by
          unfold jR
          rw [e1, e2, e3]
          rfl
        rw [this, jd_self] at j
        cases j
  unfold fallsR
  rw [fl]
  refine List.map_congr_left fun x hx => ?_
  exact ss x (List.mem_filter.mp hx).1
end
end SHP
end
section
namespace SHP
open PySem L2 VL
section
variable {h g : Hv} {q q' : Nat} {R P : List Pc} {x : QQ} {u v b t a l : Option QQ}
theorem drop_ok (fu : FqO u) (fv : FqO v) : m_is_drop [qo u, qo v] h = .val (.bl (drop u v)) h := by
  have st : startW ["one", "other"] [qo u, qo v] = [some (qo u), some (qo v)] := rfl
  have n1 : ∀ o : Option QQ, mIs true (qo o) .non h = .val (.bl o.isSome) h := fun o => by
    rw [nn_o]
    cases o <;> rfl
  unfold m_is_drop
  rw [mDef_eq, st]
  cases u with
  | none => simp [mIs, drop]
  | some u =>
    cases v with
    | none => simp [mIs, drop]
    | some v =>
      have c := cmpd_eq (h := h) fu fv
      have s := sg_gt fu fv
      have n2 := n1 (some u)
      have n3 := n1 (some v)
      simp only [qo_some] at n2 n3
      simp only [mRet_eq, mAndV_eq, mT_eq, m2_eq, mVar0, mVarS, bind_val, mC_eq, qo_some, n2, n3, asB_bl, Option.isSome_some, if_true, mCall_eq, mCons_eq, mNil_eq, List.length_cons, List.length_nil, Nat.zero_add, Nat.reduceAdd, c, mGt_int, s, andS_val, endS_rt]
      rfl
theorem jd_ok (fb : FqO b) (ft : FqO t) (fa : FqO a) : m_is_jump_down [qo b, qo t, qo a] h = .val (.bl (jd b t a)) h := by
  have st : startW ["before", "time", "after"] [qo b, qo t, qo a] = [some (qo b), some (qo t), some (qo a)] := rfl
  unfold m_is_jump_down
  rw [mDef_eq, st]
  cases t with
  | none =>
    have d := drop_ok (h := h) fb fa
    have z : mIs false (qo none) .non h = .val (.bl true) h := none_t
    simp only [mSeq_eq, mIfS_eq, mT_eq, m2_eq, mVarS, mVar0, bind_val, mC_eq, z, asB_bl, andS_val, if_true, mRet_eq, mCall_eq, mCons_eq, mNil_eq, List.length_cons, List.length_nil, Nat.zero_add, Nat.reduceAdd, d, thenS_rt, endS_rt]
    rfl
  | some t =>
    have d1 := drop_ok (h := h) fb ft
    have d2 := drop_ok (h := h) ft fa
    have z : mIs false (qo (some t)) .non h = .val (.bl false) h := none_t
    simp only [mSeq_eq, mIfS_eq, mT_eq, m2_eq, mVarS, mVar0, bind_val, mC_eq, z, asB_bl, andS_val, Bool.false_eq_true, if_false, mNext_eq, thenS_nx, mRet_eq, mOrV_eq, mCall_eq, mCons_eq, mNil_eq, List.length_cons, List.length_nil, Nat.zero_add, Nat.reduceAdd, if_true, d1, d2]
    cases e : drop b (some t) with
    | true => simp [jd, e]
    | false => simp [jd, e]
theorem lnR_ld (pg : ∀ c ∈ R, PgU c) : LdO (lnR R x) := by
  unfold lnR
  split
  · rename_i c e
    have p := pg c (List.mem_of_find?_eq_some e)
    cases c with
    | «at» => trivial
    | bt a b l => exact p.2.2
  · trivial
theorem rvR_fq (pg : ∀ c ∈ R, PgU c) (gx : Gd 60 x) : FqO (rvR R x) := vl_fu (lnR_ld pg) gx
theorem lvR_fq (pg : ∀ c ∈ R, PgU c) (gx : Gd 60 x) : FqO (lvR R x) := by
  unfold lvR
  split
  · rename_i c e
    have p := pg c (List.mem_of_find?_eq_some e)
    cases c with
    | «at» => trivial
    | bt a b l => exact vl_fu p.2.2 gx
  · trivial
theorem tmR_fq (pg : ∀ c ∈ R, PgU c) (gx : Gd 60 x) : FqO (tmR R x) := by
  unfold tmR
  split
  · rename_i c e
    have p := pg c (List.mem_of_find?_eq_some e)
    cases c with
    | «at» => exact p.2
    | bt a b l => exact vl_fu p.2.2 gx
  · trivial
theorem ptsR_gd (pg : ∀ c ∈ R, PgU c) (hx : x ∈ ptsR R) : Gd 60 x := by
  obtain ⟨t, m⟩ := ptsR_mem.mp hx
  exact (pg _ m).1
theorem falls_ok (sh : Sh h q q' R) (wf : Wf R) (pg : ∀ c ∈ R, PgU c) (hs : R.length ≤ 1000) : m_Shape_falls [.ref q] h = .val (.ref (h.length + 1)) (h ++ [.lst (rows R)] ++ [.lst (fallsR R)]) := by
  have st : startW ["self", "row"] [.ref q] = [some (.ref q), none] := rfl
  have so := sides_ok sh.2 wf hs
  have rl : (rows R).length ≤ 1000 := by
    unfold rows
    (rw [List.length_map, List.length_range])
    omega
  have l9 : (h ++ [O.lst (rows R)])[h.length]? = some (.lst (rows R)) := get_last
  have sr : (mSrc (mCall 1 m_points_with_sides (mCons (mFld "S" "rows" (mVar 0)) mNil))) [some (.ref q), none] h = .val ⟨(rows R).length + 1, nxSeq h.length⟩ (h ++ [.lst (rows R)]) := by
    unfold mSrc
    simp only [mCall_eq, mCons_eq, mFld, mVar0, bind_val, fld_ok sh, mNil_eq, List.length_cons, List.length_nil, Nat.zero_add, if_true, so, srcOf, l9]
  have l := lc_if (i := 1) (t := mT (mCall 3 m_is_jump_down (mCons (m2 mIx (mVar 1) (mC (.int 1))) (mCons (m2 mIx (mVar 1) (mC (.int 2))) (mCons (m2 mIx (mVar 1) (mC (.int 3))) mNil))))) (f := mVar 1) (B := jW) (F := fun w => w) sr (by omega) l9
    (fun w hw g k => by
      rw [rows_eq wf] at hw
      obtain ⟨x, hx, rfl⟩ := List.mem_map.mp hw
      have gx := ptsR_gd pg hx
      have j := jd_ok (h := g) (lvR_fq pg gx) (tmR_fq pg gx) (rvR_fq pg gx)
      rw [jW_srow]
      show mT _ [some (.ref q), some (srow R x)] g = _
      have x1 : mIx (srow R x) (.int 1) g = .val (qo (lvR R x)) g := rfl
      have x2 : mIx (srow R x) (.int 2) g = .val (qo (tmR R x)) g := rfl
      have x3 : mIx (srow R x) (.int 3) g = .val (qo (rvR R x)) g := rfl
      simp only [mT_eq, mCall_eq, mCons_eq, m2_eq, mVarS, mVar0, bind_val, mC_eq, x1, x2, x3, mNil_eq, List.length_cons, List.length_nil, Nat.zero_add, Nat.reduceAdd, if_true, j, asB_bl]
      rfl)
    (fun w hw hb g k => rfl)
  rw [List.map_id', filter_rows wf] at l
  unfold m_Shape_falls
  rw [mDef_eq, st, mRet_eq, l, andS_val, endS_rt]
  simp
/-! ### rows as data -/
def rowD (R : List Pc) (x : QQ) : PyData := .tuple [dP x, dO (lvR R x), dO (tmR R x), dO (rvR R x)]
theorem toD_row {n : Nat} : toD (n + 3) h (srow R x) = some (rowD R x) := by
  have t1 := toD_q (h := h) (n := n) (x := x)
  have t2 := toD_o (h := h) (n := n) (o := lvR R x)
  have t3 := toD_o (h := h) (n := n) (o := tmR R x)
  have t4 := toD_o (h := h) (n := n) (o := rvR R x)
  unfold srow toD
  simp only [optAll, t1, t2, t3, t4]
  rfl
theorem toD_rows {n : Nat} : ∀ X : List QQ, optAll (toD (n + 3) h) (X.map (srow R)) = some (X.map (rowD R))
  | [] => rfl
  | x :: X => by
    have a := toD_row (h := h) (n := n) (R := R) (x := x)
    have b := toD_rows (n := n) X
    simp only [List.map_cons, optAll, a, b]
theorem lay_rows : ∀ X : List QQ, PyData.canLayAll0 (X.map (rowD R)) = true
  | [] => by
    rw [List.map_nil]
    simp [PyData.canLayAll0]
  | x :: X => by
    have b := lay_rows X
    rw [List.map_cons]
    simp [rowD, PyData.canLayAll0, PyData.canLay0, lay_o, b]
theorem dep_rows : ∀ X : List QQ, PyData.depthAll (X.map (rowD R)) ≤ 2
  | [] => by
    rw [List.map_nil]
    simp [PyData.depthAll]
  | x :: X => by
    have b := dep_rows X
    have d1 := dep_o (lvR R x)
    have d2 := dep_o (tmR R x)
    have d3 := dep_o (rvR R x)
    rw [List.map_cons]
    simp only [rowD, PyData.depthAll, PyData.depth]
    omega
theorem shaped_rows (X : List QQ) : SeqAt.shaped (.list (X.map (rowD R))) = true := by
  have a := lay_rows (R := R) X
  have b := dep_rows (R := R) X
  have c : PyData.depthAll (X.map (rowD R)) + 1 ≤ 64 := by omega
  simp only [SeqAt.shaped, PyData.canLay0, PyData.depth, a, c, decide_true, Bool.and_self]
theorem toD_falls {p : Nat} (e : h[p]? = some (.lst (fallsR R))) : toD dF h (.ref p) = some (.list (((ptsR R).filter (jR R)).map (rowD R))) := by
  have z := toD_rows (h := h) (R := R) (n := 8) ((ptsR R).filter (jR R))
  show toD (11 + 1) h (.ref p) = _
  unfold fallsR at e
  unfold toD
  simp only [e, z]
  rfl
theorem eq_falls {p q : Nat} {neg : Bool} (e1 : h[p]? = some (.lst (fallsR R))) (e2 : h[q]? = some (.lst (fallsR R))) : mEq neg (.ref p) (.ref q) h = .val (.bl (!neg)) h :=
  eq_same (toD_falls e1) (toD_falls e2) (shaped_rows _)
end
end SHP
end
section
namespace K34
open PySem L2 VL SHP
def top (i : Nat) : Stmt := PySem.Challenge.pw_whatiftimes_k34_falls.main.body.getD i (.Pass ⟨0, 0, 0, 0⟩)
structure Cs where
  InvalidShape : Addr
  InvalidNumber : Addr
  Shape : Addr

abbrev s_is_whole : Stmt := top 7
theorem sc_is_whole : FnScope ["value"] ["value"] (defScope s_is_whole) := ⟨rfl, rfl, rfl, by decide +kernel, rfl, by decide +kernel, by decide +kernel⟩
abbrev s_is_whole_pair : Stmt := top 8
theorem sc_is_whole_pair : FnScope ["value"] ["value"] (defScope s_is_whole_pair) := ⟨rfl, rfl, rfl, by decide +kernel, rfl, by decide +kernel, by decide +kernel⟩
abbrev s_sign_of : Stmt := top 9
theorem sc_sign_of : FnScope ["number"] ["number"] (defScope s_sign_of) := ⟨rfl, rfl, rfl, by decide +kernel, rfl, by decide +kernel, by decide +kernel⟩
abbrev s_common_divisor : Stmt := top 10
theorem sc_common_divisor : FnScope ["one", "other"] ["one", "other"] (defScope s_common_divisor) := ⟨rfl, rfl, rfl, by decide +kernel, rfl, by decide +kernel, by decide +kernel⟩
abbrev s_is_fraction : Stmt := top 12
theorem sc_is_fraction : FnScope ["value"] ["value"] (defScope s_is_fraction) := ⟨rfl, rfl, rfl, by decide +kernel, rfl, by decide +kernel, by decide +kernel⟩
abbrev s_require_fraction : Stmt := top 13
theorem sc_require_fraction : FnScope ["value"] ["value"] (defScope s_require_fraction) := ⟨rfl, rfl, rfl, by decide +kernel, rfl, by decide +kernel, by decide +kernel⟩
abbrev s_is_slowness : Stmt := top 14
theorem sc_is_slowness : FnScope ["value"] ["value"] (defScope s_is_slowness) := ⟨rfl, rfl, rfl, by decide +kernel, rfl, by decide +kernel, by decide +kernel⟩
abbrev s_fraction : Stmt := top 15
theorem sc_fraction : FnScope ["number", "divisor", "common"] ["number", "divisor"] (defScope s_fraction) := ⟨rfl, rfl, rfl, by decide +kernel, rfl, by decide +kernel, by decide +kernel⟩
abbrev s_order_of : Stmt := top 17
theorem sc_order_of : FnScope ["one", "other"] ["one", "other"] (defScope s_order_of) := ⟨rfl, rfl, rfl, by decide +kernel, rfl, by decide +kernel, by decide +kernel⟩
abbrev s_compared : Stmt := top 16
theorem sc_compared : FnScope ["one", "other"] ["one", "other"] (defScope s_compared) := ⟨rfl, rfl, rfl, by decide +kernel, rfl, by decide +kernel, by decide +kernel⟩
abbrev s_sum_of_two : Stmt := top 19
theorem sc_sum_of_two : FnScope ["total", "each", "common", "number", "reduced"] ["total", "each"] (defScope s_sum_of_two) := ⟨rfl, rfl, rfl, by decide +kernel, rfl, by decide +kernel, by decide +kernel⟩
abbrev s_total_of : Stmt := top 18
theorem sc_total_of : FnScope ["some", "total", "each"] ["some"] (defScope s_total_of) := ⟨rfl, rfl, rfl, by decide +kernel, rfl, by decide +kernel, by decide +kernel⟩
abbrev s_is_line : Stmt := top 21
theorem sc_is_line : FnScope ["value"] ["value"] (defScope s_is_line) := ⟨rfl, rfl, rfl, by decide +kernel, rfl, by decide +kernel, by decide +kernel⟩
abbrev s_require_line : Stmt := top 22
theorem sc_require_line : FnScope ["value"] ["value"] (defScope s_require_line) := ⟨rfl, rfl, rfl, by decide +kernel, rfl, by decide +kernel, by decide +kernel⟩
abbrev s_value_at : Stmt := top 23
theorem sc_value_at : FnScope ["line", "x"] ["line", "x"] (defScope s_value_at) := ⟨rfl, rfl, rfl, by decide +kernel, rfl, by decide +kernel, by decide +kernel⟩
abbrev s_is_tuple_of : Stmt := top 33
theorem sc_is_tuple_of : FnScope ["value", "word", "size"] ["value", "word", "size"] (defScope s_is_tuple_of) := ⟨rfl, rfl, rfl, by decide +kernel, rfl, by decide +kernel, by decide +kernel⟩
abbrev s_is_point : Stmt := top 31
theorem sc_is_point : FnScope ["value"] ["value"] (defScope s_is_point) := ⟨rfl, rfl, rfl, by decide +kernel, rfl, by decide +kernel, by decide +kernel⟩
abbrev s_is_gap : Stmt := top 32
theorem sc_is_gap : FnScope ["value", "low"] ["value", "low"] (defScope s_is_gap) := ⟨rfl, rfl, rfl, by decide +kernel, rfl, by decide +kernel, by decide +kernel⟩
abbrev s_follows : Stmt := top 30
theorem sc_follows : FnScope ["piece", "last", "index"] ["piece", "last", "index"] (defScope s_follows) := ⟨rfl, rfl, rfl, by decide +kernel, rfl, by decide +kernel, by decide +kernel⟩
abbrev s_are_pieces : Stmt := top 29
theorem sc_are_pieces : FnScope ["value", "index"] ["value"] (defScope s_are_pieces) := ⟨rfl, rfl, rfl, by decide +kernel, rfl, by decide +kernel, by decide +kernel⟩
abbrev s_is_needless : Stmt := top 35
theorem sc_is_needless : FnScope ["left", "point", "right"] ["left", "point", "right"] (defScope s_is_needless) := ⟨rfl, rfl, rfl, by decide +kernel, rfl, by decide +kernel, by decide +kernel⟩
abbrev s_shortest : Stmt := top 34
theorem sc_shortest : FnScope ["pieces", "rows", "piece", "left"] ["pieces"] (defScope s_shortest) := ⟨rfl, rfl, rfl, by decide +kernel, rfl, by decide +kernel, by decide +kernel⟩
abbrev s_high_of : Stmt := top 36
theorem sc_high_of : FnScope ["pieces"] ["pieces"] (defScope s_high_of) := ⟨rfl, rfl, rfl, by decide +kernel, rfl, by decide +kernel, by decide +kernel⟩
abbrev s_points_of : Stmt := top 37
theorem sc_points_of : FnScope ["pieces", "piece"] ["pieces"] (defScope s_points_of) := ⟨rfl, rfl, rfl, by decide +kernel, rfl, by decide +kernel, by decide +kernel⟩
abbrev s_index_of : Stmt := top 38
theorem sc_index_of : FnScope ["pieces", "x", "first", "last", "half"] ["pieces", "x"] (defScope s_index_of) := ⟨rfl, rfl, rfl, by decide +kernel, rfl, by decide +kernel, by decide +kernel⟩
abbrev s_value_or_none : Stmt := top 40
theorem sc_value_or_none : FnScope ["line", "x"] ["line", "x"] (defScope s_value_or_none) := ⟨rfl, rfl, rfl, by decide +kernel, rfl, by decide +kernel, by decide +kernel⟩
abbrev s_time_at : Stmt := top 39
theorem sc_time_at : FnScope ["pieces", "x", "piece"] ["pieces", "x"] (defScope s_time_at) := ⟨rfl, rfl, rfl, by decide +kernel, rfl, by decide +kernel, by decide +kernel⟩
abbrev s_line_after : Stmt := top 42
theorem sc_line_after : FnScope ["pieces", "x", "index"] ["pieces", "x"] (defScope s_line_after) := ⟨rfl, rfl, rfl, by decide +kernel, rfl, by decide +kernel, by decide +kernel⟩
abbrev s_pair_sum : Stmt := top 47
theorem sc_pair_sum : FnScope ["piece", "one", "other"] ["piece"] (defScope s_pair_sum) := ⟨rfl, rfl, rfl, by decide +kernel, rfl, by decide +kernel, by decide +kernel⟩
abbrev s_paired : Stmt := top 50
theorem sc_paired : FnScope ["one", "other", "points", "rows", "ends", "x", "y"] ["one", "other", "points"] (defScope s_paired) := ⟨rfl, rfl, rfl, by decide +kernel, rfl, by decide +kernel, by decide +kernel⟩
abbrev s_next_order : Stmt := top 52
theorem sc_next_order : FnScope ["one", "other", "first", "second"] ["one", "other", "first", "second"] (defScope s_next_order) := ⟨rfl, rfl, rfl, by decide +kernel, rfl, by decide +kernel, by decide +kernel⟩
abbrev s_merged : Stmt := top 51
theorem sc_merged : FnScope ["one", "other", "points", "first", "second", "order"] ["one", "other"] (defScope s_merged) := ⟨rfl, rfl, rfl, by decide +kernel, rfl, by decide +kernel, by decide +kernel⟩
abbrev s_sums : Stmt := top 46
theorem sc_sums : FnScope ["one", "other", "rows", "piece"] ["one", "other"] (defScope s_sums) := ⟨rfl, rfl, rfl, by decide +kernel, rfl, by decide +kernel, by decide +kernel⟩
abbrev s_points_with_sides : Stmt := top 59
theorem sc_points_with_sides : FnScope ["pieces", "rows", "index", "x", "before", "after"] ["pieces"] (defScope s_points_with_sides) := ⟨rfl, rfl, rfl, by decide +kernel, rfl, by decide +kernel, by decide +kernel⟩
abbrev s_is_drop : Stmt := top 61
theorem sc_is_drop : FnScope ["one", "other"] ["one", "other"] (defScope s_is_drop) := ⟨rfl, rfl, rfl, by decide +kernel, rfl, by decide +kernel, by decide +kernel⟩
abbrev s_is_jump_down : Stmt := top 60
theorem sc_is_jump_down : FnScope ["before", "time", "after"] ["before", "time", "after"] (defScope s_is_jump_down) := ⟨rfl, rfl, rfl, by decide +kernel, rfl, by decide +kernel, by decide +kernel⟩
abbrev s_Shape_init : Stmt := inClass (top 63) 0
theorem sc_Shape_init : FnScope ["self", "pieces"] ["self", "pieces"] (defScope s_Shape_init) := ⟨rfl, rfl, rfl, by decide +kernel, rfl, by decide +kernel, by decide +kernel⟩
abbrev s_Shape_pieces : Stmt := inClass (top 63) 1
theorem sc_Shape_pieces : FnScope ["self"] ["self"] (defScope s_Shape_pieces) := ⟨rfl, rfl, rfl, by decide +kernel, rfl, by decide +kernel, by decide +kernel⟩
abbrev s_Shape_low : Stmt := inClass (top 63) 4
theorem sc_Shape_low : FnScope ["self"] ["self"] (defScope s_Shape_low) := ⟨rfl, rfl, rfl, by decide +kernel, rfl, by decide +kernel, by decide +kernel⟩
abbrev s_Shape_high : Stmt := inClass (top 63) 5
theorem sc_Shape_high : FnScope ["self"] ["self"] (defScope s_Shape_high) := ⟨rfl, rfl, rfl, by decide +kernel, rfl, by decide +kernel, by decide +kernel⟩
abbrev s_Shape_require_same_range : Stmt := inClass (top 63) 17
theorem sc_Shape_require_same_range : FnScope ["self", "other"] ["self", "other"] (defScope s_Shape_require_same_range) := ⟨rfl, rfl, rfl, by decide +kernel, rfl, by decide +kernel, by decide +kernel⟩
abbrev s_Shape_add : Stmt := inClass (top 63) 9
theorem sc_Shape_add : FnScope ["self", "other"] ["self", "other"] (defScope s_Shape_add) := ⟨rfl, rfl, rfl, by decide +kernel, rfl, by decide +kernel, by decide +kernel⟩
abbrev s_Shape_falls : Stmt := inClass (top 63) 15
theorem sc_Shape_falls : FnScope ["self", "row"] ["self"] (defScope s_Shape_falls) := ⟨rfl, rfl, rfl, by decide +kernel, rfl, by decide +kernel, by decide +kernel⟩
abbrev s__law_numbers : Stmt := top 65
theorem sc__law_numbers : FnScope ["_law_cell", "_law_salt", "_law_sizes", "_law_whole", "_law_left", "_law_result", "_law_k", "_law_one"] ["_law_cell", "_law_salt", "_law_sizes"] (defScope s__law_numbers) := ⟨rfl, rfl, rfl, by decide +kernel, rfl, by decide +kernel, by decide +kernel⟩
abbrev s__law_fraction : Stmt := top 66
theorem sc__law_fraction : FnScope ["_law_number", "_law_divisor", "_law_one", "_law_other"] ["_law_number", "_law_divisor"] (defScope s__law_fraction) := ⟨rfl, rfl, rfl, by decide +kernel, rfl, by decide +kernel, by decide +kernel⟩
abbrev s__law_line : Stmt := top 67
theorem sc__law_line : FnScope ["_law_digits"] ["_law_digits"] (defScope s__law_line) := ⟨rfl, rfl, rfl, by decide +kernel, rfl, by decide +kernel, by decide +kernel⟩
abbrev s__law_value : Stmt := top 68
theorem sc__law_value : FnScope ["_law_line_here", "_law_x"] ["_law_line_here", "_law_x"] (defScope s__law_value) := ⟨rfl, rfl, rfl, by decide +kernel, rfl, by decide +kernel, by decide +kernel⟩
abbrev s__law_points : Stmt := top 70
theorem sc__law_points : FnScope ["_law_digits", "_law_points_here", "_law_x", "_law_digit", "_law_step"] ["_law_digits"] (defScope s__law_points) := ⟨rfl, rfl, rfl, by decide +kernel, rfl, by decide +kernel, by decide +kernel⟩
abbrev s__law_pieces : Stmt := top 71
theorem sc__law_pieces : FnScope ["_law_digits", "_law_points_here", "_law_pieces_here", "_law_ends", "_law_at", "_law_x", "_law_some", "_law_line_here", "_law_far", "_law_time_here"] ["_law_digits"] (defScope s__law_pieces) := ⟨rfl, rfl, rfl, by decide +kernel, rfl, by decide +kernel, by decide +kernel⟩
abbrev s__law_less : Stmt := top 72
theorem sc__law_less : FnScope ["_law_one", "_law_other"] ["_law_one", "_law_other"] (defScope s__law_less) := ⟨rfl, rfl, rfl, by decide +kernel, rfl, by decide +kernel, by decide +kernel⟩
abbrev s__law_greater : Stmt := top 76
theorem sc__law_greater : FnScope ["_law_one", "_law_other"] ["_law_one", "_law_other"] (defScope s__law_greater) := ⟨rfl, rfl, rfl, by decide +kernel, rfl, by decide +kernel, by decide +kernel⟩
def m__law_greater : MFn := mDef ["_law_one", "_law_other"] ((mRet (mAndV (m2 (mIs true) (mVar 0) (mC .non)) (mAndV (m2 (mIs true) (mVar 1) (mC .non)) (mCall 2 m__law_less (mCons (mVar 1) (mCons (mVar 0) mNil)))))))
abbrev s__law_due : Stmt := top 77
theorem sc__law_due : FnScope ["_law_pieces_here", "_law_found", "_law_at", "_law_piece", "_law_early", "_law_late", "_law_over"] ["_law_pieces_here"] (defScope s__law_due) := ⟨rfl, rfl, rfl, by decide +kernel, rfl, by decide +kernel, by decide +kernel⟩
def m__law_due : MFn := mDef ["_law_pieces_here", "_law_found", "_law_at", "_law_piece", "_law_early", "_law_late", "_law_over"] ((mSeq (mSet 1 (mLst mNil))
    (mSeq (mFor (mEnum (mCons (mVar 0) mNil)) (mGs 2 (mGcons (mGn 2) (mGcons (mGn 3) mGnil))) (mIfS (mT (m2 (mEq false) (m2 mIx (mVar 3) (mC (.int 0))) (mC (.str ("at" : Str))))) (mSeq (mSet 4 (mIf (mT (m2 mGt (mVar 2) (mC (.int 0)))) (mCall 2 m__law_value (mCons (m2 mIx (m2 mIx (mVar 0) (m2 mSub (mVar 2) (mC (.int 1)))) (mC (.int 3))) (mCons (m2 mIx (mVar 3) (mC (.int 1))) mNil))) (mC .non)))
    (mSeq (mSet 5 (mIf (mT (m2 mLt (m2 mAdd (mVar 2) (mC (.int 1))) (mB mLen (mCons (mVar 0) mNil)))) (mCall 2 m__law_value (mCons (m2 mIx (m2 mIx (mVar 0) (m2 mAdd (mVar 2) (mC (.int 1)))) (mC (.int 3))) (mCons (m2 mIx (mVar 3) (mC (.int 1))) mNil))) (mC .non)))
    (mSeq (mSet 6 (mAndV (m2 (mIs false) (m2 mIx (mVar 3) (mC (.int 2))) (mC .non)) (mCall 2 m__law_greater (mCons (mVar 4) (mCons (mVar 5) mNil)))))
    (mIfS (mOrT (mT (mCall 2 m__law_greater (mCons (mVar 4) (mCons (m2 mIx (mVar 3) (mC (.int 2))) mNil)))) (mOrT (mT (mCall 2 m__law_greater (mCons (m2 mIx (mVar 3) (mC (.int 2))) (mCons (mVar 5) mNil)))) (mT (mVar 6)))) (mExpr (mApp (mVar 1) (mTup (mCons (m2 mIx (mVar 3) (mC (.int 1))) (mCons (mVar 4) (mCons (m2 mIx (mVar 3) (mC (.int 2))) (mCons (mVar 5) mNil))))))) mNext)))) mNext))
    (mRet (mVar 1)))))
abbrev s_law : Stmt := top 78
theorem sc_law : FnScope ["_law_script", "_law_k", "_law_cell", "_law_digits", "_law_some", "_law_pieces_here", "_law_shape", "_law_told"] ["_law_script"] (defScope s_law) := ⟨rfl, rfl, rfl, by decide +kernel, rfl, by decide +kernel, by decide +kernel⟩
def lBody : MS := (mSeq (mSet 3 (mCall 3 m__law_numbers (mCons (mVar 2) (mCons (m2 mAdd (mC (.int 3400)) (mVar 1)) (mCons (m2 mMul (mLst (mCons (mC (.int 420)) mNil)) (mC (.int 80))) mNil)))))
    (mFor (mSrc (mLst (mCons (mVar 3) (mCons (mSl (mVar 3) (mPart (some (mC (.int 20)))) (mPart none)) (mCons (mSl (mVar 3) (mPart (some (mC (.int 38)))) (mPart none)) mNil))))) (mGn 4) (mSeq (mSet 5 (mCall 1 m__law_pieces (mCons (mVar 4) mNil)))
    (mSeq (mSet 6 (mMake "S" 1 m_Shape_init (mCons (mVar 5) mNil)))
    (mSeq (mSet 7 (mMeth "S" "falls" 0 m_Shape_falls (mVar 6) mNil))
    (mSeq (mIfS (mT (m2 (mEq true) (mVar 7) (mCall 1 m__law_due (mCons (mVar 5) mNil)))) (mRet (mC (.bl false))) mNext)
    (mSeq (mExpr (mApp (mVar 7) (mC .non)))
    (mIfS (mOrT (mT (m2 (mEq true) (mMeth "S" "falls" 0 m_Shape_falls (mVar 6) mNil) (mCall 1 m__law_due (mCons (mVar 5) mNil)))) (mT (m2 (mEq true) (mMeth "S" "falls" 0 m_Shape_falls (m2 (mOwnBO "S" m_Shape_add) (mVar 6) (mVar 6)) mNil) (mCall 1 m__law_due (mCons (mMeth "S" "pieces" 0 m_Shape_pieces (m2 (mOwnBO "S" m_Shape_add) (mVar 6) (mVar 6)) mNil) mNil))))) (mRet (mC (.bl false))) mNext))))))))
def m_law : MFn := mDef ["_law_script", "_law_k", "_law_cell", "_law_digits", "_law_some", "_law_pieces_here", "_law_shape", "_law_told"] ((mSeq (mFor (mEnum (mCons (m2 mAdd (mSl (mVar 0) (mPart none) (mPart (some (mC (.int 6))))) (m2 mMul (mLst (mCons (mC (.int 7)) mNil)) (mB mInt (mCons (m2 (mEq false) (mVar 0) (mLst mNil)) mNil)))) mNil)) (mGs 2 (mGcons (mGn 1) (mGcons (mGn 2) mGnil))) (mLocal [1, 2] lBody))
    (mRet (mC (.bl true)))))
structure Gx (P : Program) (w : World) (K : PySem.W.Frag) (mg : Str → Option Value) (base : Heap) where
  c : Cs
  f_is_whole : Addr
  d_is_whole : FuncData
  F_is_whole : Fun K "is_whole" "is_whole" s_is_whole f_is_whole d_is_whole
  g_is_whole : mg "is_whole" = some (.ref f_is_whole)
  n_is_whole : Binds K d_is_whole ["value"] []
  k_is_whole : PySem.W.keepIn K (.ref f_is_whole) = true
  f_is_whole_pair : Addr
  d_is_whole_pair : FuncData
  F_is_whole_pair : Fun K "is_whole_pair" "is_whole_pair" s_is_whole_pair f_is_whole_pair d_is_whole_pair
  g_is_whole_pair : mg "is_whole_pair" = some (.ref f_is_whole_pair)
  n_is_whole_pair : Binds K d_is_whole_pair ["value"] []
  k_is_whole_pair : PySem.W.keepIn K (.ref f_is_whole_pair) = true
  f_sign_of : Addr
  d_sign_of : FuncData
  F_sign_of : Fun K "sign_of" "sign_of" s_sign_of f_sign_of d_sign_of
  g_sign_of : mg "sign_of" = some (.ref f_sign_of)
  n_sign_of : Binds K d_sign_of ["number"] []
  k_sign_of : PySem.W.keepIn K (.ref f_sign_of) = true
  f_common_divisor : Addr
  d_common_divisor : FuncData
  F_common_divisor : Fun K "common_divisor" "common_divisor" s_common_divisor f_common_divisor d_common_divisor
  g_common_divisor : mg "common_divisor" = some (.ref f_common_divisor)
  n_common_divisor : Binds K d_common_divisor ["one", "other"] []
  k_common_divisor : PySem.W.keepIn K (.ref f_common_divisor) = true
  f_is_fraction : Addr
  d_is_fraction : FuncData
  F_is_fraction : Fun K "is_fraction" "is_fraction" s_is_fraction f_is_fraction d_is_fraction
  g_is_fraction : mg "is_fraction" = some (.ref f_is_fraction)
  n_is_fraction : Binds K d_is_fraction ["value"] []
  k_is_fraction : PySem.W.keepIn K (.ref f_is_fraction) = true
  f_require_fraction : Addr
  d_require_fraction : FuncData
  F_require_fraction : Fun K "require_fraction" "require_fraction" s_require_fraction f_require_fraction d_require_fraction
  g_require_fraction : mg "require_fraction" = some (.ref f_require_fraction)
  n_require_fraction : Binds K d_require_fraction ["value"] []
  k_require_fraction : PySem.W.keepIn K (.ref f_require_fraction) = true
  f_is_slowness : Addr
  d_is_slowness : FuncData
  F_is_slowness : Fun K "is_slowness" "is_slowness" s_is_slowness f_is_slowness d_is_slowness
  g_is_slowness : mg "is_slowness" = some (.ref f_is_slowness)
  n_is_slowness : Binds K d_is_slowness ["value"] []
  k_is_slowness : PySem.W.keepIn K (.ref f_is_slowness) = true
  f_fraction : Addr
  d_fraction : FuncData
  F_fraction : Fun K "fraction" "fraction" s_fraction f_fraction d_fraction
  g_fraction : mg "fraction" = some (.ref f_fraction)
  n_fraction : Binds K d_fraction ["number", "divisor"] []
  k_fraction : PySem.W.keepIn K (.ref f_fraction) = true
  f_order_of : Addr
  d_order_of : FuncData
  F_order_of : Fun K "order_of" "order_of" s_order_of f_order_of d_order_of
  g_order_of : mg "order_of" = some (.ref f_order_of)
  n_order_of : Binds K d_order_of ["one", "other"] []
  k_order_of : PySem.W.keepIn K (.ref f_order_of) = true
  f_compared : Addr
  d_compared : FuncData
  F_compared : Fun K "compared" "compared" s_compared f_compared d_compared
  g_compared : mg "compared" = some (.ref f_compared)
  n_compared : Binds K d_compared ["one", "other"] []
  k_compared : PySem.W.keepIn K (.ref f_compared) = true
  f_sum_of_two : Addr
  d_sum_of_two : FuncData
  F_sum_of_two : Fun K "sum_of_two" "sum_of_two" s_sum_of_two f_sum_of_two d_sum_of_two
  g_sum_of_two : mg "sum_of_two" = some (.ref f_sum_of_two)
  n_sum_of_two : Binds K d_sum_of_two ["total", "each"] []
  k_sum_of_two : PySem.W.keepIn K (.ref f_sum_of_two) = true
  f_total_of : Addr
  d_total_of : FuncData
  F_total_of : Fun K "total_of" "total_of" s_total_of f_total_of d_total_of
  g_total_of : mg "total_of" = some (.ref f_total_of)
  n_total_of : Binds K d_total_of ["some"] []
  k_total_of : PySem.W.keepIn K (.ref f_total_of) = true
  f_is_line : Addr
  d_is_line : FuncData
  F_is_line : Fun K "is_line" "is_line" s_is_line f_is_line d_is_line
  g_is_line : mg "is_line" = some (.ref f_is_line)
  n_is_line : Binds K d_is_line ["value"] []
  k_is_line : PySem.W.keepIn K (.ref f_is_line) = true
  f_require_line : Addr
  d_require_line : FuncData
  F_require_line : Fun K "require_line" "require_line" s_require_line f_require_line d_require_line
  g_require_line : mg "require_line" = some (.ref f_require_line)
  n_require_line : Binds K d_require_line ["value"] []
  k_require_line : PySem.W.keepIn K (.ref f_require_line) = true
  f_value_at : Addr
  d_value_at : FuncData
  F_value_at : Fun K "value_at" "value_at" s_value_at f_value_at d_value_at
  g_value_at : mg "value_at" = some (.ref f_value_at)
  n_value_at : Binds K d_value_at ["line", "x"] []
  k_value_at : PySem.W.keepIn K (.ref f_value_at) = true
  f_is_tuple_of : Addr
  d_is_tuple_of : FuncData
  F_is_tuple_of : Fun K "is_tuple_of" "is_tuple_of" s_is_tuple_of f_is_tuple_of d_is_tuple_of
  g_is_tuple_of : mg "is_tuple_of" = some (.ref f_is_tuple_of)
  n_is_tuple_of : Binds K d_is_tuple_of ["value", "word", "size"] []
  k_is_tuple_of : PySem.W.keepIn K (.ref f_is_tuple_of) = true
  f_is_point : Addr
  d_is_point : FuncData
  F_is_point : Fun K "is_point" "is_point" s_is_point f_is_point d_is_point
  g_is_point : mg "is_point" = some (.ref f_is_point)
  n_is_point : Binds K d_is_point ["value"] []
  k_is_point : PySem.W.keepIn K (.ref f_is_point) = true
  f_is_gap : Addr
  d_is_gap : FuncData
  F_is_gap : Fun K "is_gap" "is_gap" s_is_gap f_is_gap d_is_gap
  g_is_gap : mg "is_gap" = some (.ref f_is_gap)
  n_is_gap : Binds K d_is_gap ["value", "low"] []
  k_is_gap : PySem.W.keepIn K (.ref f_is_gap) = true
  f_follows : Addr
  d_follows : FuncData
  F_follows : Fun K "follows" "follows" s_follows f_follows d_follows
  g_follows : mg "follows" = some (.ref f_follows)
  n_follows : Binds K d_follows ["piece", "last", "index"] []
  k_follows : PySem.W.keepIn K (.ref f_follows) = true
  f_are_pieces : Addr
  d_are_pieces : FuncData
  F_are_pieces : Fun K "are_pieces" "are_pieces" s_are_pieces f_are_pieces d_are_pieces
  g_are_pieces : mg "are_pieces" = some (.ref f_are_pieces)
  n_are_pieces : Binds K d_are_pieces ["value"] []
  k_are_pieces : PySem.W.keepIn K (.ref f_are_pieces) = true
  f_is_needless : Addr
  d_is_needless : FuncData
  F_is_needless : Fun K "is_needless" "is_needless" s_is_needless f_is_needless d_is_needless
  g_is_needless : mg "is_needless" = some (.ref f_is_needless)
  n_is_needless : Binds K d_is_needless ["left", "point", "right"] []
  k_is_needless : PySem.W.keepIn K (.ref f_is_needless) = true
  f_shortest : Addr
  d_shortest : FuncData
  F_shortest : Fun K "shortest" "shortest" s_shortest f_shortest d_shortest
  g_shortest : mg "shortest" = some (.ref f_shortest)
  n_shortest : Binds K d_shortest ["pieces"] []
  k_shortest : PySem.W.keepIn K (.ref f_shortest) = true
  f_high_of : Addr
  d_high_of : FuncData
  F_high_of : Fun K "high_of" "high_of" s_high_of f_high_of d_high_of
  g_high_of : mg "high_of" = some (.ref f_high_of)
  n_high_of : Binds K d_high_of ["pieces"] []
  k_high_of : PySem.W.keepIn K (.ref f_high_of) = true
  f_points_of : Addr
  d_points_of : FuncData
  F_points_of : Fun K "points_of" "points_of" s_points_of f_points_of d_points_of
  g_points_of : mg "points_of" = some (.ref f_points_of)
  n_points_of : Binds K d_points_of ["pieces"] []
  k_points_of : PySem.W.keepIn K (.ref f_points_of) = true
  f_index_of : Addr
  d_index_of : FuncData
  F_index_of : Fun K "index_of" "index_of" s_index_of f_index_of d_index_of
  g_index_of : mg "index_of" = some (.ref f_index_of)
  n_index_of : Binds K d_index_of ["pieces", "x"] []
  k_index_of : PySem.W.keepIn K (.ref f_index_of) = true
  f_value_or_none : Addr
  d_value_or_none : FuncData
  F_value_or_none : Fun K "value_or_none" "value_or_none" s_value_or_none f_value_or_none d_value_or_none
  g_value_or_none : mg "value_or_none" = some (.ref f_value_or_none)
  n_value_or_none : Binds K d_value_or_none ["line", "x"] []
  k_value_or_none : PySem.W.keepIn K (.ref f_value_or_none) = true
  f_time_at : Addr
  d_time_at : FuncData
  F_time_at : Fun K "time_at" "time_at" s_time_at f_time_at d_time_at
  g_time_at : mg "time_at" = some (.ref f_time_at)
  n_time_at : Binds K d_time_at ["pieces", "x"] []
  k_time_at : PySem.W.keepIn K (.ref f_time_at) = true
  f_line_after : Addr
  d_line_after : FuncData
  F_line_after : Fun K "line_after" "line_after" s_line_after f_line_after d_line_after
  g_line_after : mg "line_after" = some (.ref f_line_after)
  n_line_after : Binds K d_line_after ["pieces", "x"] []
  k_line_after : PySem.W.keepIn K (.ref f_line_after) = true
  f_pair_sum : Addr
  d_pair_sum : FuncData
  F_pair_sum : Fun K "pair_sum" "pair_sum" s_pair_sum f_pair_sum d_pair_sum
  g_pair_sum : mg "pair_sum" = some (.ref f_pair_sum)
  n_pair_sum : Binds K d_pair_sum ["piece"] []
  k_pair_sum : PySem.W.keepIn K (.ref f_pair_sum) = true
  f_paired : Addr
  d_paired : FuncData
  F_paired : Fun K "paired" "paired" s_paired f_paired d_paired
  g_paired : mg "paired" = some (.ref f_paired)
  n_paired : Binds K d_paired ["one", "other", "points"] []
  k_paired : PySem.W.keepIn K (.ref f_paired) = true
  f_next_order : Addr
  d_next_order : FuncData
  F_next_order : Fun K "next_order" "next_order" s_next_order f_next_order d_next_order
  g_next_order : mg "next_order" = some (.ref f_next_order)
  n_next_order : Binds K d_next_order ["one", "other", "first", "second"] []
  k_next_order : PySem.W.keepIn K (.ref f_next_order) = true
  f_merged : Addr
  d_merged : FuncData
  F_merged : Fun K "merged" "merged" s_merged f_merged d_merged
  g_merged : mg "merged" = some (.ref f_merged)
  n_merged : Binds K d_merged ["one", "other"] []
  k_merged : PySem.W.keepIn K (.ref f_merged) = true
  f_sums : Addr
  d_sums : FuncData
  F_sums : Fun K "sums" "sums" s_sums f_sums d_sums
  g_sums : mg "sums" = some (.ref f_sums)
  n_sums : Binds K d_sums ["one", "other"] []
  k_sums : PySem.W.keepIn K (.ref f_sums) = true
  f_points_with_sides : Addr
  d_points_with_sides : FuncData
  F_points_with_sides : Fun K "points_with_sides" "points_with_sides" s_points_with_sides f_points_with_sides d_points_with_sides
  g_points_with_sides : mg "points_with_sides" = some (.ref f_points_with_sides)
  n_points_with_sides : Binds K d_points_with_sides ["pieces"] []
  k_points_with_sides : PySem.W.keepIn K (.ref f_points_with_sides) = true
  f_is_drop : Addr
  d_is_drop : FuncData
  F_is_drop : Fun K "is_drop" "is_drop" s_is_drop f_is_drop d_is_drop
  g_is_drop : mg "is_drop" = some (.ref f_is_drop)
  n_is_drop : Binds K d_is_drop ["one", "other"] []
  k_is_drop : PySem.W.keepIn K (.ref f_is_drop) = true
  f_is_jump_down : Addr
  d_is_jump_down : FuncData
  F_is_jump_down : Fun K "is_jump_down" "is_jump_down" s_is_jump_down f_is_jump_down d_is_jump_down
  g_is_jump_down : mg "is_jump_down" = some (.ref f_is_jump_down)
  n_is_jump_down : Binds K d_is_jump_down ["before", "time", "after"] []
  k_is_jump_down : PySem.W.keepIn K (.ref f_is_jump_down) = true
  f_Shape_init : Addr
  d_Shape_init : FuncData
  F_Shape_init : Fun K "__init__" "Shape.__init__" s_Shape_init f_Shape_init d_Shape_init
  n_Shape_init : Binds K d_Shape_init ["self", "pieces"] []
  k_Shape_init : PySem.W.keepIn K (.ref f_Shape_init) = true
  f_Shape_pieces : Addr
  d_Shape_pieces : FuncData
  F_Shape_pieces : Fun K "pieces" "Shape.pieces" s_Shape_pieces f_Shape_pieces d_Shape_pieces
  n_Shape_pieces : Binds K d_Shape_pieces ["self"] []
  k_Shape_pieces : PySem.W.keepIn K (.ref f_Shape_pieces) = true
  f_Shape_low : Addr
  d_Shape_low : FuncData
  F_Shape_low : Fun K "low" "Shape.low" s_Shape_low f_Shape_low d_Shape_low
  n_Shape_low : Binds K d_Shape_low ["self"] []
  k_Shape_low : PySem.W.keepIn K (.ref f_Shape_low) = true
  f_Shape_high : Addr
  d_Shape_high : FuncData
  F_Shape_high : Fun K "high" "Shape.high" s_Shape_high f_Shape_high d_Shape_high
  n_Shape_high : Binds K d_Shape_high ["self"] []
  k_Shape_high : PySem.W.keepIn K (.ref f_Shape_high) = true
  f_Shape_require_same_range : Addr
  d_Shape_require_same_range : FuncData
  F_Shape_require_same_range : Fun K "require_same_range" "Shape.require_same_range" s_Shape_require_same_range f_Shape_require_same_range d_Shape_require_same_range
  n_Shape_require_same_range : Binds K d_Shape_require_same_range ["self", "other"] []
  k_Shape_require_same_range : PySem.W.keepIn K (.ref f_Shape_require_same_range) = true
  f_Shape_add : Addr
  d_Shape_add : FuncData
  F_Shape_add : Fun K "__add__" "Shape.__add__" s_Shape_add f_Shape_add d_Shape_add
  n_Shape_add : Binds K d_Shape_add ["self", "other"] []
  k_Shape_add : PySem.W.keepIn K (.ref f_Shape_add) = true
  f_Shape_falls : Addr
  d_Shape_falls : FuncData
  F_Shape_falls : Fun K "falls" "Shape.falls" s_Shape_falls f_Shape_falls d_Shape_falls
  n_Shape_falls : Binds K d_Shape_falls ["self"] []
  k_Shape_falls : PySem.W.keepIn K (.ref f_Shape_falls) = true
  f__law_numbers : Addr
  d__law_numbers : FuncData
  F__law_numbers : Fun K "_law_numbers" "_law_numbers" s__law_numbers f__law_numbers d__law_numbers
  g__law_numbers : mg "_law_numbers" = some (.ref f__law_numbers)
  n__law_numbers : Binds K d__law_numbers ["_law_cell", "_law_salt", "_law_sizes"] []
  k__law_numbers : PySem.W.keepIn K (.ref f__law_numbers) = true
  f__law_fraction : Addr
  d__law_fraction : FuncData
  F__law_fraction : Fun K "_law_fraction" "_law_fraction" s__law_fraction f__law_fraction d__law_fraction
  g__law_fraction : mg "_law_fraction" = some (.ref f__law_fraction)
  n__law_fraction : Binds K d__law_fraction ["_law_number", "_law_divisor"] []
  k__law_fraction : PySem.W.keepIn K (.ref f__law_fraction) = true
  f__law_line : Addr
  d__law_line : FuncData
  F__law_line : Fun K "_law_line" "_law_line" s__law_line f__law_line d__law_line
  g__law_line : mg "_law_line" = some (.ref f__law_line)
  n__law_line : Binds K d__law_line ["_law_digits"] []
  k__law_line : PySem.W.keepIn K (.ref f__law_line) = true
  f__law_value : Addr
  d__law_value : FuncData
  F__law_value : Fun K "_law_value" "_law_value" s__law_value f__law_value d__law_value
  g__law_value : mg "_law_value" = some (.ref f__law_value)
  n__law_value : Binds K d__law_value ["_law_line_here", "_law_x"] []
  k__law_value : PySem.W.keepIn K (.ref f__law_value) = true
  f__law_points : Addr
  d__law_points : FuncData
  F__law_points : Fun K "_law_points" "_law_points" s__law_points f__law_points d__law_points
  g__law_points : mg "_law_points" = some (.ref f__law_points)
  n__law_points : Binds K d__law_points ["_law_digits"] []
  k__law_points : PySem.W.keepIn K (.ref f__law_points) = true
  f__law_pieces : Addr
  d__law_pieces : FuncData
  F__law_pieces : Fun K "_law_pieces" "_law_pieces" s__law_pieces f__law_pieces d__law_pieces
  g__law_pieces : mg "_law_pieces" = some (.ref f__law_pieces)
  n__law_pieces : Binds K d__law_pieces ["_law_digits"] []
  k__law_pieces : PySem.W.keepIn K (.ref f__law_pieces) = true
  f__law_less : Addr
  d__law_less : FuncData
  F__law_less : Fun K "_law_less" "_law_less" s__law_less f__law_less d__law_less
  g__law_less : mg "_law_less" = some (.ref f__law_less)
  n__law_less : Binds K d__law_less ["_law_one", "_law_other"] []
  k__law_less : PySem.W.keepIn K (.ref f__law_less) = true
  f__law_greater : Addr
  d__law_greater : FuncData
  F__law_greater : Fun K "_law_greater" "_law_greater" s__law_greater f__law_greater d__law_greater
  g__law_greater : mg "_law_greater" = some (.ref f__law_greater)
  n__law_greater : Binds K d__law_greater ["_law_one", "_law_other"] []
  k__law_greater : PySem.W.keepIn K (.ref f__law_greater) = true
  f__law_due : Addr
  d__law_due : FuncData
  F__law_due : Fun K "_law_due" "_law_due" s__law_due f__law_due d__law_due
  g__law_due : mg "_law_due" = some (.ref f__law_due)
  n__law_due : Binds K d__law_due ["_law_pieces_here"] []
  k__law_due : PySem.W.keepIn K (.ref f__law_due) = true
  f_law : Addr
  d_law : FuncData
  F_law : Fun K "law" "law" s_law f_law d_law
  g_law : mg "law" = some (.ref f_law)
  n_law : Binds K d_law ["_law_script"] []
  k_law : PySem.W.keepIn K (.ref f_law) = true
  b_abs : mg "abs" = none
  b_bool : mg "bool" = none
  b_enumerate : mg "enumerate" = none
  b_int : mg "int" = none
  b_isinstance : mg "isinstance" = none
  b_len : mg "len" = none
  b_list : mg "list" = none
  b_max : mg "max" = none
  b_range : mg "range" = none
  b_str : mg "str" = none
  b_tuple : mg "tuple" = none
  b_zip : mg "zip" = none
  e_InvalidShape : ErrH P w K mg base "InvalidShape" "value" c.InvalidShape
  xf_InvalidShape : XfC K c.InvalidShape
  no_InvalidShape : PySem.W.findIn K (.ref c.InvalidShape) "value" = some none
  xc_InvalidShape : ExcC K c.InvalidShape
  e_InvalidNumber : ErrH P w K mg base "InvalidNumber" "value" c.InvalidNumber
  xf_InvalidNumber : XfC K c.InvalidNumber
  no_InvalidNumber : PySem.W.findIn K (.ref c.InvalidNumber) "value" = some none
  xc_InvalidNumber : ExcC K c.InvalidNumber
  mg_Shape : mg "Shape" = some (.ref c.Shape)
  cls_Shape : Cls K c.Shape
  ic_Shape : InsC K c.Shape
  mkc_Shape : Mk K c.Shape f_Shape_init
  kit_Shape : PySem.W.kitOne K (.ref c.Shape) (.ref c.Shape) = some true
  kt_Shape : ∀ t ∈ tyNs, PySem.W.kitOne K (.type t) (.ref c.Shape) = some false
  nf_Shape : ∀ t ∈ tyNs, PySem.W.notFirst K c.Shape (.type t) = true
  nfs_Shape : PySem.W.notFirst K c.Shape (.ref c.Shape) = true
  na_Shape_rows : NoAttr K c.Shape "rows"
  me_Shape_pieces : Meth K c.Shape "pieces" f_Shape_pieces
  me_Shape_require_same_range : Meth K c.Shape "require_same_range" f_Shape_require_same_range
  me_Shape_falls : Meth K c.Shape "falls" f_Shape_falls
  pa_Shape_low : Addr
  pr_Shape_low : PropOf K c.Shape "low" pa_Shape_low f_Shape_low
  pa_Shape_high : Addr
  pr_Shape_high : PropOf K c.Shape "high" pa_Shape_high f_Shape_high
  sf_Shape : PySem.W.selfFirst K c.Shape = true
  ho_Shape_add : PySem.W.findIn K (.ref c.Shape) "__add__" = some (some (.ref f_Shape_add))
  hof_Shape_add : PySem.W.isFn K (.ref f_Shape_add) = true
section
variable {P : Program} {w : World} {K : PySem.W.Frag}
  {mg : Str → Option Value} {base : Heap}
def cvOf (c : Cs) : String → Value := fun n => if n = "a" then .ref c.InvalidShape else if n = "b" then .ref c.InvalidNumber else if n = "S" then .ref c.Shape else .none
abbrev Gx.T (G : Gx P w K mg base) : Tx := Tx.plain [] (cvOf G.c)

theorem Gx.v_InvalidShape (G : Gx P w K mg base) : G.T.cv "a" = .ref G.c.InvalidShape := by simp [Tx.plain, cvOf]
theorem Gx.v_InvalidNumber (G : Gx P w K mg base) : G.T.cv "b" = .ref G.c.InvalidNumber := by simp [Tx.plain, cvOf]
theorem Gx.v_Shape (G : Gx P w K mg base) : G.T.cv "S" = .ref G.c.Shape := by simp [Tx.plain, cvOf]
theorem Gx.hcs_Shape (G : Gx P w K mg base) (e : String) (h : (["S"] : List String).contains e = true) : ∃ D, G.T.cv e = .ref D ∧ InsC K D ∧ PySem.W.notFirst K G.c.Shape (.ref D) = true := by
  have h2 : e = "S" := by simpa using h
  subst h2
  exact ⟨_, G.v_Shape, G.ic_Shape, G.nfs_Shape⟩
theorem Gx.iso_Shape (G : Gx P w K mg base) (d : String) (b : Bool) (h : ([("S", true)] : List (String × Bool)).lookup d = some b) : ∃ D, G.T.cv d = .ref D ∧ InsC K D ∧ PySem.W.kitOne K (.ref D) (.ref G.c.Shape) = some b := by
  rw [List.lookup_cons] at h
  cases q : d == "S" with
  | true =>
    rw [q] at h
    cases h
    rw [beq_iff_eq.mp q]
    exact ⟨_, G.v_Shape, G.ic_Shape, G.kit_Shape⟩
  | false => rw [q] at h; cases h
theorem ok_is_whole (G : Gx P w K mg base) : FnOk P w K mg base (L2.CX P w) 2 G.f_is_whole G.d_is_whole ["value"] (spV G.T 1 m_is_whole) := fn_def G.F_is_whole sc_is_whole (fun cdv A outer s H E hr => by
  have hu := hr.units
  have S := sc_is_whole
  exact (sss_one (ss_ret (se_and (se_b call_isi rc_isi rfl G.b_isinstance (by decide +kernel) (sa_cons (se_var 0) (sa_cons (se_ty rfl G.b_int (by decide +kernel)) sa_nil))) (se_one (se_not (se_b call_isi rc_isi rfl G.b_isinstance (by decide +kernel) (sa_cons (se_var 0) (sa_cons (se_ty rfl G.b_bool (by decide +kernel)) sa_nil)))))))))
theorem ok_is_whole_pair (G : Gx P w K mg base) : FnOk P w K mg base (L2.CX P w) 3 G.f_is_whole_pair G.d_is_whole_pair ["value"] (spV G.T 1 m_is_whole_pair) := fn_def G.F_is_whole_pair sc_is_whole_pair (fun cdv A outer s H E hr => by
  have hu := hr.units
  have S := sc_is_whole_pair
  exact (sss_cons (ss_if (st_w (sw_or (st_not (st_val (se_b call_isi rc_isi rfl G.b_isinstance (by decide +kernel) (sa_cons (se_var 0) (sa_cons (se_ty rfl G.b_tuple (by decide +kernel)) sa_nil))))) (sw_or1 (st_cmp (op_neD hu) ro_ne (se_b call_len rc_len rfl G.b_len PySem.boot_len (sa_cons (se_var 0) sa_nil)) se_int (nomark _))))) (sss_one (ss_ret se_bl)) sss_nil)
    (sss_one (ss_ret (se_and (se_call (can_ok (ok_is_whole G) (hr.mono (by decide)) G.n_is_whole) rfl G.g_is_whole G.k_is_whole (sa_cons (se_ix (se_var 0) se_int) sa_nil)) (se_one (se_call (can_ok (ok_is_whole G) (hr.mono (by decide)) G.n_is_whole) rfl G.g_is_whole G.k_is_whole (sa_cons (se_ix (se_var 0) se_int) sa_nil))))))))
theorem ok_sign_of (G : Gx P w K mg base) : FnOk P w K mg base (L2.CX P w) 2 G.f_sign_of G.d_sign_of ["number"] (spV G.T 1 m_sign_of) := fn_def G.F_sign_of sc_sign_of (fun cdv A outer s H E hr => by
  have hu := hr.units
  have S := sc_sign_of
  exact (sss_cons (ss_if (st_cmp op_lt ro_lt (se_var 0) se_int (nomark _)) (sss_one (ss_ret (se_neg se_int))) sss_nil)
    (sss_cons (ss_if (st_cmp op_gt ro_gt (se_var 0) se_int (nomark _)) (sss_one (ss_ret se_int)) sss_nil)
    (sss_one (ss_ret se_int)))))
theorem ok_common_divisor (G : Gx P w K mg base) : FnOk P w K mg base (L2.CX P w) 2 G.f_common_divisor G.d_common_divisor ["one", "other"] (spV G.T 2 m_common_divisor) := fn_def G.F_common_divisor sc_common_divisor (fun cdv A outer s H E hr => by
  have hu := hr.units
  have S := sc_common_divisor
  exact (sss_cons (ss_while fuel_common_divisor (st_cmp (op_neD hu) ro_ne (se_var 1) se_int (nomark _)) (sss_one (ss_par 0 1 S.nd (sa_cons (se_var 1) (sa_cons (se_op op_modN ro_mod (se_var 0) (se_var 1)) sa_nil)))))
    (sss_one (ss_ret (se_b call_abs rc_abs rfl G.b_abs (by decide +kernel) (sa_cons (se_var 0) sa_nil))))))
theorem ok_is_fraction (G : Gx P w K mg base) : FnOk P w K mg base (L2.CX P w) 4 G.f_is_fraction G.d_is_fraction ["value"] (spV G.T 1 m_is_fraction) := fn_def G.F_is_fraction sc_is_fraction (fun cdv A outer s H E hr => by
  have hu := hr.units
  have S := sc_is_fraction
  exact (sss_one (ss_ret (se_and (se_call (can_ok (ok_is_whole_pair G) (hr.mono (by decide)) G.n_is_whole_pair) rfl G.g_is_whole_pair G.k_is_whole_pair (sa_cons (se_var 0) sa_nil)) (se_and (se_cmp op_ge ro_ge (se_ix (se_var 0) se_int) se_int (nomark _)) (se_one (se_cmp (op_eqD hu) ro_eq (se_call (can_ok (ok_common_divisor G) (hr.mono (by decide)) G.n_common_divisor) rfl G.g_common_divisor G.k_common_divisor (sa_cons (se_ix (se_var 0) se_int) (sa_cons (se_ix (se_var 0) se_int) sa_nil))) se_int (nomark _))))))))
theorem ok_require_fraction (G : Gx P w K mg base) : FnOk P w K mg base (L2.CX P w) 5 G.f_require_fraction G.d_require_fraction ["value"] (spV G.T 1 m_require_fraction) := fn_def G.F_require_fraction sc_require_fraction (fun cdv A outer s H E hr => by
  have hu := hr.units
  have S := sc_require_fraction
  exact (sss_one (ss_if (st_not (st_val (se_call (can_ok (ok_is_fraction G) (hr.mono (by decide)) G.n_is_fraction) rfl G.g_is_fraction G.k_is_fraction (sa_cons (se_var 0) sa_nil)))) (sss_one (ss_raiseH G.e_InvalidNumber G.v_InvalidNumber (hr.mono (by decide)) rfl (sa_cons (se_var 0) sa_nil))) sss_nil)))
theorem ok_is_slowness (G : Gx P w K mg base) : FnOk P w K mg base (L2.CX P w) 5 G.f_is_slowness G.d_is_slowness ["value"] (spV G.T 1 m_is_slowness) := fn_def G.F_is_slowness sc_is_slowness (fun cdv A outer s H E hr => by
  have hu := hr.units
  have S := sc_is_slowness
  exact (sss_one (ss_ret (se_and (se_call (can_ok (ok_is_fraction G) (hr.mono (by decide)) G.n_is_fraction) rfl G.g_is_fraction G.k_is_fraction (sa_cons (se_var 0) sa_nil)) (se_one (se_cmp op_ge ro_ge (se_ix (se_var 0) se_int) se_int (nomark _)))))))
theorem ok_fraction (G : Gx P w K mg base) : FnOk P w K mg base (L2.CX P w) 3 G.f_fraction G.d_fraction ["number", "divisor"] (spV G.T 2 m_fraction) := fn_def G.F_fraction sc_fraction (fun cdv A outer s H E hr => by
  have hu := hr.units
  have S := sc_fraction
  exact (sss_cons (ss_if (st_not (st_val (se_call (can_ok (ok_is_whole G) (hr.mono (by decide)) G.n_is_whole) rfl G.g_is_whole G.k_is_whole (sa_cons (se_var 0) sa_nil)))) (sss_one (ss_raiseH G.e_InvalidNumber G.v_InvalidNumber (hr.mono (by decide)) rfl (sa_cons (se_var 0) sa_nil))) sss_nil)
    (sss_cons (ss_if (st_w (sw_or (st_not (st_val (se_call (can_ok (ok_is_whole G) (hr.mono (by decide)) G.n_is_whole) rfl G.g_is_whole G.k_is_whole (sa_cons (se_var 1) sa_nil)))) (sw_or1 (st_cmp (op_eqD hu) ro_eq (se_var 1) se_int (nomark _))))) (sss_one (ss_raiseH G.e_InvalidNumber G.v_InvalidNumber (hr.mono (by decide)) rfl (sa_cons (se_var 1) sa_nil))) sss_nil)
    (sss_cons (ss_set 2 S.nd (se_call (can_ok (ok_common_divisor G) (hr.mono (by decide)) G.n_common_divisor) rfl G.g_common_divisor G.k_common_divisor (sa_cons (se_var 0) (sa_cons (se_var 1) sa_nil))))
    (sss_cons (ss_if (st_cmp op_lt ro_lt (se_var 1) se_int (nomark _)) (sss_one (ss_set 2 S.nd (se_neg (se_var 2)))) sss_nil)
    (sss_one (ss_ret (se_tup (sa_cons (se_op op_fdivG ro_div (se_var 0) (se_var 2)) (sa_cons (se_op op_fdivG ro_div (se_var 1) (se_var 2)) sa_nil))))))))))
theorem ok_order_of (G : Gx P w K mg base) : FnOk P w K mg base (L2.CX P w) 3 G.f_order_of G.d_order_of ["one", "other"] (spV G.T 2 m_order_of) := fn_def G.F_order_of sc_order_of (fun cdv A outer s H E hr => by
  have hu := hr.units
  have S := sc_order_of
  exact (sss_one (ss_ret (se_call (can_ok (ok_sign_of G) (hr.mono (by decide)) G.n_sign_of) rfl G.g_sign_of G.k_sign_of (sa_cons (se_op op_sub ro_sub (se_op op_mulA ro_mul (se_ix (se_var 0) se_int) (se_ix (se_var 1) se_int)) (se_op op_mulA ro_mul (se_ix (se_var 1) se_int) (se_ix (se_var 0) se_int))) sa_nil)))))
theorem ok_compared (G : Gx P w K mg base) : FnOk P w K mg base (L2.CX P w) 6 G.f_compared G.d_compared ["one", "other"] (spV G.T 2 m_compared) := fn_def G.F_compared sc_compared (fun cdv A outer s H E hr => by
  have hu := hr.units
  have S := sc_compared
  exact (sss_cons (ss_expr (se_call (can_ok (ok_require_fraction G) (hr.mono (by decide)) G.n_require_fraction) rfl G.g_require_fraction G.k_require_fraction (sa_cons (se_var 0) sa_nil)))
    (sss_cons (ss_expr (se_call (can_ok (ok_require_fraction G) (hr.mono (by decide)) G.n_require_fraction) rfl G.g_require_fraction G.k_require_fraction (sa_cons (se_var 1) sa_nil)))
    (sss_one (ss_ret (se_call (can_ok (ok_order_of G) (hr.mono (by decide)) G.n_order_of) rfl G.g_order_of G.k_order_of (sa_cons (se_var 0) (sa_cons (se_var 1) sa_nil))))))))
theorem ok_sum_of_two (G : Gx P w K mg base) : FnOk P w K mg base (L2.CX P w) 4 G.f_sum_of_two G.d_sum_of_two ["total", "each"] (spV G.T 2 m_sum_of_two) := fn_def G.F_sum_of_two sc_sum_of_two (fun cdv A outer s H E hr => by
  have hu := hr.units
  have S := sc_sum_of_two
  exact (sss_cons (ss_set 2 S.nd (se_call (can_ok (ok_common_divisor G) (hr.mono (by decide)) G.n_common_divisor) rfl G.g_common_divisor G.k_common_divisor (sa_cons (se_ix (se_var 0) se_int) (sa_cons (se_ix (se_var 1) se_int) sa_nil))))
    (sss_cons (ss_set 3 S.nd (se_op op_addA ro_add (se_op op_mulA ro_mul (se_ix (se_var 0) se_int) (se_op op_fdivG ro_div (se_ix (se_var 1) se_int) (se_var 2))) (se_op op_mulA ro_mul (se_ix (se_var 1) se_int) (se_op op_fdivG ro_div (se_ix (se_var 0) se_int) (se_var 2)))))
    (sss_cons (ss_set 4 S.nd (se_call (can_ok (ok_common_divisor G) (hr.mono (by decide)) G.n_common_divisor) rfl G.g_common_divisor G.k_common_divisor (sa_cons (se_var 3) (sa_cons (se_var 2) sa_nil))))
    (sss_one (ss_ret (se_tup (sa_cons (se_op op_fdivG ro_div (se_var 3) (se_var 4)) (sa_cons (se_op op_mulA ro_mul (se_op op_fdivG ro_div (se_ix (se_var 0) se_int) (se_var 2)) (se_op op_fdivG ro_div (se_ix (se_var 1) se_int) (se_var 4))) sa_nil)))))))))
theorem ok_total_of (G : Gx P w K mg base) : FnOk P w K mg base (L2.CX P w) 6 G.f_total_of G.d_total_of ["some"] (spV G.T 1 m_total_of) := fn_def G.F_total_of sc_total_of (fun cdv A outer s H E hr => by
  have hu := hr.units
  have S := sc_total_of
  exact (sss_cons (ss_if (st_not (st_val (se_b call_isi rc_isi rfl G.b_isinstance (by decide +kernel) (sa_cons (se_var 0) (sa_cons (se_ty rfl G.b_list (by decide +kernel)) sa_nil))))) (sss_one (ss_raiseH G.e_InvalidNumber G.v_InvalidNumber (hr.mono (by decide)) rfl (sa_cons (se_var 0) sa_nil))) sss_nil)
    (sss_cons (ss_set 1 S.nd (se_tup (sa_cons se_int (sa_cons se_int sa_nil))))
    (sss_cons (ss_for (si_seq (se_var 0)) (sg_name 2 S.nd) (sss_cons (ss_expr (se_call (can_ok (ok_require_fraction G) (hr.mono (by decide)) G.n_require_fraction) rfl G.g_require_fraction G.k_require_fraction (sa_cons (se_var 2) sa_nil)))
    (sss_one (ss_set 1 S.nd (se_call (can_ok (ok_sum_of_two G) (hr.mono (by decide)) G.n_sum_of_two) rfl G.g_sum_of_two G.k_sum_of_two (sa_cons (se_var 1) (sa_cons (se_var 2) sa_nil)))))))
    (sss_one (ss_ret (se_var 1)))))))
theorem ok_is_line (G : Gx P w K mg base) : FnOk P w K mg base (L2.CX P w) 4 G.f_is_line G.d_is_line ["value"] (spV G.T 1 m_is_line) := fn_def G.F_is_line sc_is_line (fun cdv A outer s H E hr => by
  have hu := hr.units
  have S := sc_is_line
  exact (sss_one (ss_ret (se_call (can_ok (ok_is_whole_pair G) (hr.mono (by decide)) G.n_is_whole_pair) rfl G.g_is_whole_pair G.k_is_whole_pair (sa_cons (se_var 0) sa_nil)))))
theorem ok_require_line (G : Gx P w K mg base) : FnOk P w K mg base (L2.CX P w) 5 G.f_require_line G.d_require_line ["value"] (spV G.T 1 m_require_line) := fn_def G.F_require_line sc_require_line (fun cdv A outer s H E hr => by
  have hu := hr.units
  have S := sc_require_line
  exact (sss_one (ss_if (st_not (st_val (se_call (can_ok (ok_is_line G) (hr.mono (by decide)) G.n_is_line) rfl G.g_is_line G.k_is_line (sa_cons (se_var 0) sa_nil)))) (sss_one (ss_raiseH G.e_InvalidNumber G.v_InvalidNumber (hr.mono (by decide)) rfl (sa_cons (se_var 0) sa_nil))) sss_nil)))
theorem ok_value_at (G : Gx P w K mg base) : FnOk P w K mg base (L2.CX P w) 7 G.f_value_at G.d_value_at ["line", "x"] (spV G.T 2 m_value_at) := fn_def G.F_value_at sc_value_at (fun cdv A outer s H E hr => by
  have hu := hr.units
  have S := sc_value_at
  exact (sss_cons (ss_expr (se_call (can_ok (ok_require_line G) (hr.mono (by decide)) G.n_require_line) rfl G.g_require_line G.k_require_line (sa_cons (se_var 0) sa_nil)))
    (sss_cons (ss_expr (se_call (can_ok (ok_require_fraction G) (hr.mono (by decide)) G.n_require_fraction) rfl G.g_require_fraction G.k_require_fraction (sa_cons (se_var 1) sa_nil)))
    (sss_one (ss_ret (se_call (can_ok (ok_fraction G) (hr.mono (by decide)) G.n_fraction) rfl G.g_fraction G.k_fraction (sa_cons (se_op op_addA ro_add (se_op op_mulA ro_mul (se_ix (se_var 0) se_int) (se_ix (se_var 1) se_int)) (se_op op_mulA ro_mul (se_ix (se_var 0) se_int) (se_ix (se_var 1) se_int))) (sa_cons (se_ix (se_var 1) se_int) sa_nil))))))))
theorem ok_is_tuple_of (G : Gx P w K mg base) : FnOk P w K mg base (L2.CX P w) 2 G.f_is_tuple_of G.d_is_tuple_of ["value", "word", "size"] (spV G.T 3 m_is_tuple_of) := fn_def G.F_is_tuple_of sc_is_tuple_of (fun cdv A outer s H E hr => by
  have hu := hr.units
  have S := sc_is_tuple_of
  exact (sss_cons (ss_if (st_w (sw_or (st_not (st_val (se_b call_isi rc_isi rfl G.b_isinstance (by decide +kernel) (sa_cons (se_var 0) (sa_cons (se_ty rfl G.b_tuple (by decide +kernel)) sa_nil))))) (sw_or1 (st_cmp (op_neD hu) ro_ne (se_b call_len rc_len rfl G.b_len PySem.boot_len (sa_cons (se_var 0) sa_nil)) (se_var 2) (nomark _))))) (sss_one (ss_ret se_bl)) sss_nil)
    (sss_one (ss_ret (se_and (se_b call_isi rc_isi rfl G.b_isinstance (by decide +kernel) (sa_cons (se_ix (se_var 0) se_int) (sa_cons (se_ty rfl G.b_str (by decide +kernel)) sa_nil))) (se_one (se_cmp (op_eqD hu) ro_eq (se_ix (se_var 0) se_int) (se_var 1) (nomark _))))))))
theorem ok_is_point (G : Gx P w K mg base) : FnOk P w K mg base (L2.CX P w) 5 G.f_is_point G.d_is_point ["value"] (spV G.T 1 m_is_point) := fn_def G.F_is_point sc_is_point (fun cdv A outer s H E hr => by
  have hu := hr.units
  have S := sc_is_point
  exact (sss_cons (ss_if (st_w (sw_or (st_not (st_val (se_call (can_ok (ok_is_tuple_of G) (hr.mono (by decide)) G.n_is_tuple_of) rfl G.g_is_tuple_of G.k_is_tuple_of (sa_cons (se_var 0) (sa_cons se_str (sa_cons se_int sa_nil)))))) (sw_or1 (st_not (st_val (se_call (can_ok (ok_is_fraction G) (hr.mono (by decide)) G.n_is_fraction) rfl G.g_is_fraction G.k_is_fraction (sa_cons (se_ix (se_var 0) se_int) sa_nil))))))) (sss_one (ss_ret se_bl)) sss_nil)
    (sss_one (ss_ret (se_or (se_cmp op_isA ro_is (se_ix (se_var 0) se_int) se_non (nomark _)) (se_one (se_call (can_ok (ok_is_fraction G) (hr.mono (by decide)) G.n_is_fraction) rfl G.g_is_fraction G.k_is_fraction (sa_cons (se_ix (se_var 0) se_int) sa_nil))))))))
theorem ok_is_gap (G : Gx P w K mg base) : FnOk P w K mg base (L2.CX P w) 5 G.f_is_gap G.d_is_gap ["value", "low"] (spV G.T 2 m_is_gap) := fn_def G.F_is_gap sc_is_gap (fun cdv A outer s H E hr => by
  have hu := hr.units
  have S := sc_is_gap
  exact (sss_cons (ss_if (st_w (sw_or (st_not (st_val (se_call (can_ok (ok_is_tuple_of G) (hr.mono (by decide)) G.n_is_tuple_of) rfl G.g_is_tuple_of G.k_is_tuple_of (sa_cons (se_var 0) (sa_cons se_str (sa_cons se_int sa_nil)))))) (sw_or (st_not (st_val (se_call (can_ok (ok_is_fraction G) (hr.mono (by decide)) G.n_is_fraction) rfl G.g_is_fraction G.k_is_fraction (sa_cons (se_ix (se_var 0) se_int) sa_nil)))) (sw_or1 (st_cmp (op_neD hu) ro_ne (se_ix (se_var 0) se_int) (se_var 1) (nomark _)))))) (sss_one (ss_ret se_bl)) sss_nil)
    (sss_cons (ss_if (st_w (sw_and (st_cmp op_isnotA ro_is (se_ix (se_var 0) se_int) se_non (nomark _)) (sw_and1 (st_w (sw_or (st_not (st_val (se_call (can_ok (ok_is_fraction G) (hr.mono (by decide)) G.n_is_fraction) rfl G.g_is_fraction G.k_is_fraction (sa_cons (se_ix (se_var 0) se_int) sa_nil)))) (sw_or1 (st_cmp op_ge ro_ge (se_call (can_ok (ok_order_of G) (hr.mono (by decide)) G.n_order_of) rfl G.g_order_of G.k_order_of (sa_cons (se_var 1) (sa_cons (se_ix (se_var 0) se_int) sa_nil))) se_int (nomark _)))))))) (sss_one (ss_ret se_bl)) sss_nil)
    (sss_one (ss_ret (se_or (se_cmp op_isA ro_is (se_ix (se_var 0) se_int) se_non (nomark _)) (se_one (se_call (can_ok (ok_is_line G) (hr.mono (by decide)) G.n_is_line) rfl G.g_is_line G.k_is_line (sa_cons (se_ix (se_var 0) se_int) sa_nil)))))))))
theorem ok_follows (G : Gx P w K mg base) : FnOk P w K mg base (L2.CX P w) 6 G.f_follows G.d_follows ["piece", "last", "index"] (spV G.T 3 m_follows) := fn_def G.F_follows sc_follows (fun cdv A outer s H E hr => by
  have hu := hr.units
  have S := sc_follows
  exact (sss_cons (ss_if (st_cmp (op_eqD hu) ro_eq (se_op op_modN ro_mod (se_var 2) se_int) se_int (nomark _)) (sss_one (ss_ret (se_call (can_ok (ok_is_gap G) (hr.mono (by decide)) G.n_is_gap) rfl G.g_is_gap G.k_is_gap (sa_cons (se_var 0) (sa_cons (se_ix (se_var 1) se_int) sa_nil))))) sss_nil)
    (sss_one (ss_ret (se_and (se_call (can_ok (ok_is_point G) (hr.mono (by decide)) G.n_is_point) rfl G.g_is_point G.k_is_point (sa_cons (se_var 0) sa_nil)) (se_one (se_cmp (op_eqD hu) ro_eq (se_ix (se_var 0) se_int) (se_ix (se_var 1) se_int) (nomark _))))))))
theorem ok_are_pieces (G : Gx P w K mg base) : FnOk P w K mg base (L2.CX P w) 7 G.f_are_pieces G.d_are_pieces ["value"] (spV G.T 1 m_are_pieces) := fn_def G.F_are_pieces sc_are_pieces (fun cdv A outer s H E hr => by
  have hu := hr.units
  have S := sc_are_pieces
  exact (sss_cons (ss_if (st_w (sw_or (st_not (st_val (se_b call_isi rc_isi rfl G.b_isinstance (by decide +kernel) (sa_cons (se_var 0) (sa_cons (se_ty rfl G.b_list (by decide +kernel)) sa_nil))))) (sw_or1 (st_cmp (op_eqD hu) ro_eq (se_b call_len rc_len rfl G.b_len PySem.boot_len (sa_cons (se_var 0) sa_nil)) se_int (nomark _))))) (sss_one (ss_ret se_bl)) sss_nil)
    (sss_cons (ss_if (st_w (sw_or (st_not (st_val (se_call (can_ok (ok_is_point G) (hr.mono (by decide)) G.n_is_point) rfl G.g_is_point G.k_is_point (sa_cons (se_ix (se_var 0) se_int) sa_nil)))) (sw_or1 (st_not (st_val (se_call (can_ok (ok_is_slowness G) (hr.mono (by decide)) G.n_is_slowness) rfl G.g_is_slowness G.k_is_slowness (sa_cons (se_ix (se_ix (se_var 0) se_int) se_int) sa_nil))))))) (sss_one (ss_ret se_bl)) sss_nil)
    (sss_cons (ss_for (si_range2 rfl G.b_range (sa_cons se_int (sa_cons (se_b call_len rc_len rfl G.b_len PySem.boot_len (sa_cons (se_var 0) sa_nil)) sa_nil)) (len_cons (len_cons len_nil))) (sg_name 1 S.nd) (sss_one (ss_if (st_not (st_val (se_call (can_ok (ok_follows G) (hr.mono (by decide)) G.n_follows) rfl G.g_follows G.k_follows (sa_cons (se_ix (se_var 0) (se_var 1)) (sa_cons (se_ix (se_var 0) (se_op op_sub ro_sub (se_var 1) se_int)) (sa_cons (se_var 1) sa_nil)))))) (sss_one (ss_ret se_bl)) sss_nil)))
    (sss_one (ss_ret (se_or (se_cmp (op_eqD hu) ro_eq (se_op op_modN ro_mod (se_b call_len rc_len rfl G.b_len PySem.boot_len (sa_cons (se_var 0) sa_nil)) se_int) se_int (nomark _)) (se_one (se_cmp op_isA ro_is (se_ix (se_ix (se_var 0) (se_neg se_int)) se_int) se_non (nomark _))))))))))
theorem ok_is_needless (G : Gx P w K mg base) : FnOk P w K mg base (L2.CX P w) 8 G.f_is_needless G.d_is_needless ["left", "point", "right"] (spV G.T 3 m_is_needless) := fn_def G.F_is_needless sc_is_needless (fun cdv A outer s H E hr => by
  have hu := hr.units
  have S := sc_is_needless
  exact (sss_cons (ss_if (st_cmp (op_neD hu) ro_ne (se_ix (se_var 0) se_int) (se_ix (se_var 2) se_int) (nomark _)) (sss_one (ss_ret se_bl)) sss_nil)
    (sss_cons (ss_if (st_w (sw_or (st_cmp op_isA ro_is (se_ix (se_var 0) se_int) se_non (nomark _)) (sw_or1 (st_cmp op_isA ro_is (se_ix (se_var 1) se_int) se_non (nomark _))))) (sss_one (ss_ret (se_and (se_cmp op_isA ro_is (se_ix (se_var 0) se_int) se_non (nomark _)) (se_one (se_cmp op_isA ro_is (se_ix (se_var 1) se_int) se_non (nomark _)))))) sss_nil)
    (sss_one (ss_ret (se_cmp (op_eqD hu) ro_eq (se_call (can_ok (ok_value_at G) (hr.mono (by decide)) G.n_value_at) rfl G.g_value_at G.k_value_at (sa_cons (se_ix (se_var 0) se_int) (sa_cons (se_ix (se_var 1) se_int) sa_nil))) (se_ix (se_var 1) se_int) (nomark _)))))))
theorem ok_shortest (G : Gx P w K mg base) : FnOk P w K mg base (L2.CX P w) 9 G.f_shortest G.d_shortest ["pieces"] (spV G.T 1 m_shortest) := fn_def G.F_shortest sc_shortest (fun cdv A outer s H E hr => by
  have hu := hr.units
  have S := sc_shortest
  exact (sss_cons (ss_set 1 S.nd (se_lst sa_nil))
    (sss_cons (ss_for (si_seq (se_var 0)) (sg_name 2 S.nd) (sss_one (ss_if (st_w (sw_and (st_cmp op_gt ro_gt (se_b call_len rc_len rfl G.b_len PySem.boot_len (sa_cons (se_var 1) sa_nil)) se_int (nomark _)) (sw_and (st_cmp (op_eqD hu) ro_eq (se_ix (se_var 2) se_int) se_str (nomark _)) (sw_and1 (st_val (se_call (can_ok (ok_is_needless G) (hr.mono (by decide)) G.n_is_needless) rfl G.g_is_needless G.k_is_needless (sa_cons (se_ix (se_var 1) (se_neg se_int)) (sa_cons (se_ix (se_var 1) (se_neg se_int)) (sa_cons (se_var 2) sa_nil))))))))) (sss_cons (ss_expr (se_pop (se_var 1)))
    (sss_cons (ss_set 3 S.nd (se_pop (se_var 1)))
    (sss_one (ss_expr (se_append (se_var 1) (se_tup (sa_cons se_str (sa_cons (se_ix (se_var 3) se_int) (sa_cons (se_ix (se_var 2) se_int) (sa_cons (se_ix (se_var 2) se_int) sa_nil)))))))))) (sss_one (ss_expr (se_append (se_var 1) (se_var 2)))))))
    (sss_one (ss_ret (se_var 1))))))
theorem ok_high_of (G : Gx P w K mg base) : FnOk P w K mg base (L2.CX P w) 2 G.f_high_of G.d_high_of ["pieces"] (spV G.T 1 m_high_of) := fn_def G.F_high_of sc_high_of (fun cdv A outer s H E hr => by
  have hu := hr.units
  have S := sc_high_of
  exact (sss_one (ss_ret (se_if (st_cmp (op_eqD hu) ro_eq (se_ix (se_ix (se_var 0) (se_neg se_int)) se_int) se_str (nomark _)) (se_ix (se_ix (se_var 0) (se_neg se_int)) se_int) se_non))))
theorem ok_points_of (G : Gx P w K mg base) : FnOk P w K mg base (L2.CX P w) 2 G.f_points_of G.d_points_of ["pieces"] (spV G.T 1 m_points_of) := fn_def G.F_points_of sc_points_of (fun cdv A outer s H E hr => by
  have hu := hr.units
  have S := sc_points_of
  exact (sss_one (ss_ret (se_lcIf 1 S.nd (si_seq (se_var 0)) (blkOk_by (own := [("piece", 1)]) (N := ["pieces", "piece"]) (sc := defScope s_points_of) (by decide +kernel)) (fun _ _ _ _ _ => pg_name (i := 1) S.nd rfl (Or.inl rfl)) (fun _ _ _ _ _ => (st_cmp (op_eqD hu) ro_eq (se_ix (se_var 1) se_int) se_str (nomark _))) (fun _ _ _ _ _ => (se_ix (se_var 1) se_int))))))
theorem ok_index_of (G : Gx P w K mg base) : FnOk P w K mg base (L2.CX P w) 5 G.f_index_of G.d_index_of ["pieces", "x"] (spV G.T 2 m_index_of) := fn_def G.F_index_of sc_index_of (fun cdv A outer s H E hr => by
  have hu := hr.units
  have S := sc_index_of
  exact (sss_cons (ss_par 2 3 S.nd (sa_cons se_int (sa_cons (se_op op_fdivG ro_div (se_op op_sub ro_sub (se_b call_len rc_len rfl G.b_len PySem.boot_len (sa_cons (se_var 0) sa_nil)) se_int) se_int) sa_nil)))
    (sss_cons (ss_while fuel_index_of (st_cmp op_lt ro_lt (se_var 2) (se_var 3) (nomark _)) (sss_cons (ss_set 4 S.nd (se_op op_fdivG ro_div (se_op op_addA ro_add (se_op op_addA ro_add (se_var 2) (se_var 3)) se_int) se_int))
    (sss_one (ss_if (st_cmp op_le ro_le (se_call (can_ok (ok_order_of G) (hr.mono (by decide)) G.n_order_of) rfl G.g_order_of G.k_order_of (sa_cons (se_ix (se_ix (se_var 0) (se_op op_mulA ro_mul se_int (se_var 4))) se_int) (sa_cons (se_var 1) sa_nil))) se_int (nomark _)) (sss_one (ss_set 2 S.nd (se_var 4))) (sss_one (ss_set 3 S.nd (se_op op_sub ro_sub (se_var 4) se_int)))))))
    (sss_one (ss_ret (se_if (st_cmp (op_eqD hu) ro_eq (se_ix (se_ix (se_var 0) (se_op op_mulA ro_mul se_int (se_var 2))) se_int) (se_var 1) (nomark _)) (se_op op_mulA ro_mul se_int (se_var 2)) (se_op op_addA ro_add (se_op op_mulA ro_mul se_int (se_var 2)) se_int)))))))
theorem ok_value_or_none (G : Gx P w K mg base) : FnOk P w K mg base (L2.CX P w) 8 G.f_value_or_none G.d_value_or_none ["line", "x"] (spV G.T 2 m_value_or_none) := fn_def G.F_value_or_none sc_value_or_none (fun cdv A outer s H E hr => by
  have hu := hr.units
  have S := sc_value_or_none
  exact (sss_one (ss_ret (se_if (st_cmp op_isA ro_is (se_var 0) se_non (nomark _)) se_non (se_call (can_ok (ok_value_at G) (hr.mono (by decide)) G.n_value_at) rfl G.g_value_at G.k_value_at (sa_cons (se_var 0) (sa_cons (se_var 1) sa_nil)))))))
theorem ok_time_at (G : Gx P w K mg base) : FnOk P w K mg base (L2.CX P w) 9 G.f_time_at G.d_time_at ["pieces", "x"] (spV G.T 2 m_time_at) := fn_def G.F_time_at sc_time_at (fun cdv A outer s H E hr => by
  have hu := hr.units
  have S := sc_time_at
  exact (sss_cons (ss_set 2 S.nd (se_ix (se_var 0) (se_call (can_ok (ok_index_of G) (hr.mono (by decide)) G.n_index_of) rfl G.g_index_of G.k_index_of (sa_cons (se_var 0) (sa_cons (se_var 1) sa_nil)))))
    (sss_one (ss_ret (se_if (st_cmp (op_eqD hu) ro_eq (se_ix (se_var 2) se_int) se_str (nomark _)) (se_ix (se_var 2) se_int) (se_call (can_ok (ok_value_or_none G) (hr.mono (by decide)) G.n_value_or_none) rfl G.g_value_or_none G.k_value_or_none (sa_cons (se_ix (se_var 2) se_int) (sa_cons (se_var 1) sa_nil))))))))
theorem ok_line_after (G : Gx P w K mg base) : FnOk P w K mg base (L2.CX P w) 7 G.f_line_after G.d_line_after ["pieces", "x"] (spV G.T 2 m_line_after) := fn_def G.F_line_after sc_line_after (fun cdv A outer s H E hr => by
  have hu := hr.units
  have S := sc_line_after
  exact (sss_cons (ss_set 2 S.nd (se_call (can_ok (ok_index_of G) (hr.mono (by decide)) G.n_index_of) rfl G.g_index_of G.k_index_of (sa_cons (se_var 0) (sa_cons (se_var 1) sa_nil))))
    (sss_one (ss_ret (se_if (st_cmp (op_eqD hu) ro_eq (se_op op_modN ro_mod (se_var 2) se_int) se_int (nomark _)) (se_ix (se_ix (se_var 0) (se_op op_addA ro_add (se_var 2) se_int)) se_int) (se_ix (se_ix (se_var 0) (se_var 2)) se_int))))))
theorem ok_pair_sum (G : Gx P w K mg base) : FnOk P w K mg base (L2.CX P w) 8 G.f_pair_sum G.d_pair_sum ["piece"] (spV G.T 1 m_pair_sum) := fn_def G.F_pair_sum sc_pair_sum (fun cdv A outer s H E hr => by
  have hu := hr.units
  have S := sc_pair_sum
  exact (sss_cons (ss_par 1 2 S.nd (sa_cons (se_ix (se_var 0) (se_neg se_int)) (sa_cons (se_ix (se_var 0) (se_neg se_int)) sa_nil)))
    (sss_cons (ss_if (st_w (sw_or (st_cmp op_isA ro_is (se_var 1) se_non (nomark _)) (sw_or1 (st_cmp op_isA ro_is (se_var 2) se_non (nomark _))))) (sss_one (ss_ret se_non)) sss_nil)
    (sss_one (ss_ret (se_if (st_cmp (op_eqD hu) ro_eq (se_ix (se_var 0) se_int) se_str (nomark _)) (se_call (can_ok (ok_total_of G) (hr.mono (by decide)) G.n_total_of) rfl G.g_total_of G.k_total_of (sa_cons (se_lst (sa_cons (se_var 1) (sa_cons (se_var 2) sa_nil))) sa_nil)) (se_tup (sa_cons (se_op op_addA ro_add (se_ix (se_var 1) se_int) (se_ix (se_var 2) se_int)) (sa_cons (se_op op_addA ro_add (se_ix (se_var 1) se_int) (se_ix (se_var 2) se_int)) sa_nil)))))))))
theorem ok_paired (G : Gx P w K mg base) : FnOk P w K mg base (L2.CX P w) 10 G.f_paired G.d_paired ["one", "other", "points"] (spV G.T 3 m_paired) := fn_def G.F_paired sc_paired (fun cdv A outer s H E hr => by
  have hu := hr.units
  have S := sc_paired
  exact (sss_cons (ss_set 3 S.nd (se_lst sa_nil))
    (sss_cons (ss_set 4 S.nd (se_lst (sa_star (se_sliceA (se_var 2) (so_some se_int) so_none) (sa_cons se_non sa_nil))))
    (sss_cons (ss_for (si_zip rfl G.b_zip (sa_cons (se_var 2) (sa_cons (se_var 4) sa_nil))) (sg_seq (sgs_cons (sg_name 5 S.nd) (sgs_cons (sg_name 6 S.nd) sgs_nil))) (sss_cons (ss_expr (se_append (se_var 3) (se_tup (sa_cons se_str (sa_cons (se_var 5) (sa_cons (se_call (can_ok (ok_time_at G) (hr.mono (by decide)) G.n_time_at) rfl G.g_time_at G.k_time_at (sa_cons (se_var 0) (sa_cons (se_var 5) sa_nil))) (sa_cons (se_call (can_ok (ok_time_at G) (hr.mono (by decide)) G.n_time_at) rfl G.g_time_at G.k_time_at (sa_cons (se_var 1) (sa_cons (se_var 5) sa_nil))) sa_nil)))))))
    (sss_one (ss_if (st_w (sw_or (st_cmp op_isnotA ro_is (se_var 6) se_non (nomark _)) (sw_or1 (st_cmp op_isA ro_is (se_call (can_ok (ok_high_of G) (hr.mono (by decide)) G.n_high_of) rfl G.g_high_of G.k_high_of (sa_cons (se_var 0) sa_nil)) se_non (nomark _))))) (sss_one (ss_expr (se_append (se_var 3) (se_tup (sa_cons se_str (sa_cons (se_var 5) (sa_cons (se_var 6) (sa_cons (se_call (can_ok (ok_line_after G) (hr.mono (by decide)) G.n_line_after) rfl G.g_line_after G.k_line_after (sa_cons (se_var 0) (sa_cons (se_var 5) sa_nil))) (sa_cons (se_call (can_ok (ok_line_after G) (hr.mono (by decide)) G.n_line_after) rfl G.g_line_after G.k_line_after (sa_cons (se_var 1) (sa_cons (se_var 5) sa_nil))) sa_nil))))))))) sss_nil))))
    (sss_one (ss_ret (se_var 3)))))))
theorem ok_next_order (G : Gx P w K mg base) : FnOk P w K mg base (L2.CX P w) 4 G.f_next_order G.d_next_order ["one", "other", "first", "second"] (spV G.T 4 m_next_order) := fn_def G.F_next_order sc_next_order (fun cdv A outer s H E hr => by
  have hu := hr.units
  have S := sc_next_order
  exact (sss_cons (ss_if (st_cmp (op_eqD hu) ro_eq (se_var 2) (se_b call_len rc_len rfl G.b_len PySem.boot_len (sa_cons (se_var 0) sa_nil)) (nomark _)) (sss_one (ss_ret se_int)) sss_nil)
    (sss_cons (ss_if (st_cmp (op_eqD hu) ro_eq (se_var 3) (se_b call_len rc_len rfl G.b_len PySem.boot_len (sa_cons (se_var 1) sa_nil)) (nomark _)) (sss_one (ss_ret (se_neg se_int))) sss_nil)
    (sss_one (ss_ret (se_call (can_ok (ok_order_of G) (hr.mono (by decide)) G.n_order_of) rfl G.g_order_of G.k_order_of (sa_cons (se_ix (se_var 0) (se_var 2)) (sa_cons (se_ix (se_var 1) (se_var 3)) sa_nil))))))))
theorem ok_merged (G : Gx P w K mg base) : FnOk P w K mg base (L2.CX P w) 5 G.f_merged G.d_merged ["one", "other"] (spV G.T 2 m_merged) := fn_def G.F_merged sc_merged (fun cdv A outer s H E hr => by
  have hu := hr.units
  have S := sc_merged
  exact (sss_cons (ss_set 2 S.nd (se_lst sa_nil))
    (sss_cons (ss_set 3 S.nd se_int)
    (sss_cons (ss_set 4 S.nd se_int)
    (sss_cons (ss_while fuel_merged (st_w (sw_or (st_cmp op_lt ro_lt (se_var 3) (se_b call_len rc_len rfl G.b_len PySem.boot_len (sa_cons (se_var 0) sa_nil)) (nomark _)) (sw_or1 (st_cmp op_lt ro_lt (se_var 4) (se_b call_len rc_len rfl G.b_len PySem.boot_len (sa_cons (se_var 1) sa_nil)) (nomark _))))) (sss_cons (ss_set 5 S.nd (se_call (can_ok (ok_next_order G) (hr.mono (by decide)) G.n_next_order) rfl G.g_next_order G.k_next_order (sa_cons (se_var 0) (sa_cons (se_var 1) (sa_cons (se_var 3) (sa_cons (se_var 4) sa_nil))))))
    (sss_cons (ss_expr (se_append (se_var 2) (se_if (st_cmp op_le ro_le (se_var 5) se_int (nomark _)) (se_ix (se_var 0) (se_var 3)) (se_ix (se_var 1) (se_var 4)))))
    (sss_cons (ss_if (st_cmp op_le ro_le (se_var 5) se_int (nomark _)) (sss_one (ss_iadd 3 S.nd se_int)) sss_nil)
    (sss_one (ss_if (st_cmp op_ge ro_ge (se_var 5) se_int (nomark _)) (sss_one (ss_iadd 4 S.nd se_int)) sss_nil))))))
    (sss_one (ss_ret (se_var 2))))))))
theorem ok_sums (G : Gx P w K mg base) : FnOk P w K mg base (L2.CX P w) 11 G.f_sums G.d_sums ["one", "other"] (spV G.T 2 m_sums) := fn_def G.F_sums sc_sums (fun cdv A outer s H E hr => by
  have hu := hr.units
  have S := sc_sums
  exact (sss_cons (ss_set 2 S.nd (se_lst sa_nil))
    (sss_cons (ss_for (si_seq (se_call (can_ok (ok_paired G) (hr.mono (by decide)) G.n_paired) rfl G.g_paired G.k_paired (sa_cons (se_var 0) (sa_cons (se_var 1) (sa_cons (se_call (can_ok (ok_merged G) (hr.mono (by decide)) G.n_merged) rfl G.g_merged G.k_merged (sa_cons (se_call (can_ok (ok_points_of G) (hr.mono (by decide)) G.n_points_of) rfl G.g_points_of G.k_points_of (sa_cons (se_var 0) sa_nil)) (sa_cons (se_call (can_ok (ok_points_of G) (hr.mono (by decide)) G.n_points_of) rfl G.g_points_of G.k_points_of (sa_cons (se_var 1) sa_nil)) sa_nil))) sa_nil))))) (sg_name 3 S.nd) (sss_one (ss_expr (se_append (se_var 2) (se_tup (sa_star (se_sliceA (se_var 3) so_none (so_some (se_neg se_int))) (sa_cons (se_call (can_ok (ok_pair_sum G) (hr.mono (by decide)) G.n_pair_sum) rfl G.g_pair_sum G.k_pair_sum (sa_cons (se_var 3) sa_nil)) sa_nil)))))))
    (sss_one (ss_ret (se_var 2))))))
theorem ok_points_with_sides (G : Gx P w K mg base) : FnOk P w K mg base (L2.CX P w) 10 G.f_points_with_sides G.d_points_with_sides ["pieces"] (spV G.T 1 m_points_with_sides) := fn_def G.F_points_with_sides sc_points_with_sides (fun cdv A outer s H E hr => by
  have hu := hr.units
  have S := sc_points_with_sides
  exact (sss_cons (ss_set 1 S.nd (se_lst sa_nil))
    (sss_cons (ss_for (si_range3 rfl G.b_range (sa_cons se_int (sa_cons (se_b call_len rc_len rfl G.b_len PySem.boot_len (sa_cons (se_var 0) sa_nil)) (sa_cons se_int sa_nil)))) (sg_name 2 S.nd) (sss_cons (ss_set 3 S.nd (se_ix (se_ix (se_var 0) (se_var 2)) se_int))
    (sss_cons (ss_set 4 S.nd (se_if (st_cmp op_gt ro_gt (se_var 2) se_int (nomark _)) (se_call (can_ok (ok_value_or_none G) (hr.mono (by decide)) G.n_value_or_none) rfl G.g_value_or_none G.k_value_or_none (sa_cons (se_ix (se_ix (se_var 0) (se_op op_sub ro_sub (se_var 2) se_int)) se_int) (sa_cons (se_var 3) sa_nil))) se_non))
    (sss_cons (ss_set 5 S.nd (se_if (st_cmp op_lt ro_lt (se_op op_addA ro_add (se_var 2) se_int) (se_b call_len rc_len rfl G.b_len PySem.boot_len (sa_cons (se_var 0) sa_nil)) (nomark _)) (se_call (can_ok (ok_value_or_none G) (hr.mono (by decide)) G.n_value_or_none) rfl G.g_value_or_none G.k_value_or_none (sa_cons (se_ix (se_ix (se_var 0) (se_op op_addA ro_add (se_var 2) se_int)) se_int) (sa_cons (se_var 3) sa_nil))) se_non))
    (sss_one (ss_expr (se_append (se_var 1) (se_tup (sa_cons (se_var 3) (sa_cons (se_var 4) (sa_cons (se_ix (se_ix (se_var 0) (se_var 2)) se_int) (sa_cons (se_var 5) sa_nil))))))))))))
    (sss_one (ss_ret (se_var 1))))))
theorem ok_is_drop (G : Gx P w K mg base) : FnOk P w K mg base (L2.CX P w) 7 G.f_is_drop G.d_is_drop ["one", "other"] (spV G.T 2 m_is_drop) := fn_def G.F_is_drop sc_is_drop (fun cdv A outer s H E hr => by
  have hu := hr.units
  have S := sc_is_drop
  exact (sss_one (ss_ret (se_and (se_cmp op_isnotA ro_is (se_var 0) se_non (nomark _)) (se_and (se_cmp op_isnotA ro_is (se_var 1) se_non (nomark _)) (se_one (se_cmp op_gt ro_gt (se_call (can_ok (ok_compared G) (hr.mono (by decide)) G.n_compared) rfl G.g_compared G.k_compared (sa_cons (se_var 0) (sa_cons (se_var 1) sa_nil))) se_int (nomark _))))))))
theorem ok_is_jump_down (G : Gx P w K mg base) : FnOk P w K mg base (L2.CX P w) 8 G.f_is_jump_down G.d_is_jump_down ["before", "time", "after"] (spV G.T 3 m_is_jump_down) := fn_def G.F_is_jump_down sc_is_jump_down (fun cdv A outer s H E hr => by
  have hu := hr.units
  have S := sc_is_jump_down
  exact (sss_cons (ss_if (st_cmp op_isA ro_is (se_var 1) se_non (nomark _)) (sss_one (ss_ret (se_call (can_ok (ok_is_drop G) (hr.mono (by decide)) G.n_is_drop) rfl G.g_is_drop G.k_is_drop (sa_cons (se_var 0) (sa_cons (se_var 2) sa_nil))))) sss_nil)
    (sss_one (ss_ret (se_or (se_call (can_ok (ok_is_drop G) (hr.mono (by decide)) G.n_is_drop) rfl G.g_is_drop G.k_is_drop (sa_cons (se_var 0) (sa_cons (se_var 1) sa_nil))) (se_one (se_call (can_ok (ok_is_drop G) (hr.mono (by decide)) G.n_is_drop) rfl G.g_is_drop G.k_is_drop (sa_cons (se_var 1) (sa_cons (se_var 2) sa_nil)))))))))
theorem ok_Shape_init (G : Gx P w K mg base) : FnOk P w K mg base (L2.CX P w) 11 G.f_Shape_init G.d_Shape_init ["self", "pieces"] (spV G.T 2 m_Shape_init) := fn_def G.F_Shape_init sc_Shape_init (fun cdv A outer s H E hr => by
  have hu := hr.units
  have S := sc_Shape_init
  exact (sss_cons (ss_if (st_not (st_val (se_call (can_ok (ok_are_pieces G) (hr.mono (by decide)) G.n_are_pieces) rfl G.g_are_pieces G.k_are_pieces (sa_cons (se_var 1) sa_nil)))) (sss_one (ss_raiseH G.e_InvalidShape G.v_InvalidShape (hr.mono (by decide)) rfl (sa_cons (se_var 1) sa_nil))) sss_nil)
    (sss_one (ss_putF G.v_Shape G.cls_Shape G.na_Shape_rows (se_var 0) (se_call (can_ok (ok_shortest G) (hr.mono (by decide)) G.n_shortest) rfl G.g_shortest G.k_shortest (sa_cons (se_var 1) sa_nil))))))
theorem Gx.mk_Shape (G : Gx P w K mg base) : MkV G.T P w K mg base 11 "Shape" "S" G.c.Shape 1 m_Shape_init := ⟨G.v_Shape, G.mg_Shape, G.f_Shape_init, G.d_Shape_init, ["self", "pieces"], G.mkc_Shape, rfl, ok_Shape_init G, G.n_Shape_init⟩
theorem ok_Shape_pieces (G : Gx P w K mg base) : FnOk P w K mg base (L2.CX P w) 2 G.f_Shape_pieces G.d_Shape_pieces ["self"] (spV G.T 1 m_Shape_pieces) := fn_def G.F_Shape_pieces sc_Shape_pieces (fun cdv A outer s H E hr => by
  have hu := hr.units
  have S := sc_Shape_pieces
  exact (sss_one (ss_ret (se_bt call_list_of rc_listOf rfl G.b_list (by decide +kernel) (sa_cons (se_fld G.v_Shape G.cls_Shape G.na_Shape_rows (se_var 0)) sa_nil)))))
theorem ok_Shape_low (G : Gx P w K mg base) : FnOk P w K mg base (L2.CX P w) 3 G.f_Shape_low G.d_Shape_low ["self"] (spV G.T 1 m_Shape_low) := fn_def G.F_Shape_low sc_Shape_low (fun cdv A outer s H E hr => by
  have hu := hr.units
  have S := sc_Shape_low
  exact (sss_one (ss_ret (se_ix (se_ix (se_fld G.v_Shape G.cls_Shape G.na_Shape_rows (se_var 0)) se_int) se_int))))
theorem ok_Shape_high (G : Gx P w K mg base) : FnOk P w K mg base (L2.CX P w) 4 G.f_Shape_high G.d_Shape_high ["self"] (spV G.T 1 m_Shape_high) := fn_def G.F_Shape_high sc_Shape_high (fun cdv A outer s H E hr => by
  have hu := hr.units
  have S := sc_Shape_high
  exact (sss_one (ss_ret (se_call (can_ok (ok_high_of G) (hr.mono (by decide)) G.n_high_of) rfl G.g_high_of G.k_high_of (sa_cons (se_fld G.v_Shape G.cls_Shape G.na_Shape_rows (se_var 0)) sa_nil)))))
theorem ok_Shape_require_same_range (G : Gx P w K mg base) : FnOk P w K mg base (L2.CX P w) 6 G.f_Shape_require_same_range G.d_Shape_require_same_range ["self", "other"] (spV G.T 2 m_Shape_require_same_range) := fn_def G.F_Shape_require_same_range sc_Shape_require_same_range (fun cdv A outer s H E hr => by
  have hu := hr.units
  have S := sc_Shape_require_same_range
  exact (sss_one (ss_if (st_w (sw_or (st_not (st_val (se_iso G.iso_Shape G.kt_Shape rfl G.b_isinstance (se_var 1) (pe_glob (v := .ref G.c.Shape) rfl G.mg_Shape rfl)))) (sw_or (st_cmp (op_neD hu) ro_ne (se_prop G.v_Shape G.cls_Shape G.pr_Shape_low (ok_Shape_low G) (hr.mono (by decide)) G.n_Shape_low passF (se_var 0)) (se_prop G.v_Shape G.cls_Shape G.pr_Shape_low (ok_Shape_low G) (hr.mono (by decide)) G.n_Shape_low passF (se_var 1)) (nomark _)) (sw_or1 (st_cmp (op_neD hu) ro_ne (se_prop G.v_Shape G.cls_Shape G.pr_Shape_high (ok_Shape_high G) (hr.mono (by decide)) G.n_Shape_high passF (se_var 0)) (se_prop G.v_Shape G.cls_Shape G.pr_Shape_high (ok_Shape_high G) (hr.mono (by decide)) G.n_Shape_high passF (se_var 1)) (nomark _)))))) (sss_one (ss_raiseH G.e_InvalidShape G.v_InvalidShape (hr.mono (by decide)) rfl (sa_cons (se_var 1) sa_nil))) sss_nil)))
theorem ok_Shape_add (G : Gx P w K mg base) : FnOk P w K mg base (L2.CX P w) 13 G.f_Shape_add G.d_Shape_add ["self", "other"] (spV G.T 2 m_Shape_add) := fn_def G.F_Shape_add sc_Shape_add (fun cdv A outer s H E hr => by
  have hu := hr.units
  have S := sc_Shape_add
  exact (sss_cons (ss_expr (se_meth (can_ok (ok_Shape_require_same_range G) (hr.mono (by decide)) G.n_Shape_require_same_range) G.v_Shape G.cls_Shape G.me_Shape_require_same_range (se_var 0) (sa_cons (se_var 1) sa_nil)))
    (sss_one (ss_ret (se_make G.mk_Shape (hr.mono (by decide)) rfl (sa_cons (se_call (can_ok (ok_sums G) (hr.mono (by decide)) G.n_sums) rfl G.g_sums G.k_sums (sa_cons (se_fld G.v_Shape G.cls_Shape G.na_Shape_rows (se_var 0)) (sa_cons (se_fld G.v_Shape G.cls_Shape G.na_Shape_rows (se_var 1)) sa_nil))) sa_nil))))))
theorem ok_Shape_falls (G : Gx P w K mg base) : FnOk P w K mg base (L2.CX P w) 11 G.f_Shape_falls G.d_Shape_falls ["self"] (spV G.T 1 m_Shape_falls) := fn_def G.F_Shape_falls sc_Shape_falls (fun cdv A outer s H E hr => by
  have hu := hr.units
  have S := sc_Shape_falls
  exact (sss_one (ss_ret (se_lcIf 1 S.nd (si_seq (se_call (can_ok (ok_points_with_sides G) (hr.mono (by decide)) G.n_points_with_sides) rfl G.g_points_with_sides G.k_points_with_sides (sa_cons (se_fld G.v_Shape G.cls_Shape G.na_Shape_rows (se_var 0)) sa_nil))) (blkOk_by (own := [("row", 1)]) (N := ["self", "row"]) (sc := defScope s_Shape_falls) (by decide +kernel)) (fun _ _ _ _ _ => pg_name (i := 1) S.nd rfl (Or.inl rfl)) (fun _ _ _ _ _ => (st_val (se_call (can_ok (ok_is_jump_down G) (hr.mono (by decide)) G.n_is_jump_down) rfl G.g_is_jump_down G.k_is_jump_down (sa_cons (se_ix (se_var 1) se_int) (sa_cons (se_ix (se_var 1) se_int) (sa_cons (se_ix (se_var 1) se_int) sa_nil)))))) (fun _ _ _ _ _ => (se_var 1))))))
theorem ok__law_numbers (G : Gx P w K mg base) : FnOk P w K mg base (L2.CX P w) 15 G.f__law_numbers G.d__law_numbers ["_law_cell", "_law_salt", "_law_sizes"] (spV G.T 3 m__law_numbers) := fn_def G.F__law_numbers sc__law_numbers (fun cdv A outer s H E hr => by
  have hu := hr.units
  have S := sc__law_numbers
  exact (sss_cons (ss_set 3 S.nd (se_b (call_max2 rfl) rc_max rfl G.b_max (by decide +kernel) (sa_cons (se_var 0) (sa_cons (se_op op_sub ro_sub (se_neg se_int) (se_var 0)) sa_nil))))
    (sss_cons (ss_set 4 S.nd (se_var 3))
    (sss_cons (ss_set 5 S.nd (se_lst sa_nil))
    (sss_cons (ss_for (si_range1 rfl G.b_range (sa_cons (se_b call_len rc_len rfl G.b_len PySem.boot_len (sa_cons (se_var 2) sa_nil)) sa_nil) (len_cons len_nil)) (sg_name 6 S.nd) (sss_one (ss_if (st_w (sw_and (st_cmp op_ge ro_ge (se_var 3) (se_op op_pow ro_pow se_int se_int) (nomark _)) (sw_and1 (st_cmp op_gt ro_gt (se_var 4) se_int (nomark _))))) (sss_cons (ss_expr (se_append (se_var 5) (se_op op_modN ro_mod (se_var 4) (se_ix (se_var 2) (se_var 6)))))
    (sss_one (ss_set 4 S.nd (se_op op_fdivG ro_div (se_var 4) (se_ix (se_var 2) (se_var 6)))))) (sss_cons (ss_set 7 S.nd (se_op op_modN ro_mod (se_op op_pow ro_pow (se_op op_addA ro_add (se_op op_addA ro_add (se_op op_modN ro_mod (se_var 3) se_int) (se_op op_mulA ro_mul se_int (se_var 1))) se_int) se_int) se_int))
    (sss_cons (ss_set 7 S.nd (se_op op_modN ro_mod (se_op op_mulA ro_mul (se_op op_addA ro_add (se_var 7) (se_op op_mulA ro_mul se_int (se_op op_addA ro_add (se_var 6) se_int))) (se_op op_addA ro_add (se_var 6) se_int)) se_int))
    (sss_cons (ss_set 7 S.nd (se_op op_modN ro_mod (se_op op_mulA ro_mul (se_op op_modN ro_mod (se_op op_pow ro_pow (se_var 7) se_int) se_int) se_int) se_int))
    (sss_one (ss_expr (se_append (se_var 5) (se_op op_modN ro_mod (se_op op_fdivG ro_div (se_var 7) se_int) (se_ix (se_var 2) (se_var 6))))))))))))
    (sss_one (ss_ret (se_var 5))))))))
theorem ok__law_fraction (G : Gx P w K mg base) : FnOk P w K mg base (L2.CX P w) 2 G.f__law_fraction G.d__law_fraction ["_law_number", "_law_divisor"] (spV G.T 2 m__law_fraction) := fn_def G.F__law_fraction sc__law_fraction (fun cdv A outer s H E hr => by
  have hu := hr.units
  have S := sc__law_fraction
  exact (sss_cons (ss_par 2 3 S.nd (sa_cons (se_b (call_max2 rfl) rc_max rfl G.b_max (by decide +kernel) (sa_cons (se_var 0) (sa_cons (se_neg (se_var 0)) sa_nil))) (sa_cons (se_var 1) sa_nil)))
    (sss_cons (ss_while fuel__law_fraction (st_cmp op_gt ro_gt (se_var 2) se_int (nomark _)) (sss_one (ss_par 2 3 S.nd (sa_cons (se_op op_modN ro_mod (se_var 3) (se_var 2)) (sa_cons (se_var 2) sa_nil)))))
    (sss_one (ss_ret (se_tup (sa_cons (se_op op_fdivG ro_div (se_var 0) (se_var 3)) (sa_cons (se_op op_fdivG ro_div (se_var 1) (se_var 3)) sa_nil))))))))
theorem ok__law_line (G : Gx P w K mg base) : FnOk P w K mg base (L2.CX P w) 2 G.f__law_line G.d__law_line ["_law_digits"] (spV G.T 1 m__law_line) := fn_def G.F__law_line sc__law_line (fun cdv A outer s H E hr => by
  have hu := hr.units
  have S := sc__law_line
  exact (sss_one (ss_ret (se_tup (sa_cons (se_op op_sub ro_sub (se_op op_modN ro_mod (se_bt call_int1 rc_int rfl G.b_int (by decide +kernel) (sa_cons (se_ix (se_var 0) se_int) sa_nil)) se_int) se_int) (sa_cons (se_ix (se_lst (sa_cons (se_op op_sub ro_sub (se_op op_modN ro_mod (se_bt call_int1 rc_int rfl G.b_int (by decide +kernel) (sa_cons (se_ix (se_var 0) se_int) sa_nil)) se_int) se_int) (sa_cons (se_op op_sub ro_sub (se_ix (se_var 0) se_int) se_int) sa_nil))) (se_op op_modN ro_mod (se_bt call_int1 rc_int rfl G.b_int (by decide +kernel) (sa_cons (se_op op_fdivG ro_div (se_ix (se_var 0) se_int) se_int) sa_nil)) se_int)) sa_nil))))))
theorem ok__law_value (G : Gx P w K mg base) : FnOk P w K mg base (L2.CX P w) 15 G.f__law_value G.d__law_value ["_law_line_here", "_law_x"] (spV G.T 2 m__law_value) := fn_def G.F__law_value sc__law_value (fun cdv A outer s H E hr => by
  have hu := hr.units
  have S := sc__law_value
  exact (sss_cons (ss_if (st_cmp op_isA ro_is (se_var 0) se_non (nomark _)) (sss_one (ss_ret se_non)) sss_nil)
    (sss_one (ss_ret (se_call (can_ok (ok__law_fraction G) (hr.mono (by decide)) G.n__law_fraction) rfl G.g__law_fraction G.k__law_fraction (sa_cons (se_op op_addA ro_add (se_op op_mulA ro_mul (se_ix (se_var 0) se_int) (se_ix (se_var 1) se_int)) (se_op op_mulA ro_mul (se_ix (se_var 0) se_int) (se_ix (se_var 1) se_int))) (sa_cons (se_ix (se_var 1) se_int) sa_nil)))))))
theorem ok__law_points (G : Gx P w K mg base) : FnOk P w K mg base (L2.CX P w) 15 G.f__law_points G.d__law_points ["_law_digits"] (spV G.T 1 m__law_points) := fn_def G.F__law_points sc__law_points (fun cdv A outer s H E hr => by
  have hu := hr.units
  have S := sc__law_points
  exact (sss_cons (ss_par 1 2 S.nd (sa_cons (se_lst sa_nil) (sa_cons (se_tup (sa_cons (se_op op_modN ro_mod (se_bt call_int1 rc_int rfl G.b_int (by decide +kernel) (sa_cons (se_ix (se_var 0) se_int) sa_nil)) se_int) (sa_cons se_int sa_nil))) sa_nil)))
    (sss_cons (ss_for (si_seq (se_slice (se_var 0) (so_some se_int) so_none)) (sg_name 3 S.nd) (sss_cons (ss_expr (se_append (se_var 1) (se_var 2)))
    (sss_cons (ss_set 4 S.nd (se_op op_addA ro_add se_int (se_op op_modN ro_mod (se_bt call_int1 rc_int rfl G.b_int (by decide +kernel) (sa_cons (se_var 3) sa_nil)) se_int)))
    (sss_one (ss_set 2 S.nd (se_call (can_ok (ok__law_fraction G) (hr.mono (by decide)) G.n__law_fraction) rfl G.g__law_fraction G.k__law_fraction (sa_cons (se_op op_addA ro_add (se_op op_mulA ro_mul (se_ix (se_var 2) se_int) (se_var 4)) (se_op op_mulA ro_mul (se_ix (se_var 2) se_int) (se_op op_addA ro_add se_int (se_op op_modN ro_mod (se_bt call_int1 rc_int rfl G.b_int (by decide +kernel) (sa_cons (se_op op_fdivG ro_div (se_var 3) se_int) sa_nil)) se_int)))) (sa_cons (se_op op_mulA ro_mul (se_ix (se_var 2) se_int) (se_var 4)) sa_nil))))))))
    (sss_one (ss_ret (se_var 1))))))
theorem ok__law_pieces (G : Gx P w K mg base) : FnOk P w K mg base (L2.CX P w) 17 G.f__law_pieces G.d__law_pieces ["_law_digits"] (spV G.T 1 m__law_pieces) := fn_def G.F__law_pieces sc__law_pieces (fun cdv A outer s H E hr => by
  have hu := hr.units
  have S := sc__law_pieces
  exact (sss_cons (ss_set 1 S.nd (se_call (can_ok (ok__law_points G) (hr.mono (by decide)) G.n__law_points) rfl G.g__law_points G.k__law_points (sa_cons (se_slice (se_var 0) so_none (so_some (se_op op_addA ro_add se_int (se_op op_modN ro_mod (se_bt call_int1 rc_int rfl G.b_int (by decide +kernel) (sa_cons (se_op op_fdivG ro_div (se_ix (se_var 0) se_int) se_int) sa_nil)) se_int)))) sa_nil)))
    (sss_cons (ss_par 2 3 S.nd (sa_cons (se_lst sa_nil) (sa_cons (se_op op_modN ro_mod (se_bt call_int1 rc_int rfl G.b_int (by decide +kernel) (sa_cons (se_op op_fdivG ro_div (se_ix (se_var 0) se_int) se_int) sa_nil)) se_int) sa_nil)))
    (sss_cons (ss_for (si_enum rfl G.b_enumerate (sa_cons (se_var 1) sa_nil)) (sg_seq (sgs_cons (sg_name 4 S.nd) (sgs_cons (sg_name 5 S.nd) sgs_nil))) (sss_cons (ss_set 6 S.nd (se_slice (se_var 0) (so_some (se_op op_addA ro_add se_int (se_op op_mulA ro_mul se_int (se_var 4)))) (so_some (se_op op_addA ro_add se_int (se_op op_mulA ro_mul se_int (se_var 4))))))
    (sss_cons (ss_set 7 S.nd (se_if (st_cmp op_gt ro_gt (se_op op_modN ro_mod (se_bt call_int1 rc_int rfl G.b_int (by decide +kernel) (sa_cons (se_ix (se_var 6) se_int) sa_nil)) se_int) se_int (nomark _)) (se_call (can_ok (ok__law_line G) (hr.mono (by decide)) G.n__law_line) rfl G.g__law_line G.k__law_line (sa_cons (se_var 6) sa_nil)) se_non))
    (sss_cons (ss_set 8 S.nd (se_tup (sa_cons (se_op op_modN ro_mod (se_bt call_int1 rc_int rfl G.b_int (by decide +kernel) (sa_cons (se_ix (se_var 6) se_int) sa_nil)) se_int) (sa_cons (se_op op_addA ro_add se_int (se_op op_modN ro_mod (se_bt call_int1 rc_int rfl G.b_int (by decide +kernel) (sa_cons (se_op op_fdivG ro_div (se_ix (se_var 6) se_int) se_int) sa_nil)) se_int)) sa_nil))))
    (sss_cons (ss_set 9 S.nd (se_ix (se_lst (sa_cons (se_call (can_ok (ok__law_value G) (hr.mono (by decide)) G.n__law_value) rfl G.g__law_value G.k__law_value (sa_cons (se_var 7) (sa_cons (se_var 5) sa_nil))) (sa_cons se_non (sa_cons (se_var 8) sa_nil)))) (se_ix (se_lst (sa_cons se_int (sa_cons se_int (sa_cons se_int (sa_cons se_int (sa_cons se_int (sa_cons se_int sa_nil))))))) (se_op op_modN ro_mod (se_bt call_int1 rc_int rfl G.b_int (by decide +kernel) (sa_cons (se_ix (se_var 6) se_int) sa_nil)) se_int))))
    (sss_cons (ss_set 9 S.nd (se_if (st_cmp op_isA ro_is (se_var 9) se_non (nomark _)) se_non (se_call (can_ok (ok__law_fraction G) (hr.mono (by decide)) G.n__law_fraction) rfl G.g__law_fraction G.k__law_fraction (sa_cons (se_ix (se_var 9) se_int) (sa_cons (se_ix (se_var 9) se_int) sa_nil)))))
    (sss_cons (ss_if (st_w (sw_and (st_cmp (op_eqD hu) ro_eq (se_op op_modN ro_mod (se_bt call_int1 rc_int rfl G.b_int (by decide +kernel) (sa_cons (se_op op_fdivG ro_div (se_ix (se_var 6) se_int) se_int) sa_nil)) se_int) se_int (nomark _)) (sw_and1 (st_cmp (op_neD hu) ro_ne (se_var 2) (se_lst sa_nil) (nomark _))))) (sss_cons (ss_set 9 S.nd (se_call (can_ok (ok__law_value G) (hr.mono (by decide)) G.n__law_value) rfl G.g__law_value G.k__law_value (sa_cons (se_ix (se_ix (se_var 2) (se_neg se_int)) se_int) (sa_cons (se_var 5) sa_nil))))
    (sss_one (ss_set 7 S.nd (se_if (st_cmp (op_eqD hu) ro_eq (se_op op_modN ro_mod (se_bt call_int1 rc_int rfl G.b_int (by decide +kernel) (sa_cons (se_op op_fdivG ro_div (se_ix (se_var 6) se_int) se_int) sa_nil)) se_int) se_int (nomark _)) (se_ix (se_ix (se_var 2) (se_neg se_int)) se_int) (se_var 7))))) sss_nil)
    (sss_cons (ss_expr (se_append (se_var 2) (se_tup (sa_cons se_str (sa_cons (se_var 5) (sa_cons (se_var 9) sa_nil))))))
    (sss_one (ss_if (st_w (sw_or (st_cmp op_lt ro_lt (se_op op_addA ro_add (se_var 4) se_int) (se_b call_len rc_len rfl G.b_len PySem.boot_len (sa_cons (se_var 1) sa_nil)) (nomark _)) (sw_or1 (st_cmp (op_eqD hu) ro_eq (se_var 3) se_int (nomark _))))) (sss_one (ss_expr (se_append (se_var 2) (se_tup (sa_cons se_str (sa_cons (se_var 5) (sa_cons (se_if (st_cmp op_lt ro_lt (se_op op_addA ro_add (se_var 4) se_int) (se_b call_len rc_len rfl G.b_len PySem.boot_len (sa_cons (se_var 1) sa_nil)) (nomark _)) (se_ix (se_var 1) (se_op op_addA ro_add (se_var 4) se_int)) se_non) (sa_cons (se_var 7) sa_nil)))))))) sss_nil))))))))))
    (sss_one (ss_ret (se_var 2)))))))
theorem ok__law_less (G : Gx P w K mg base) : FnOk P w K mg base (L2.CX P w) 2 G.f__law_less G.d__law_less ["_law_one", "_law_other"] (spV G.T 2 m__law_less) := fn_def G.F__law_less sc__law_less (fun cdv A outer s H E hr => by
  have hu := hr.units
  have S := sc__law_less
  exact (sss_one (ss_ret (se_cmp op_lt ro_lt (se_op op_mulA ro_mul (se_ix (se_var 0) se_int) (se_ix (se_var 1) se_int)) (se_op op_mulA ro_mul (se_ix (se_var 1) se_int) (se_ix (se_var 0) se_int)) (nomark _)))))
theorem ok__law_greater (G : Gx P w K mg base) : FnOk P w K mg base (L2.CX P w) 3 G.f__law_greater G.d__law_greater ["_law_one", "_law_other"] (spV G.T 2 m__law_greater) := fn_def G.F__law_greater sc__law_greater (fun cdv A outer s H E hr => by
  have hu := hr.units
  have S := sc__law_greater
  exact (sss_one (ss_ret (se_and (se_cmp op_isnotA ro_is (se_var 0) se_non (nomark _)) (se_and (se_cmp op_isnotA ro_is (se_var 1) se_non (nomark _)) (se_one (se_call (can_ok (ok__law_less G) (hr.mono (by decide)) G.n__law_less) rfl G.g__law_less G.k__law_less (sa_cons (se_var 1) (sa_cons (se_var 0) sa_nil)))))))))
theorem ok__law_due (G : Gx P w K mg base) : FnOk P w K mg base (L2.CX P w) 17 G.f__law_due G.d__law_due ["_law_pieces_here"] (spV G.T 1 m__law_due) := fn_def G.F__law_due sc__law_due (fun cdv A outer s H E hr => by
  have hu := hr.units
  have S := sc__law_due
  exact (sss_cons (ss_set 1 S.nd (se_lst sa_nil))
    (sss_cons (ss_for (si_enum rfl G.b_enumerate (sa_cons (se_var 0) sa_nil)) (sg_seq (sgs_cons (sg_name 2 S.nd) (sgs_cons (sg_name 3 S.nd) sgs_nil))) (sss_one (ss_if (st_cmp (op_eqD hu) ro_eq (se_ix (se_var 3) se_int) se_str (nomark _)) (sss_cons (ss_set 4 S.nd (se_if (st_cmp op_gt ro_gt (se_var 2) se_int (nomark _)) (se_call (can_ok (ok__law_value G) (hr.mono (by decide)) G.n__law_value) rfl G.g__law_value G.k__law_value (sa_cons (se_ix (se_ix (se_var 0) (se_op op_sub ro_sub (se_var 2) se_int)) se_int) (sa_cons (se_ix (se_var 3) se_int) sa_nil))) se_non))
    (sss_cons (ss_set 5 S.nd (se_if (st_cmp op_lt ro_lt (se_op op_addA ro_add (se_var 2) se_int) (se_b call_len rc_len rfl G.b_len PySem.boot_len (sa_cons (se_var 0) sa_nil)) (nomark _)) (se_call (can_ok (ok__law_value G) (hr.mono (by decide)) G.n__law_value) rfl G.g__law_value G.k__law_value (sa_cons (se_ix (se_ix (se_var 0) (se_op op_addA ro_add (se_var 2) se_int)) se_int) (sa_cons (se_ix (se_var 3) se_int) sa_nil))) se_non))
    (sss_cons (ss_set 6 S.nd (se_and (se_cmp op_isA ro_is (se_ix (se_var 3) se_int) se_non (nomark _)) (se_one (se_call (can_ok (ok__law_greater G) (hr.mono (by decide)) G.n__law_greater) rfl G.g__law_greater G.k__law_greater (sa_cons (se_var 4) (sa_cons (se_var 5) sa_nil))))))
    (sss_one (ss_if (st_w (sw_or (st_val (se_call (can_ok (ok__law_greater G) (hr.mono (by decide)) G.n__law_greater) rfl G.g__law_greater G.k__law_greater (sa_cons (se_var 4) (sa_cons (se_ix (se_var 3) se_int) sa_nil)))) (sw_or (st_val (se_call (can_ok (ok__law_greater G) (hr.mono (by decide)) G.n__law_greater) rfl G.g__law_greater G.k__law_greater (sa_cons (se_ix (se_var 3) se_int) (sa_cons (se_var 5) sa_nil)))) (sw_or1 (st_val (se_var 6)))))) (sss_one (ss_expr (se_append (se_var 1) (se_tup (sa_cons (se_ix (se_var 3) se_int) (sa_cons (se_var 4) (sa_cons (se_ix (se_var 3) se_int) (sa_cons (se_var 5) sa_nil)))))))) sss_nil))))) sss_nil)))
    (sss_one (ss_ret (se_var 1))))))
theorem ok_law (G : Gx P w K mg base) : FnG P w K mg base G.T 19 G.f_law 1 m_law := fn_defG G.F_law sc_law G.n_law (fun cdv A outer s H E hr hgd => by
  have hu := hr.units
  have S := sc_law
  exact (sss_cons (ss_for (si_enum rfl G.b_enumerate (sa_cons (se_op op_addA ro_add (se_slice (se_var 0) so_none (so_some se_int)) (se_op op_mulA ro_mul (se_lst (sa_cons se_int sa_nil)) (se_bt call_int1 rc_int rfl G.b_int (by decide +kernel) (sa_cons (se_cmp (op_eqD hu) ro_eq (se_var 0) (se_lst sa_nil) (nomark _)) sa_nil)))) sa_nil)) (sg_seq (sgs_cons (sg_name 1 S.nd) (sgs_cons (sg_name 2 S.nd) sgs_nil))) (sss_local [1, 2] trivial (sss_cons (ss_set 3 S.nd (se_call (can_ok (ok__law_numbers G) (hr.mono (by decide)) G.n__law_numbers) rfl G.g__law_numbers G.k__law_numbers (sa_cons (se_var 2) (sa_cons (se_op op_addA ro_add se_int (se_var 1)) (sa_cons (se_op op_mulA ro_mul (se_lst (sa_cons se_int sa_nil)) se_int) sa_nil)))))
    (sss_one (ss_for (si_seq (se_lst (sa_cons (se_var 3) (sa_cons (se_slice (se_var 3) (so_some se_int) so_none) (sa_cons (se_slice (se_var 3) (so_some se_int) so_none) sa_nil))))) (sg_name 4 S.nd) (sss_cons (ss_set 5 S.nd (se_call (can_ok (ok__law_pieces G) (hr.mono (by decide)) G.n__law_pieces) rfl G.g__law_pieces G.k__law_pieces (sa_cons (se_var 4) sa_nil)))
    (sss_cons (ss_set 6 S.nd (se_make G.mk_Shape (hr.mono (by decide)) rfl (sa_cons (se_var 5) sa_nil)))
    (sss_cons (ss_set 7 S.nd (se_meth0 (can_ok (ok_Shape_falls G) (hr.mono (by decide)) G.n_Shape_falls) G.v_Shape G.cls_Shape G.me_Shape_falls (se_var 6)))
    (sss_cons (ss_if (st_cmp (op_neD hu) ro_ne (se_var 7) (se_call (can_ok (ok__law_due G) (hr.mono (by decide)) G.n__law_due) rfl G.g__law_due G.k__law_due (sa_cons (se_var 5) sa_nil)) (nomark _)) (sss_one (ss_ret se_bl)) sss_nil)
    (sss_cons (ss_expr (se_append (se_var 7) se_non))
    (sss_one (ss_if (st_w (sw_or (st_cmp (op_neD hu) ro_ne (se_meth0 (can_ok (ok_Shape_falls G) (hr.mono (by decide)) G.n_Shape_falls) G.v_Shape G.cls_Shape G.me_Shape_falls (se_var 6)) (se_call (can_ok (ok__law_due G) (hr.mono (by decide)) G.n__law_due) rfl G.g__law_due G.k__law_due (sa_cons (se_var 5) sa_nil)) (nomark _)) (sw_or1 (st_cmp (op_neD hu) ro_ne (se_meth0 (can_ok (ok_Shape_falls G) (hr.mono (by decide)) G.n_Shape_falls) G.v_Shape G.cls_Shape G.me_Shape_falls (se_ownB (can_ok (ok_Shape_add G) (hr.mono (by decide)) G.n_Shape_add) G.v_Shape G.sf_Shape G.ho_Shape_add G.hof_Shape_add (se_var 6) (se_var 6))) (se_call (can_ok (ok__law_due G) (hr.mono (by decide)) G.n__law_due) rfl G.g__law_due G.k__law_due (sa_cons (se_meth0 (can_ok (ok_Shape_pieces G) (hr.mono (by decide)) G.n_Shape_pieces) G.v_Shape G.cls_Shape G.me_Shape_pieces (se_ownB (can_ok (ok_Shape_add G) (hr.mono (by decide)) G.n_Shape_add) G.v_Shape G.sf_Shape G.ho_Shape_add G.hof_Shape_add (se_var 6) (se_var 6))) sa_nil)) (nomark _))))) (sss_one (ss_ret se_bl)) sss_nil))))))))))))
    (sss_one (ss_ret se_bl))))
end
end K34
end
section
namespace K34
open PySem PySem.Spec PyProof.Rows L2 VL
def tysB (f : String → Bool) : Bool := tyNs.all f
theorem tys_of {f : String → Bool} (h : tysB f = true) : ∀ t ∈ tyNs, f t = true := fun t ht => List.all_eq_true.mp h t ht
abbrev s_init_InvalidShape : Stmt := inClass (top 4) 0
theorem sc_init_InvalidShape : FnScope ["self", "value"] ["self", "value"] (defScope s_init_InvalidShape) := ⟨rfl, rfl, rfl, by decide +kernel, rfl, by decide +kernel, by decide +kernel⟩
theorem ok_init_InvalidShape {P : Program} {w : World} {K : PySem.W.Frag} {mg : Str → Option Value} {base : Heap} {f C : Addr} {fd : FuncData} (F : Fun K "__init__" "InvalidShape.__init__" s_init_InvalidShape f fd) (T : OexH K C) (no : PySem.W.findIn K (.ref C) "value" = some none) : FnOk P w K mg base CX0 1 f fd ["self", "value"] (spInit K C "value") := by
  refine F.ok sc_init_InvalidShape (fun vs H Q E h => ?_) (fun cdv A outer s H vs Q E hr h => ?_)
  · obtain ⟨a, v, rfl, _⟩ := h
    rfl
  · obtain ⟨a, v, rfl, ha, k⟩ := h
    exact ⟨_, pss_one (ps_ostH (pv 0) (pv 1)), _, rfl, _, rfl, a, C, rfl, T, no, ha, fun dx hd ne => k dx hd ne⟩
abbrev s_init_InvalidNumber : Stmt := inClass (top 5) 0
theorem sc_init_InvalidNumber : FnScope ["self", "value"] ["self", "value"] (defScope s_init_InvalidNumber) := ⟨rfl, rfl, rfl, by decide +kernel, rfl, by decide +kernel, by decide +kernel⟩
theorem ok_init_InvalidNumber {P : Program} {w : World} {K : PySem.W.Frag} {mg : Str → Option Value} {base : Heap} {f C : Addr} {fd : FuncData} (F : Fun K "__init__" "InvalidNumber.__init__" s_init_InvalidNumber f fd) (T : OexH K C) (no : PySem.W.findIn K (.ref C) "value" = some none) : FnOk P w K mg base CX0 1 f fd ["self", "value"] (spInit K C "value") := by
  refine F.ok sc_init_InvalidNumber (fun vs H Q E h => ?_) (fun cdv A outer s H vs Q E hr h => ?_)
  · obtain ⟨a, v, rfl, _⟩ := h
    rfl
  · obtain ⟨a, v, rfl, ha, k⟩ := h
    exact ⟨_, pss_one (ps_ostH (pv 0) (pv 1)), _, rfl, _, rfl, a, C, rfl, T, no, ha, fun dx hd ne => k dx hd ne⟩
theorem mk {w : World} {K : PySem.W.Frag} {h : Heap} {mg : Str → Option Value} {fa : Addr} (X : K.In h) (G : h.Ns mainGlobals mg) (hfa : mg "law" = some (.ref fa)) (true_ : ∀ (ns : List Int), ns.length ≤ 63 → (∀ z ∈ ns, Builtin.Int.intBits z ≤ 1048576) → ∃ h', m_law [.ref 0] [.rol (ns.map W.int)] = .val (.bl true) h')
    {C_Shape : Addr}
    {f_xiswhole : Addr} {od_xiswhole an_xiswhole : Option Addr} {sl_xiswhole : Array (Option Value)} {oc_xiswhole kV_xiswhole dc_xiswhole pm_xiswhole ct_xiswhole cd_xiswhole : Value}
    {f_xiswholepair : Addr} {od_xiswholepair an_xiswholepair : Option Addr} {sl_xiswholepair : Array (Option Value)} {oc_xiswholepair kV_xiswholepair dc_xiswholepair pm_xiswholepair ct_xiswholepair cd_xiswholepair : Value}
    {f_xsignof : Addr} {od_xsignof an_xsignof : Option Addr} {sl_xsignof : Array (Option Value)} {oc_xsignof kV_xsignof dc_xsignof pm_xsignof ct_xsignof cd_xsignof : Value}
    {f_xcommondivisor : Addr} {od_xcommondivisor an_xcommondivisor : Option Addr} {sl_xcommondivisor : Array (Option Value)} {oc_xcommondivisor kV_xcommondivisor dc_xcommondivisor pm_xcommondivisor ct_xcommondivisor cd_xcommondivisor : Value}
    {f_xisfraction : Addr} {od_xisfraction an_xisfraction : Option Addr} {sl_xisfraction : Array (Option Value)} {oc_xisfraction kV_xisfraction dc_xisfraction pm_xisfraction ct_xisfraction cd_xisfraction : Value}
    {f_xrequirefraction : Addr} {od_xrequirefraction an_xrequirefraction : Option Addr} {sl_xrequirefraction : Array (Option Value)} {oc_xrequirefraction kV_xrequirefraction dc_xrequirefraction pm_xrequirefraction ct_xrequirefraction cd_xrequirefraction : Value}
    {f_xisslowness : Addr} {od_xisslowness an_xisslowness : Option Addr} {sl_xisslowness : Array (Option Value)} {oc_xisslowness kV_xisslowness dc_xisslowness pm_xisslowness ct_xisslowness cd_xisslowness : Value}
    {f_xfraction : Addr} {od_xfraction an_xfraction : Option Addr} {sl_xfraction : Array (Option Value)} {oc_xfraction kV_xfraction dc_xfraction pm_xfraction ct_xfraction cd_xfraction : Value}
    {f_xorderof : Addr} {od_xorderof an_xorderof : Option Addr} {sl_xorderof : Array (Option Value)} {oc_xorderof kV_xorderof dc_xorderof pm_xorderof ct_xorderof cd_xorderof : Value}
    {f_xcompared : Addr} {od_xcompared an_xcompared : Option Addr} {sl_xcompared : Array (Option Value)} {oc_xcompared kV_xcompared dc_xcompared pm_xcompared ct_xcompared cd_xcompared : Value}
    {f_xsumoftwo : Addr} {od_xsumoftwo an_xsumoftwo : Option Addr} {sl_xsumoftwo : Array (Option Value)} {oc_xsumoftwo kV_xsumoftwo dc_xsumoftwo pm_xsumoftwo ct_xsumoftwo cd_xsumoftwo : Value}
    {f_xtotalof : Addr} {od_xtotalof an_xtotalof : Option Addr} {sl_xtotalof : Array (Option Value)} {oc_xtotalof kV_xtotalof dc_xtotalof pm_xtotalof ct_xtotalof cd_xtotalof : Value}
    {f_xisline : Addr} {od_xisline an_xisline : Option Addr} {sl_xisline : Array (Option Value)} {oc_xisline kV_xisline dc_xisline pm_xisline ct_xisline cd_xisline : Value}
    {f_xrequireline : Addr} {od_xrequireline an_xrequireline : Option Addr} {sl_xrequireline : Array (Option Value)} {oc_xrequireline kV_xrequireline dc_xrequireline pm_xrequireline ct_xrequireline cd_xrequireline : Value}
    {f_xvalueat : Addr} {od_xvalueat an_xvalueat : Option Addr} {sl_xvalueat : Array (Option Value)} {oc_xvalueat kV_xvalueat dc_xvalueat pm_xvalueat ct_xvalueat cd_xvalueat : Value}
    {f_xistupleof : Addr} {od_xistupleof an_xistupleof : Option Addr} {sl_xistupleof : Array (Option Value)} {oc_xistupleof kV_xistupleof dc_xistupleof pm_xistupleof ct_xistupleof cd_xistupleof : Value}
    {f_xispoint : Addr} {od_xispoint an_xispoint : Option Addr} {sl_xispoint : Array (Option Value)} {oc_xispoint kV_xispoint dc_xispoint pm_xispoint ct_xispoint cd_xispoint : Value}
    {f_xisgap : Addr} {od_xisgap an_xisgap : Option Addr} {sl_xisgap : Array (Option Value)} {oc_xisgap kV_xisgap dc_xisgap pm_xisgap ct_xisgap cd_xisgap : Value}
    {f_xfollows : Addr} {od_xfollows an_xfollows : Option Addr} {sl_xfollows : Array (Option Value)} {oc_xfollows kV_xfollows dc_xfollows pm_xfollows ct_xfollows cd_xfollows : Value}
    {f_xarepieces : Addr} {od_xarepieces an_xarepieces : Option Addr} {sl_xarepieces : Array (Option Value)} {oc_xarepieces kV_xarepieces dc_xarepieces pm_xarepieces ct_xarepieces cd_xarepieces : Value}
    {f_xisneedless : Addr} {od_xisneedless an_xisneedless : Option Addr} {sl_xisneedless : Array (Option Value)} {oc_xisneedless kV_xisneedless dc_xisneedless pm_xisneedless ct_xisneedless cd_xisneedless : Value}
    {f_xshortest : Addr} {od_xshortest an_xshortest : Option Addr} {sl_xshortest : Array (Option Value)} {oc_xshortest kV_xshortest dc_xshortest pm_xshortest ct_xshortest cd_xshortest : Value}
    {f_xhighof : Addr} {od_xhighof an_xhighof : Option Addr} {sl_xhighof : Array (Option Value)} {oc_xhighof kV_xhighof dc_xhighof pm_xhighof ct_xhighof cd_xhighof : Value}
    {f_xpointsof : Addr} {od_xpointsof an_xpointsof : Option Addr} {sl_xpointsof : Array (Option Value)} {oc_xpointsof kV_xpointsof dc_xpointsof pm_xpointsof ct_xpointsof cd_xpointsof : Value}
    {f_xindexof : Addr} {od_xindexof an_xindexof : Option Addr} {sl_xindexof : Array (Option Value)} {oc_xindexof kV_xindexof dc_xindexof pm_xindexof ct_xindexof cd_xindexof : Value}
    {f_xvalueornone : Addr} {od_xvalueornone an_xvalueornone : Option Addr} {sl_xvalueornone : Array (Option Value)} {oc_xvalueornone kV_xvalueornone dc_xvalueornone pm_xvalueornone ct_xvalueornone cd_xvalueornone : Value}
    {f_xtimeat : Addr} {od_xtimeat an_xtimeat : Option Addr} {sl_xtimeat : Array (Option Value)} {oc_xtimeat kV_xtimeat dc_xtimeat pm_xtimeat ct_xtimeat cd_xtimeat : Value}
    {f_xlineafter : Addr} {od_xlineafter an_xlineafter : Option Addr} {sl_xlineafter : Array (Option Value)} {oc_xlineafter kV_xlineafter dc_xlineafter pm_xlineafter ct_xlineafter cd_xlineafter : Value}
    {f_xpairsum : Addr} {od_xpairsum an_xpairsum : Option Addr} {sl_xpairsum : Array (Option Value)} {oc_xpairsum kV_xpairsum dc_xpairsum pm_xpairsum ct_xpairsum cd_xpairsum : Value}
    {f_xpaired : Addr} {od_xpaired an_xpaired : Option Addr} {sl_xpaired : Array (Option Value)} {oc_xpaired kV_xpaired dc_xpaired pm_xpaired ct_xpaired cd_xpaired : Value}
    {f_xnextorder : Addr} {od_xnextorder an_xnextorder : Option Addr} {sl_xnextorder : Array (Option Value)} {oc_xnextorder kV_xnextorder dc_xnextorder pm_xnextorder ct_xnextorder cd_xnextorder : Value}
    {f_xmerged : Addr} {od_xmerged an_xmerged : Option Addr} {sl_xmerged : Array (Option Value)} {oc_xmerged kV_xmerged dc_xmerged pm_xmerged ct_xmerged cd_xmerged : Value}
    {f_xsums : Addr} {od_xsums an_xsums : Option Addr} {sl_xsums : Array (Option Value)} {oc_xsums kV_xsums dc_xsums pm_xsums ct_xsums cd_xsums : Value}
    {f_xpointswithsides : Addr} {od_xpointswithsides an_xpointswithsides : Option Addr} {sl_xpointswithsides : Array (Option Value)} {oc_xpointswithsides kV_xpointswithsides dc_xpointswithsides pm_xpointswithsides ct_xpointswithsides cd_xpointswithsides : Value}
    {f_xisdrop : Addr} {od_xisdrop an_xisdrop : Option Addr} {sl_xisdrop : Array (Option Value)} {oc_xisdrop kV_xisdrop dc_xisdrop pm_xisdrop ct_xisdrop cd_xisdrop : Value}
    {f_xisjumpdown : Addr} {od_xisjumpdown an_xisjumpdown : Option Addr} {sl_xisjumpdown : Array (Option Value)} {oc_xisjumpdown kV_xisjumpdown dc_xisjumpdown pm_xisjumpdown ct_xisjumpdown cd_xisjumpdown : Value}
    {f_xShapeinit : Addr} {od_xShapeinit an_xShapeinit : Option Addr} {sl_xShapeinit : Array (Option Value)} {oc_xShapeinit kV_xShapeinit dc_xShapeinit pm_xShapeinit ct_xShapeinit cd_xShapeinit : Value}
    {f_xShapepieces : Addr} {od_xShapepieces an_xShapepieces : Option Addr} {sl_xShapepieces : Array (Option Value)} {oc_xShapepieces kV_xShapepieces dc_xShapepieces pm_xShapepieces ct_xShapepieces cd_xShapepieces : Value}
    {f_xShapelow : Addr} {od_xShapelow an_xShapelow : Option Addr} {sl_xShapelow : Array (Option Value)} {oc_xShapelow kV_xShapelow dc_xShapelow pm_xShapelow ct_xShapelow cd_xShapelow : Value}
    {pa_xShapelow : Addr} {re_xShapelow : List Value}
    {f_xShapehigh : Addr} {od_xShapehigh an_xShapehigh : Option Addr} {sl_xShapehigh : Array (Option Value)} {oc_xShapehigh kV_xShapehigh dc_xShapehigh pm_xShapehigh ct_xShapehigh cd_xShapehigh : Value}
    {pa_xShapehigh : Addr} {re_xShapehigh : List Value}
    {f_xShaperequiresamerange : Addr} {od_xShaperequiresamerange an_xShaperequiresamerange : Option Addr} {sl_xShaperequiresamerange : Array (Option Value)} {oc_xShaperequiresamerange kV_xShaperequiresamerange dc_xShaperequiresamerange pm_xShaperequiresamerange ct_xShaperequiresamerange cd_xShaperequiresamerange : Value}
    {f_xShapeadd : Addr} {od_xShapeadd an_xShapeadd : Option Addr} {sl_xShapeadd : Array (Option Value)} {oc_xShapeadd kV_xShapeadd dc_xShapeadd pm_xShapeadd ct_xShapeadd cd_xShapeadd : Value}
    {f_xShapefalls : Addr} {od_xShapefalls an_xShapefalls : Option Addr} {sl_xShapefalls : Array (Option Value)} {oc_xShapefalls kV_xShapefalls dc_xShapefalls pm_xShapefalls ct_xShapefalls cd_xShapefalls : Value}
    {f_xlawnumbers : Addr} {od_xlawnumbers an_xlawnumbers : Option Addr} {sl_xlawnumbers : Array (Option Value)} {oc_xlawnumbers kV_xlawnumbers dc_xlawnumbers pm_xlawnumbers ct_xlawnumbers cd_xlawnumbers : Value}
    {f_xlawfraction : Addr} {od_xlawfraction an_xlawfraction : Option Addr} {sl_xlawfraction : Array (Option Value)} {oc_xlawfraction kV_xlawfraction dc_xlawfraction pm_xlawfraction ct_xlawfraction cd_xlawfraction : Value}
    {f_xlawline : Addr} {od_xlawline an_xlawline : Option Addr} {sl_xlawline : Array (Option Value)} {oc_xlawline kV_xlawline dc_xlawline pm_xlawline ct_xlawline cd_xlawline : Value}
    {f_xlawvalue : Addr} {od_xlawvalue an_xlawvalue : Option Addr} {sl_xlawvalue : Array (Option Value)} {oc_xlawvalue kV_xlawvalue dc_xlawvalue pm_xlawvalue ct_xlawvalue cd_xlawvalue : Value}
    {f_xlawpoints : Addr} {od_xlawpoints an_xlawpoints : Option Addr} {sl_xlawpoints : Array (Option Value)} {oc_xlawpoints kV_xlawpoints dc_xlawpoints pm_xlawpoints ct_xlawpoints cd_xlawpoints : Value}
    {f_xlawpieces : Addr} {od_xlawpieces an_xlawpieces : Option Addr} {sl_xlawpieces : Array (Option Value)} {oc_xlawpieces kV_xlawpieces dc_xlawpieces pm_xlawpieces ct_xlawpieces cd_xlawpieces : Value}
    {f_xlawless : Addr} {od_xlawless an_xlawless : Option Addr} {sl_xlawless : Array (Option Value)} {oc_xlawless kV_xlawless dc_xlawless pm_xlawless ct_xlawless cd_xlawless : Value}
    {f_xlawgreater : Addr} {od_xlawgreater an_xlawgreater : Option Addr} {sl_xlawgreater : Array (Option Value)} {oc_xlawgreater kV_xlawgreater dc_xlawgreater pm_xlawgreater ct_xlawgreater cd_xlawgreater : Value}
    {f_xlawdue : Addr} {od_xlawdue an_xlawdue : Option Addr} {sl_xlawdue : Array (Option Value)} {oc_xlawdue kV_xlawdue dc_xlawdue pm_xlawdue ct_xlawdue cd_xlawdue : Value}
    {f_xlaw : Addr} {od_xlaw an_xlaw : Option Addr} {sl_xlaw : Array (Option Value)} {oc_xlaw kV_xlaw dc_xlaw pm_xlaw ct_xlaw cd_xlaw : Value}
    {kTimesError : Addr}
    {C_InvalidShape fI_InvalidShape : Addr} {nm_InvalidShape q0_InvalidShape : Str} {N_InvalidShape : Addr} {bs_InvalidShape : List Value} {sn_InvalidShape : List Str} {sub_InvalidShape : List Value} {ab_InvalidShape : Bool} {col_InvalidShape : Option Bool} {dd_InvalidShape : Option Addr} {m0_InvalidShape m1_InvalidShape m2_InvalidShape m3_InvalidShape m5_InvalidShape : Option Value} {odi_InvalidShape ani_InvalidShape : Option Addr} {sli_InvalidShape : Array (Option Value)} {oci_InvalidShape kVi_InvalidShape dci_InvalidShape pmi_InvalidShape cdi_InvalidShape cti_InvalidShape : Value}
    {C_InvalidNumber fI_InvalidNumber : Addr} {nm_InvalidNumber q0_InvalidNumber : Str} {N_InvalidNumber : Addr} {bs_InvalidNumber : List Value} {sn_InvalidNumber : List Str} {sub_InvalidNumber : List Value} {ab_InvalidNumber : Bool} {col_InvalidNumber : Option Bool} {dd_InvalidNumber : Option Addr} {m0_InvalidNumber m1_InvalidNumber m2_InvalidNumber m3_InvalidNumber m5_InvalidNumber : Option Value} {odi_InvalidNumber ani_InvalidNumber : Option Addr} {sli_InvalidNumber : Array (Option Value)} {oci_InvalidNumber kVi_InvalidNumber dci_InvalidNumber pmi_InvalidNumber cdi_InvalidNumber cti_InvalidNumber : Value}
    (aC_Shape : PySem.W.nsIn K mainGlobals "Shape" = some (some (.ref C_Shape)))
    (a_xiswhole : PySem.W.nsIn K mainGlobals "is_whole" = some (some (.ref f_xiswhole)))
    (l_xiswhole : K.lookup f_xiswhole = some ⟨oc_xiswhole, od_xiswhole, .func (PySem.W.fnOf "is_whole" "is_whole" (defArgs s_is_whole) (defBody s_is_whole) (defScope s_is_whole) .none kV_xiswhole dc_xiswhole pm_xiswhole an_xiswhole cd_xiswhole ct_xiswhole), sl_xiswhole⟩)
    (c_xiswhole1 : PySem.W.codeIn K cd_xiswhole "is_whole" = true)
    (k_xiswhole : PySem.W.keepIn K (.ref f_xiswhole) = true)
    (a_xiswholepair : PySem.W.nsIn K mainGlobals "is_whole_pair" = some (some (.ref f_xiswholepair)))
    (l_xiswholepair : K.lookup f_xiswholepair = some ⟨oc_xiswholepair, od_xiswholepair, .func (PySem.W.fnOf "is_whole_pair" "is_whole_pair" (defArgs s_is_whole_pair) (defBody s_is_whole_pair) (defScope s_is_whole_pair) .none kV_xiswholepair dc_xiswholepair pm_xiswholepair an_xiswholepair cd_xiswholepair ct_xiswholepair), sl_xiswholepair⟩)
    (c_xiswholepair1 : PySem.W.codeIn K cd_xiswholepair "is_whole_pair" = true)
    (k_xiswholepair : PySem.W.keepIn K (.ref f_xiswholepair) = true)
    (a_xsignof : PySem.W.nsIn K mainGlobals "sign_of" = some (some (.ref f_xsignof)))
    (l_xsignof : K.lookup f_xsignof = some ⟨oc_xsignof, od_xsignof, .func (PySem.W.fnOf "sign_of" "sign_of" (defArgs s_sign_of) (defBody s_sign_of) (defScope s_sign_of) .none kV_xsignof dc_xsignof pm_xsignof an_xsignof cd_xsignof ct_xsignof), sl_xsignof⟩)
    (c_xsignof1 : PySem.W.codeIn K cd_xsignof "sign_of" = true)
    (k_xsignof : PySem.W.keepIn K (.ref f_xsignof) = true)
    (a_xcommondivisor : PySem.W.nsIn K mainGlobals "common_divisor" = some (some (.ref f_xcommondivisor)))
    (l_xcommondivisor : K.lookup f_xcommondivisor = some ⟨oc_xcommondivisor, od_xcommondivisor, .func (PySem.W.fnOf "common_divisor" "common_divisor" (defArgs s_common_divisor) (defBody s_common_divisor) (defScope s_common_divisor) .none kV_xcommondivisor dc_xcommondivisor pm_xcommondivisor an_xcommondivisor cd_xcommondivisor ct_xcommondivisor), sl_xcommondivisor⟩)
    (c_xcommondivisor1 : PySem.W.codeIn K cd_xcommondivisor "common_divisor" = true)
    (k_xcommondivisor : PySem.W.keepIn K (.ref f_xcommondivisor) = true)
    (a_xisfraction : PySem.W.nsIn K mainGlobals "is_fraction" = some (some (.ref f_xisfraction)))
    (l_xisfraction : K.lookup f_xisfraction = some ⟨oc_xisfraction, od_xisfraction, .func (PySem.W.fnOf "is_fraction" "is_fraction" (defArgs s_is_fraction) (defBody s_is_fraction) (defScope s_is_fraction) .none kV_xisfraction dc_xisfraction pm_xisfraction an_xisfraction cd_xisfraction ct_xisfraction), sl_xisfraction⟩)
    (c_xisfraction1 : PySem.W.codeIn K cd_xisfraction "is_fraction" = true)
    (k_xisfraction : PySem.W.keepIn K (.ref f_xisfraction) = true)
    (a_xrequirefraction : PySem.W.nsIn K mainGlobals "require_fraction" = some (some (.ref f_xrequirefraction)))
    (l_xrequirefraction : K.lookup f_xrequirefraction = some ⟨oc_xrequirefraction, od_xrequirefraction, .func (PySem.W.fnOf "require_fraction" "require_fraction" (defArgs s_require_fraction) (defBody s_require_fraction) (defScope s_require_fraction) .none kV_xrequirefraction dc_xrequirefraction pm_xrequirefraction an_xrequirefraction cd_xrequirefraction ct_xrequirefraction), sl_xrequirefraction⟩)
    (c_xrequirefraction1 : PySem.W.codeIn K cd_xrequirefraction "require_fraction" = true)
    (k_xrequirefraction : PySem.W.keepIn K (.ref f_xrequirefraction) = true)
    (a_xisslowness : PySem.W.nsIn K mainGlobals "is_slowness" = some (some (.ref f_xisslowness)))
    (l_xisslowness : K.lookup f_xisslowness = some ⟨oc_xisslowness, od_xisslowness, .func (PySem.W.fnOf "is_slowness" "is_slowness" (defArgs s_is_slowness) (defBody s_is_slowness) (defScope s_is_slowness) .none kV_xisslowness dc_xisslowness pm_xisslowness an_xisslowness cd_xisslowness ct_xisslowness), sl_xisslowness⟩)
    (c_xisslowness1 : PySem.W.codeIn K cd_xisslowness "is_slowness" = true)
    (k_xisslowness : PySem.W.keepIn K (.ref f_xisslowness) = true)
    (a_xfraction : PySem.W.nsIn K mainGlobals "fraction" = some (some (.ref f_xfraction)))
    (l_xfraction : K.lookup f_xfraction = some ⟨oc_xfraction, od_xfraction, .func (PySem.W.fnOf "fraction" "fraction" (defArgs s_fraction) (defBody s_fraction) (defScope s_fraction) .none kV_xfraction dc_xfraction pm_xfraction an_xfraction cd_xfraction ct_xfraction), sl_xfraction⟩)
    (c_xfraction1 : PySem.W.codeIn K cd_xfraction "fraction" = true)
    (k_xfraction : PySem.W.keepIn K (.ref f_xfraction) = true)
    (a_xorderof : PySem.W.nsIn K mainGlobals "order_of" = some (some (.ref f_xorderof)))
    (l_xorderof : K.lookup f_xorderof = some ⟨oc_xorderof, od_xorderof, .func (PySem.W.fnOf "order_of" "order_of" (defArgs s_order_of) (defBody s_order_of) (defScope s_order_of) .none kV_xorderof dc_xorderof pm_xorderof an_xorderof cd_xorderof ct_xorderof), sl_xorderof⟩)
    (c_xorderof1 : PySem.W.codeIn K cd_xorderof "order_of" = true)
    (k_xorderof : PySem.W.keepIn K (.ref f_xorderof) = true)
    (a_xcompared : PySem.W.nsIn K mainGlobals "compared" = some (some (.ref f_xcompared)))
    (l_xcompared : K.lookup f_xcompared = some ⟨oc_xcompared, od_xcompared, .func (PySem.W.fnOf "compared" "compared" (defArgs s_compared) (defBody s_compared) (defScope s_compared) .none kV_xcompared dc_xcompared pm_xcompared an_xcompared cd_xcompared ct_xcompared), sl_xcompared⟩)
    (c_xcompared1 : PySem.W.codeIn K cd_xcompared "compared" = true)
    (k_xcompared : PySem.W.keepIn K (.ref f_xcompared) = true)
    (a_xsumoftwo : PySem.W.nsIn K mainGlobals "sum_of_two" = some (some (.ref f_xsumoftwo)))
    (l_xsumoftwo : K.lookup f_xsumoftwo = some ⟨oc_xsumoftwo, od_xsumoftwo, .func (PySem.W.fnOf "sum_of_two" "sum_of_two" (defArgs s_sum_of_two) (defBody s_sum_of_two) (defScope s_sum_of_two) .none kV_xsumoftwo dc_xsumoftwo pm_xsumoftwo an_xsumoftwo cd_xsumoftwo ct_xsumoftwo), sl_xsumoftwo⟩)
    (c_xsumoftwo1 : PySem.W.codeIn K cd_xsumoftwo "sum_of_two" = true)
    (k_xsumoftwo : PySem.W.keepIn K (.ref f_xsumoftwo) = true)
    (a_xtotalof : PySem.W.nsIn K mainGlobals "total_of" = some (some (.ref f_xtotalof)))
    (l_xtotalof : K.lookup f_xtotalof = some ⟨oc_xtotalof, od_xtotalof, .func (PySem.W.fnOf "total_of" "total_of" (defArgs s_total_of) (defBody s_total_of) (defScope s_total_of) .none kV_xtotalof dc_xtotalof pm_xtotalof an_xtotalof cd_xtotalof ct_xtotalof), sl_xtotalof⟩)
    (c_xtotalof1 : PySem.W.codeIn K cd_xtotalof "total_of" = true)
    (k_xtotalof : PySem.W.keepIn K (.ref f_xtotalof) = true)
    (a_xisline : PySem.W.nsIn K mainGlobals "is_line" = some (some (.ref f_xisline)))
    (l_xisline : K.lookup f_xisline = some ⟨oc_xisline, od_xisline, .func (PySem.W.fnOf "is_line" "is_line" (defArgs s_is_line) (defBody s_is_line) (defScope s_is_line) .none kV_xisline dc_xisline pm_xisline an_xisline cd_xisline ct_xisline), sl_xisline⟩)
    (c_xisline1 : PySem.W.codeIn K cd_xisline "is_line" = true)
    (k_xisline : PySem.W.keepIn K (.ref f_xisline) = true)
    (a_xrequireline : PySem.W.nsIn K mainGlobals "require_line" = some (some (.ref f_xrequireline)))
    (l_xrequireline : K.lookup f_xrequireline = some ⟨oc_xrequireline, od_xrequireline, .func (PySem.W.fnOf "require_line" "require_line" (defArgs s_require_line) (defBody s_require_line) (defScope s_require_line) .none kV_xrequireline dc_xrequireline pm_xrequireline an_xrequireline cd_xrequireline ct_xrequireline), sl_xrequireline⟩)
    (c_xrequireline1 : PySem.W.codeIn K cd_xrequireline "require_line" = true)
    (k_xrequireline : PySem.W.keepIn K (.ref f_xrequireline) = true)
    (a_xvalueat : PySem.W.nsIn K mainGlobals "value_at" = some (some (.ref f_xvalueat)))
    (l_xvalueat : K.lookup f_xvalueat = some ⟨oc_xvalueat, od_xvalueat, .func (PySem.W.fnOf "value_at" "value_at" (defArgs s_value_at) (defBody s_value_at) (defScope s_value_at) .none kV_xvalueat dc_xvalueat pm_xvalueat an_xvalueat cd_xvalueat ct_xvalueat), sl_xvalueat⟩)
    (c_xvalueat1 : PySem.W.codeIn K cd_xvalueat "value_at" = true)
    (k_xvalueat : PySem.W.keepIn K (.ref f_xvalueat) = true)
    (a_xistupleof : PySem.W.nsIn K mainGlobals "is_tuple_of" = some (some (.ref f_xistupleof)))
    (l_xistupleof : K.lookup f_xistupleof = some ⟨oc_xistupleof, od_xistupleof, .func (PySem.W.fnOf "is_tuple_of" "is_tuple_of" (defArgs s_is_tuple_of) (defBody s_is_tuple_of) (defScope s_is_tuple_of) .none kV_xistupleof dc_xistupleof pm_xistupleof an_xistupleof cd_xistupleof ct_xistupleof), sl_xistupleof⟩)
    (c_xistupleof1 : PySem.W.codeIn K cd_xistupleof "is_tuple_of" = true)
    (k_xistupleof : PySem.W.keepIn K (.ref f_xistupleof) = true)
    (a_xispoint : PySem.W.nsIn K mainGlobals "is_point" = some (some (.ref f_xispoint)))
    (l_xispoint : K.lookup f_xispoint = some ⟨oc_xispoint, od_xispoint, .func (PySem.W.fnOf "is_point" "is_point" (defArgs s_is_point) (defBody s_is_point) (defScope s_is_point) .none kV_xispoint dc_xispoint pm_xispoint an_xispoint cd_xispoint ct_xispoint), sl_xispoint⟩)
    (c_xispoint1 : PySem.W.codeIn K cd_xispoint "is_point" = true)
    (k_xispoint : PySem.W.keepIn K (.ref f_xispoint) = true)
    (a_xisgap : PySem.W.nsIn K mainGlobals "is_gap" = some (some (.ref f_xisgap)))
    (l_xisgap : K.lookup f_xisgap = some ⟨oc_xisgap, od_xisgap, .func (PySem.W.fnOf "is_gap" "is_gap" (defArgs s_is_gap) (defBody s_is_gap) (defScope s_is_gap) .none kV_xisgap dc_xisgap pm_xisgap an_xisgap cd_xisgap ct_xisgap), sl_xisgap⟩)
    (c_xisgap1 : PySem.W.codeIn K cd_xisgap "is_gap" = true)
    (k_xisgap : PySem.W.keepIn K (.ref f_xisgap) = true)
    (a_xfollows : PySem.W.nsIn K mainGlobals "follows" = some (some (.ref f_xfollows)))
    (l_xfollows : K.lookup f_xfollows = some ⟨oc_xfollows, od_xfollows, .func (PySem.W.fnOf "follows" "follows" (defArgs s_follows) (defBody s_follows) (defScope s_follows) .none kV_xfollows dc_xfollows pm_xfollows an_xfollows cd_xfollows ct_xfollows), sl_xfollows⟩)
    (c_xfollows1 : PySem.W.codeIn K cd_xfollows "follows" = true)
    (k_xfollows : PySem.W.keepIn K (.ref f_xfollows) = true)
    (a_xarepieces : PySem.W.nsIn K mainGlobals "are_pieces" = some (some (.ref f_xarepieces)))
    (l_xarepieces : K.lookup f_xarepieces = some ⟨oc_xarepieces, od_xarepieces, .func (PySem.W.fnOf "are_pieces" "are_pieces" (defArgs s_are_pieces) (defBody s_are_pieces) (defScope s_are_pieces) .none kV_xarepieces dc_xarepieces pm_xarepieces an_xarepieces cd_xarepieces ct_xarepieces), sl_xarepieces⟩)
    (c_xarepieces1 : PySem.W.codeIn K cd_xarepieces "are_pieces" = true)
    (k_xarepieces : PySem.W.keepIn K (.ref f_xarepieces) = true)
    (a_xisneedless : PySem.W.nsIn K mainGlobals "is_needless" = some (some (.ref f_xisneedless)))
    (l_xisneedless : K.lookup f_xisneedless = some ⟨oc_xisneedless, od_xisneedless, .func (PySem.W.fnOf "is_needless" "is_needless" (defArgs s_is_needless) (defBody s_is_needless) (defScope s_is_needless) .none kV_xisneedless dc_xisneedless pm_xisneedless an_xisneedless cd_xisneedless ct_xisneedless), sl_xisneedless⟩)
    (c_xisneedless1 : PySem.W.codeIn K cd_xisneedless "is_needless" = true)
    (k_xisneedless : PySem.W.keepIn K (.ref f_xisneedless) = true)
    (a_xshortest : PySem.W.nsIn K mainGlobals "shortest" = some (some (.ref f_xshortest)))
    (l_xshortest : K.lookup f_xshortest = some ⟨oc_xshortest, od_xshortest, .func (PySem.W.fnOf "shortest" "shortest" (defArgs s_shortest) (defBody s_shortest) (defScope s_shortest) .none kV_xshortest dc_xshortest pm_xshortest an_xshortest cd_xshortest ct_xshortest), sl_xshortest⟩)
    (c_xshortest1 : PySem.W.codeIn K cd_xshortest "shortest" = true)
    (k_xshortest : PySem.W.keepIn K (.ref f_xshortest) = true)
    (a_xhighof : PySem.W.nsIn K mainGlobals "high_of" = some (some (.ref f_xhighof)))
    (l_xhighof : K.lookup f_xhighof = some ⟨oc_xhighof, od_xhighof, .func (PySem.W.fnOf "high_of" "high_of" (defArgs s_high_of) (defBody s_high_of) (defScope s_high_of) .none kV_xhighof dc_xhighof pm_xhighof an_xhighof cd_xhighof ct_xhighof), sl_xhighof⟩)
    (c_xhighof1 : PySem.W.codeIn K cd_xhighof "high_of" = true)
    (k_xhighof : PySem.W.keepIn K (.ref f_xhighof) = true)
    (a_xpointsof : PySem.W.nsIn K mainGlobals "points_of" = some (some (.ref f_xpointsof)))
    (l_xpointsof : K.lookup f_xpointsof = some ⟨oc_xpointsof, od_xpointsof, .func (PySem.W.fnOf "points_of" "points_of" (defArgs s_points_of) (defBody s_points_of) (defScope s_points_of) .none kV_xpointsof dc_xpointsof pm_xpointsof an_xpointsof cd_xpointsof ct_xpointsof), sl_xpointsof⟩)
    (c_xpointsof1 : PySem.W.codeIn K cd_xpointsof "points_of" = true)
    (k_xpointsof : PySem.W.keepIn K (.ref f_xpointsof) = true)
    (a_xindexof : PySem.W.nsIn K mainGlobals "index_of" = some (some (.ref f_xindexof)))
    (l_xindexof : K.lookup f_xindexof = some ⟨oc_xindexof, od_xindexof, .func (PySem.W.fnOf "index_of" "index_of" (defArgs s_index_of) (defBody s_index_of) (defScope s_index_of) .none kV_xindexof dc_xindexof pm_xindexof an_xindexof cd_xindexof ct_xindexof), sl_xindexof⟩)
    (c_xindexof1 : PySem.W.codeIn K cd_xindexof "index_of" = true)
    (k_xindexof : PySem.W.keepIn K (.ref f_xindexof) = true)
    (a_xvalueornone : PySem.W.nsIn K mainGlobals "value_or_none" = some (some (.ref f_xvalueornone)))
    (l_xvalueornone : K.lookup f_xvalueornone = some ⟨oc_xvalueornone, od_xvalueornone, .func (PySem.W.fnOf "value_or_none" "value_or_none" (defArgs s_value_or_none) (defBody s_value_or_none) (defScope s_value_or_none) .none kV_xvalueornone dc_xvalueornone pm_xvalueornone an_xvalueornone cd_xvalueornone ct_xvalueornone), sl_xvalueornone⟩)
    (c_xvalueornone1 : PySem.W.codeIn K cd_xvalueornone "value_or_none" = true)
    (k_xvalueornone : PySem.W.keepIn K (.ref f_xvalueornone) = true)
    (a_xtimeat : PySem.W.nsIn K mainGlobals "time_at" = some (some (.ref f_xtimeat)))
    (l_xtimeat : K.lookup f_xtimeat = some ⟨oc_xtimeat, od_xtimeat, .func (PySem.W.fnOf "time_at" "time_at" (defArgs s_time_at) (defBody s_time_at) (defScope s_time_at) .none kV_xtimeat dc_xtimeat pm_xtimeat an_xtimeat cd_xtimeat ct_xtimeat), sl_xtimeat⟩)
    (c_xtimeat1 : PySem.W.codeIn K cd_xtimeat "time_at" = true)
    (k_xtimeat : PySem.W.keepIn K (.ref f_xtimeat) = true)
    (a_xlineafter : PySem.W.nsIn K mainGlobals "line_after" = some (some (.ref f_xlineafter)))
    (l_xlineafter : K.lookup f_xlineafter = some ⟨oc_xlineafter, od_xlineafter, .func (PySem.W.fnOf "line_after" "line_after" (defArgs s_line_after) (defBody s_line_after) (defScope s_line_after) .none kV_xlineafter dc_xlineafter pm_xlineafter an_xlineafter cd_xlineafter ct_xlineafter), sl_xlineafter⟩)
    (c_xlineafter1 : PySem.W.codeIn K cd_xlineafter "line_after" = true)
    (k_xlineafter : PySem.W.keepIn K (.ref f_xlineafter) = true)
    (a_xpairsum : PySem.W.nsIn K mainGlobals "pair_sum" = some (some (.ref f_xpairsum)))
    (l_xpairsum : K.lookup f_xpairsum = some ⟨oc_xpairsum, od_xpairsum, .func (PySem.W.fnOf "pair_sum" "pair_sum" (defArgs s_pair_sum) (defBody s_pair_sum) (defScope s_pair_sum) .none kV_xpairsum dc_xpairsum pm_xpairsum an_xpairsum cd_xpairsum ct_xpairsum), sl_xpairsum⟩)
    (c_xpairsum1 : PySem.W.codeIn K cd_xpairsum "pair_sum" = true)
    (k_xpairsum : PySem.W.keepIn K (.ref f_xpairsum) = true)
    (a_xpaired : PySem.W.nsIn K mainGlobals "paired" = some (some (.ref f_xpaired)))
    (l_xpaired : K.lookup f_xpaired = some ⟨oc_xpaired, od_xpaired, .func (PySem.W.fnOf "paired" "paired" (defArgs s_paired) (defBody s_paired) (defScope s_paired) .none kV_xpaired dc_xpaired pm_xpaired an_xpaired cd_xpaired ct_xpaired), sl_xpaired⟩)
    (c_xpaired1 : PySem.W.codeIn K cd_xpaired "paired" = true)
    (k_xpaired : PySem.W.keepIn K (.ref f_xpaired) = true)
    (a_xnextorder : PySem.W.nsIn K mainGlobals "next_order" = some (some (.ref f_xnextorder)))
    (l_xnextorder : K.lookup f_xnextorder = some ⟨oc_xnextorder, od_xnextorder, .func (PySem.W.fnOf "next_order" "next_order" (defArgs s_next_order) (defBody s_next_order) (defScope s_next_order) .none kV_xnextorder dc_xnextorder pm_xnextorder an_xnextorder cd_xnextorder ct_xnextorder), sl_xnextorder⟩)
    (c_xnextorder1 : PySem.W.codeIn K cd_xnextorder "next_order" = true)
    (k_xnextorder : PySem.W.keepIn K (.ref f_xnextorder) = true)
    (a_xmerged : PySem.W.nsIn K mainGlobals "merged" = some (some (.ref f_xmerged)))
    (l_xmerged : K.lookup f_xmerged = some ⟨oc_xmerged, od_xmerged, .func (PySem.W.fnOf "merged" "merged" (defArgs s_merged) (defBody s_merged) (defScope s_merged) .none kV_xmerged dc_xmerged pm_xmerged an_xmerged cd_xmerged ct_xmerged), sl_xmerged⟩)
    (c_xmerged1 : PySem.W.codeIn K cd_xmerged "merged" = true)
    (k_xmerged : PySem.W.keepIn K (.ref f_xmerged) = true)
    (a_xsums : PySem.W.nsIn K mainGlobals "sums" = some (some (.ref f_xsums)))
    (l_xsums : K.lookup f_xsums = some ⟨oc_xsums, od_xsums, .func (PySem.W.fnOf "sums" "sums" (defArgs s_sums) (defBody s_sums) (defScope s_sums) .none kV_xsums dc_xsums pm_xsums an_xsums cd_xsums ct_xsums), sl_xsums⟩)
    (c_xsums1 : PySem.W.codeIn K cd_xsums "sums" = true)
    (k_xsums : PySem.W.keepIn K (.ref f_xsums) = true)
    (a_xpointswithsides : PySem.W.nsIn K mainGlobals "points_with_sides" = some (some (.ref f_xpointswithsides)))
    (l_xpointswithsides : K.lookup f_xpointswithsides = some ⟨oc_xpointswithsides, od_xpointswithsides, .func (PySem.W.fnOf "points_with_sides" "points_with_sides" (defArgs s_points_with_sides) (defBody s_points_with_sides) (defScope s_points_with_sides) .none kV_xpointswithsides dc_xpointswithsides pm_xpointswithsides an_xpointswithsides cd_xpointswithsides ct_xpointswithsides), sl_xpointswithsides⟩)
    (c_xpointswithsides1 : PySem.W.codeIn K cd_xpointswithsides "points_with_sides" = true)
    (k_xpointswithsides : PySem.W.keepIn K (.ref f_xpointswithsides) = true)
    (a_xisdrop : PySem.W.nsIn K mainGlobals "is_drop" = some (some (.ref f_xisdrop)))
    (l_xisdrop : K.lookup f_xisdrop = some ⟨oc_xisdrop, od_xisdrop, .func (PySem.W.fnOf "is_drop" "is_drop" (defArgs s_is_drop) (defBody s_is_drop) (defScope s_is_drop) .none kV_xisdrop dc_xisdrop pm_xisdrop an_xisdrop cd_xisdrop ct_xisdrop), sl_xisdrop⟩)
    (c_xisdrop1 : PySem.W.codeIn K cd_xisdrop "is_drop" = true)
    (k_xisdrop : PySem.W.keepIn K (.ref f_xisdrop) = true)
    (a_xisjumpdown : PySem.W.nsIn K mainGlobals "is_jump_down" = some (some (.ref f_xisjumpdown)))
    (l_xisjumpdown : K.lookup f_xisjumpdown = some ⟨oc_xisjumpdown, od_xisjumpdown, .func (PySem.W.fnOf "is_jump_down" "is_jump_down" (defArgs s_is_jump_down) (defBody s_is_jump_down) (defScope s_is_jump_down) .none kV_xisjumpdown dc_xisjumpdown pm_xisjumpdown an_xisjumpdown cd_xisjumpdown ct_xisjumpdown), sl_xisjumpdown⟩)
    (c_xisjumpdown1 : PySem.W.codeIn K cd_xisjumpdown "is_jump_down" = true)
    (k_xisjumpdown : PySem.W.keepIn K (.ref f_xisjumpdown) = true)
    (a_xShapeinit : PySem.W.findIn K (.ref C_Shape) "__init__" = some (some (.ref f_xShapeinit)))
    (i_xShapeinit : PySem.W.isFn K (.ref f_xShapeinit) = true)
    (l_xShapeinit : K.lookup f_xShapeinit = some ⟨oc_xShapeinit, od_xShapeinit, .func (PySem.W.fnOf "__init__" "Shape.__init__" (defArgs s_Shape_init) (defBody s_Shape_init) (defScope s_Shape_init) .none kV_xShapeinit dc_xShapeinit pm_xShapeinit an_xShapeinit cd_xShapeinit ct_xShapeinit), sl_xShapeinit⟩)
    (c_xShapeinit1 : PySem.W.codeIn K cd_xShapeinit "Shape.__init__" = true)
    (k_xShapeinit : PySem.W.keepIn K (.ref f_xShapeinit) = true)
    (a_xShapepieces : PySem.W.findIn K (.ref C_Shape) "pieces" = some (some (.ref f_xShapepieces)))
    (i_xShapepieces : PySem.W.isFn K (.ref f_xShapepieces) = true)
    (l_xShapepieces : K.lookup f_xShapepieces = some ⟨oc_xShapepieces, od_xShapepieces, .func (PySem.W.fnOf "pieces" "Shape.pieces" (defArgs s_Shape_pieces) (defBody s_Shape_pieces) (defScope s_Shape_pieces) .none kV_xShapepieces dc_xShapepieces pm_xShapepieces an_xShapepieces cd_xShapepieces ct_xShapepieces), sl_xShapepieces⟩)
    (c_xShapepieces1 : PySem.W.codeIn K cd_xShapepieces "Shape.pieces" = true)
    (k_xShapepieces : PySem.W.keepIn K (.ref f_xShapepieces) = true)
    (pt_xShapelow : PySem.W.findIn K (.ref C_Shape) "low" = some (some (.ref pa_xShapelow)))
    (pg_xShapelow : PySem.W.specialIn K (.ref pa_xShapelow) "__get__" = some (some (.builtin "property.__get__")))
    (pk_xShapelow : PySem.W.takesIn K (.ref pa_xShapelow) = some true)
    (pr_xShapelow : PySem.W.recIn K pa_xShapelow "property" = some (.ref f_xShapelow :: re_xShapelow))
    (l_xShapelow : K.lookup f_xShapelow = some ⟨oc_xShapelow, od_xShapelow, .func (PySem.W.fnOf "low" "Shape.low" (defArgs s_Shape_low) (defBody s_Shape_low) (defScope s_Shape_low) .none kV_xShapelow dc_xShapelow pm_xShapelow an_xShapelow cd_xShapelow ct_xShapelow), sl_xShapelow⟩)
    (c_xShapelow1 : PySem.W.codeIn K cd_xShapelow "Shape.low" = true)
    (k_xShapelow : PySem.W.keepIn K (.ref f_xShapelow) = true)
    (pt_xShapehigh : PySem.W.findIn K (.ref C_Shape) "high" = some (some (.ref pa_xShapehigh)))
    (pg_xShapehigh : PySem.W.specialIn K (.ref pa_xShapehigh) "__get__" = some (some (.builtin "property.__get__")))
    (pk_xShapehigh : PySem.W.takesIn K (.ref pa_xShapehigh) = some true)
    (pr_xShapehigh : PySem.W.recIn K pa_xShapehigh "property" = some (.ref f_xShapehigh :: re_xShapehigh))
    (l_xShapehigh : K.lookup f_xShapehigh = some ⟨oc_xShapehigh, od_xShapehigh, .func (PySem.W.fnOf "high" "Shape.high" (defArgs s_Shape_high) (defBody s_Shape_high) (defScope s_Shape_high) .none kV_xShapehigh dc_xShapehigh pm_xShapehigh an_xShapehigh cd_xShapehigh ct_xShapehigh), sl_xShapehigh⟩)
    (c_xShapehigh1 : PySem.W.codeIn K cd_xShapehigh "Shape.high" = true)
    (k_xShapehigh : PySem.W.keepIn K (.ref f_xShapehigh) = true)
    (a_xShaperequiresamerange : PySem.W.findIn K (.ref C_Shape) "require_same_range" = some (some (.ref f_xShaperequiresamerange)))
    (i_xShaperequiresamerange : PySem.W.isFn K (.ref f_xShaperequiresamerange) = true)
    (l_xShaperequiresamerange : K.lookup f_xShaperequiresamerange = some ⟨oc_xShaperequiresamerange, od_xShaperequiresamerange, .func (PySem.W.fnOf "require_same_range" "Shape.require_same_range" (defArgs s_Shape_require_same_range) (defBody s_Shape_require_same_range) (defScope s_Shape_require_same_range) .none kV_xShaperequiresamerange dc_xShaperequiresamerange pm_xShaperequiresamerange an_xShaperequiresamerange cd_xShaperequiresamerange ct_xShaperequiresamerange), sl_xShaperequiresamerange⟩)
    (c_xShaperequiresamerange1 : PySem.W.codeIn K cd_xShaperequiresamerange "Shape.require_same_range" = true)
    (k_xShaperequiresamerange : PySem.W.keepIn K (.ref f_xShaperequiresamerange) = true)
    (a_xShapeadd : PySem.W.findIn K (.ref C_Shape) "__add__" = some (some (.ref f_xShapeadd)))
    (i_xShapeadd : PySem.W.isFn K (.ref f_xShapeadd) = true)
    (l_xShapeadd : K.lookup f_xShapeadd = some ⟨oc_xShapeadd, od_xShapeadd, .func (PySem.W.fnOf "__add__" "Shape.__add__" (defArgs s_Shape_add) (defBody s_Shape_add) (defScope s_Shape_add) .none kV_xShapeadd dc_xShapeadd pm_xShapeadd an_xShapeadd cd_xShapeadd ct_xShapeadd), sl_xShapeadd⟩)
    (c_xShapeadd1 : PySem.W.codeIn K cd_xShapeadd "Shape.__add__" = true)
    (k_xShapeadd : PySem.W.keepIn K (.ref f_xShapeadd) = true)
    (a_xShapefalls : PySem.W.findIn K (.ref C_Shape) "falls" = some (some (.ref f_xShapefalls)))
    (i_xShapefalls : PySem.W.isFn K (.ref f_xShapefalls) = true)
    (l_xShapefalls : K.lookup f_xShapefalls = some ⟨oc_xShapefalls, od_xShapefalls, .func (PySem.W.fnOf "falls" "Shape.falls" (defArgs s_Shape_falls) (defBody s_Shape_falls) (defScope s_Shape_falls) .none kV_xShapefalls dc_xShapefalls pm_xShapefalls an_xShapefalls cd_xShapefalls ct_xShapefalls), sl_xShapefalls⟩)
    (c_xShapefalls1 : PySem.W.codeIn K cd_xShapefalls "Shape.falls" = true)
    (k_xShapefalls : PySem.W.keepIn K (.ref f_xShapefalls) = true)
    (a_xlawnumbers : PySem.W.nsIn K mainGlobals "_law_numbers" = some (some (.ref f_xlawnumbers)))
    (l_xlawnumbers : K.lookup f_xlawnumbers = some ⟨oc_xlawnumbers, od_xlawnumbers, .func (PySem.W.fnOf "_law_numbers" "_law_numbers" (defArgs s__law_numbers) (defBody s__law_numbers) (defScope s__law_numbers) .none kV_xlawnumbers dc_xlawnumbers pm_xlawnumbers an_xlawnumbers cd_xlawnumbers ct_xlawnumbers), sl_xlawnumbers⟩)
    (c_xlawnumbers1 : PySem.W.codeIn K cd_xlawnumbers "_law_numbers" = true)
    (k_xlawnumbers : PySem.W.keepIn K (.ref f_xlawnumbers) = true)
    (a_xlawfraction : PySem.W.nsIn K mainGlobals "_law_fraction" = some (some (.ref f_xlawfraction)))
    (l_xlawfraction : K.lookup f_xlawfraction = some ⟨oc_xlawfraction, od_xlawfraction, .func (PySem.W.fnOf "_law_fraction" "_law_fraction" (defArgs s__law_fraction) (defBody s__law_fraction) (defScope s__law_fraction) .none kV_xlawfraction dc_xlawfraction pm_xlawfraction an_xlawfraction cd_xlawfraction ct_xlawfraction), sl_xlawfraction⟩)
    (c_xlawfraction1 : PySem.W.codeIn K cd_xlawfraction "_law_fraction" = true)
    (k_xlawfraction : PySem.W.keepIn K (.ref f_xlawfraction) = true)
    (a_xlawline : PySem.W.nsIn K mainGlobals "_law_line" = some (some (.ref f_xlawline)))
    (l_xlawline : K.lookup f_xlawline = some ⟨oc_xlawline, od_xlawline, .func (PySem.W.fnOf "_law_line" "_law_line" (defArgs s__law_line) (defBody s__law_line) (defScope s__law_line) .none kV_xlawline dc_xlawline pm_xlawline an_xlawline cd_xlawline ct_xlawline), sl_xlawline⟩)
    (c_xlawline1 : PySem.W.codeIn K cd_xlawline "_law_line" = true)
    (k_xlawline : PySem.W.keepIn K (.ref f_xlawline) = true)
    (a_xlawvalue : PySem.W.nsIn K mainGlobals "_law_value" = some (some (.ref f_xlawvalue)))
    (l_xlawvalue : K.lookup f_xlawvalue = some ⟨oc_xlawvalue, od_xlawvalue, .func (PySem.W.fnOf "_law_value" "_law_value" (defArgs s__law_value) (defBody s__law_value) (defScope s__law_value) .none kV_xlawvalue dc_xlawvalue pm_xlawvalue an_xlawvalue cd_xlawvalue ct_xlawvalue), sl_xlawvalue⟩)
    (c_xlawvalue1 : PySem.W.codeIn K cd_xlawvalue "_law_value" = true)
    (k_xlawvalue : PySem.W.keepIn K (.ref f_xlawvalue) = true)
    (a_xlawpoints : PySem.W.nsIn K mainGlobals "_law_points" = some (some (.ref f_xlawpoints)))
    (l_xlawpoints : K.lookup f_xlawpoints = some ⟨oc_xlawpoints, od_xlawpoints, .func (PySem.W.fnOf "_law_points" "_law_points" (defArgs s__law_points) (defBody s__law_points) (defScope s__law_points) .none kV_xlawpoints dc_xlawpoints pm_xlawpoints an_xlawpoints cd_xlawpoints ct_xlawpoints), sl_xlawpoints⟩)
    (c_xlawpoints1 : PySem.W.codeIn K cd_xlawpoints "_law_points" = true)
    (k_xlawpoints : PySem.W.keepIn K (.ref f_xlawpoints) = true)
    (a_xlawpieces : PySem.W.nsIn K mainGlobals "_law_pieces" = some (some (.ref f_xlawpieces)))
    (l_xlawpieces : K.lookup f_xlawpieces = some ⟨oc_xlawpieces, od_xlawpieces, .func (PySem.W.fnOf "_law_pieces" "_law_pieces" (defArgs s__law_pieces) (defBody s__law_pieces) (defScope s__law_pieces) .none kV_xlawpieces dc_xlawpieces pm_xlawpieces an_xlawpieces cd_xlawpieces ct_xlawpieces), sl_xlawpieces⟩)
    (c_xlawpieces1 : PySem.W.codeIn K cd_xlawpieces "_law_pieces" = true)
    (k_xlawpieces : PySem.W.keepIn K (.ref f_xlawpieces) = true)
    (a_xlawless : PySem.W.nsIn K mainGlobals "_law_less" = some (some (.ref f_xlawless)))
    (l_xlawless : K.lookup f_xlawless = some ⟨oc_xlawless, od_xlawless, .func (PySem.W.fnOf "_law_less" "_law_less" (defArgs s__law_less) (defBody s__law_less) (defScope s__law_less) .none kV_xlawless dc_xlawless pm_xlawless an_xlawless cd_xlawless ct_xlawless), sl_xlawless⟩)
    (c_xlawless1 : PySem.W.codeIn K cd_xlawless "_law_less" = true)
    (k_xlawless : PySem.W.keepIn K (.ref f_xlawless) = true)
    (a_xlawgreater : PySem.W.nsIn K mainGlobals "_law_greater" = some (some (.ref f_xlawgreater)))
    (l_xlawgreater : K.lookup f_xlawgreater = some ⟨oc_xlawgreater, od_xlawgreater, .func (PySem.W.fnOf "_law_greater" "_law_greater" (defArgs s__law_greater) (defBody s__law_greater) (defScope s__law_greater) .none kV_xlawgreater dc_xlawgreater pm_xlawgreater an_xlawgreater cd_xlawgreater ct_xlawgreater), sl_xlawgreater⟩)
    (c_xlawgreater1 : PySem.W.codeIn K cd_xlawgreater "_law_greater" = true)
    (k_xlawgreater : PySem.W.keepIn K (.ref f_xlawgreater) = true)
    (a_xlawdue : PySem.W.nsIn K mainGlobals "_law_due" = some (some (.ref f_xlawdue)))
    (l_xlawdue : K.lookup f_xlawdue = some ⟨oc_xlawdue, od_xlawdue, .func (PySem.W.fnOf "_law_due" "_law_due" (defArgs s__law_due) (defBody s__law_due) (defScope s__law_due) .none kV_xlawdue dc_xlawdue pm_xlawdue an_xlawdue cd_xlawdue ct_xlawdue), sl_xlawdue⟩)
    (c_xlawdue1 : PySem.W.codeIn K cd_xlawdue "_law_due" = true)
    (k_xlawdue : PySem.W.keepIn K (.ref f_xlawdue) = true)
    (a_xlaw : PySem.W.nsIn K mainGlobals "law" = some (some (.ref f_xlaw)))
    (l_xlaw : K.lookup f_xlaw = some ⟨oc_xlaw, od_xlaw, .func (PySem.W.fnOf "law" "law" (defArgs s_law) (defBody s_law) (defScope s_law) .none kV_xlaw dc_xlaw pm_xlaw an_xlaw cd_xlaw ct_xlaw), sl_xlaw⟩)
    (c_xlaw1 : PySem.W.codeIn K cd_xlaw "law" = true)
    (k_xlaw : PySem.W.keepIn K (.ref f_xlaw) = true)
    (pg_Shape : PySem.W.plainGet K C_Shape Str.empty = true)
    (hd_Shape : PySem.W.hasDictIn K C_Shape = true)
    (po_Shape : PySem.W.plainOver K C_Shape = true)
    (sa_Shape : PySem.W.findIn K (.ref C_Shape) "__setattr__" = some (some (.builtin "object.__setattr__")))
    (hcl_Shape : PySem.W.findIn K (.ref C_Shape) "__class__" = some (some (.builtin "object.__class__")))
    (hmo_Shape : PySem.W.mroIn K C_Shape (.type "object") = some true)
    (mki_Shape : PySem.W.makesIn K C_Shape = true)
    (kpC_Shape : PySem.W.keepIn K (.ref C_Shape) = true)
    (kiS_Shape : PySem.W.kitOne K (.ref C_Shape) (.ref C_Shape) = some true)
    (kiT_Shape : (tysB fun t => decide (PySem.W.kitOne K (.type t) (.ref C_Shape) = some false)) = true)
    (kiN_Shape : (tysB fun t => PySem.W.notFirst K C_Shape (.type t)) = true)
    (kiF_Shape : PySem.W.notFirst K C_Shape (.ref C_Shape) = true)
    (na_Shape_rows : PySem.W.findIn K (.ref C_Shape) "rows" = some none)
    (kiP_Shape : PySem.W.selfFirst K C_Shape = true)
    (mTimesError : PySem.W.nsIn K mainGlobals "TimesError" = some (some (.ref kTimesError)))
    (aC_InvalidShape : PySem.W.nsIn K mainGlobals "InvalidShape" = some (some (.ref C_InvalidShape)))
    (xL_InvalidShape : K.lookup C_InvalidShape = some (excClassObj nm_InvalidShape q0_InvalidShape C_InvalidShape N_InvalidShape bs_InvalidShape [.ref kTimesError, .type "Exception", .type "BaseException", .type "object"] true sn_InvalidShape sub_InvalidShape ab_InvalidShape col_InvalidShape dd_InvalidShape m0_InvalidShape m1_InvalidShape m2_InvalidShape m3_InvalidShape m5_InvalidShape "Exception.__new__"))
    (sa_InvalidShape : PySem.W.findIn K (.ref C_InvalidShape) "__setattr__" = some (some (.builtin "object.__setattr__")))
    (ga_InvalidShape : PySem.W.findIn K (.ref C_InvalidShape) "__getattribute__" = some (some (.builtin "BaseException.__getattribute__")))
    (gg_InvalidShape : PySem.W.findIn K (.ref C_InvalidShape) "__getattr__" = some none)
    (nb_InvalidShape : PySem.W.findIn K (.ref C_InvalidShape) "value" = some none)
    (a1_InvalidShape : PySem.W.findIn K (.ref C_InvalidShape) "__init__" = some (some (.ref fI_InvalidShape)))
    (t1_InvalidShape : PySem.W.typeIn K (.ref fI_InvalidShape) = some (.type "function"))
    (l1_InvalidShape : K.lookup fI_InvalidShape = some ⟨oci_InvalidShape, odi_InvalidShape, .func (PySem.W.fnOf "__init__" "InvalidShape.__init__" (defArgs s_init_InvalidShape) (defBody s_init_InvalidShape) (defScope s_init_InvalidShape) .none kVi_InvalidShape dci_InvalidShape pmi_InvalidShape ani_InvalidShape cdi_InvalidShape cti_InvalidShape), sli_InvalidShape⟩)
    (c1_InvalidShape : PySem.W.codeIn K cdi_InvalidShape "InvalidShape.__init__" = true)
    (k1_InvalidShape : PySem.W.keepIn K (.ref fI_InvalidShape) = true)
    (kC_InvalidShape : PySem.W.keepIn K (.ref C_InvalidShape) = true)
    (eC_InvalidShape : PySem.W.subIn K (.ref C_InvalidShape) (.type "BaseException") = some true)
    (tC_InvalidShape : PySem.W.typeIn K (.ref C_InvalidShape) = some (.type "type"))
    (hC_InvalidShape : PySem.W.hasDictIn K C_InvalidShape = true)
    (hcl_InvalidShape : PySem.W.findIn K (.ref C_InvalidShape) "__class__" = some (some (.builtin "object.__class__")))
    (hmo_InvalidShape : PySem.W.mroIn K C_InvalidShape (.type "object") = some true)
    (aC_InvalidNumber : PySem.W.nsIn K mainGlobals "InvalidNumber" = some (some (.ref C_InvalidNumber)))
    (xL_InvalidNumber : K.lookup C_InvalidNumber = some (excClassObj nm_InvalidNumber q0_InvalidNumber C_InvalidNumber N_InvalidNumber bs_InvalidNumber [.type "ValueError", .type "Exception", .type "BaseException", .type "object"] true sn_InvalidNumber sub_InvalidNumber ab_InvalidNumber col_InvalidNumber dd_InvalidNumber m0_InvalidNumber m1_InvalidNumber m2_InvalidNumber m3_InvalidNumber m5_InvalidNumber "ValueError.__new__"))
    (sa_InvalidNumber : PySem.W.findIn K (.ref C_InvalidNumber) "__setattr__" = some (some (.builtin "object.__setattr__")))
    (ga_InvalidNumber : PySem.W.findIn K (.ref C_InvalidNumber) "__getattribute__" = some (some (.builtin "BaseException.__getattribute__")))
    (gg_InvalidNumber : PySem.W.findIn K (.ref C_InvalidNumber) "__getattr__" = some none)
    (nb_InvalidNumber : PySem.W.findIn K (.ref C_InvalidNumber) "value" = some none)
    (a1_InvalidNumber : PySem.W.findIn K (.ref C_InvalidNumber) "__init__" = some (some (.ref fI_InvalidNumber)))
    (t1_InvalidNumber : PySem.W.typeIn K (.ref fI_InvalidNumber) = some (.type "function"))
    (l1_InvalidNumber : K.lookup fI_InvalidNumber = some ⟨oci_InvalidNumber, odi_InvalidNumber, .func (PySem.W.fnOf "__init__" "InvalidNumber.__init__" (defArgs s_init_InvalidNumber) (defBody s_init_InvalidNumber) (defScope s_init_InvalidNumber) .none kVi_InvalidNumber dci_InvalidNumber pmi_InvalidNumber ani_InvalidNumber cdi_InvalidNumber cti_InvalidNumber), sli_InvalidNumber⟩)
    (c1_InvalidNumber : PySem.W.codeIn K cdi_InvalidNumber "InvalidNumber.__init__" = true)
    (k1_InvalidNumber : PySem.W.keepIn K (.ref fI_InvalidNumber) = true)
    (kC_InvalidNumber : PySem.W.keepIn K (.ref C_InvalidNumber) = true)
    (eC_InvalidNumber : PySem.W.subIn K (.ref C_InvalidNumber) (.type "BaseException") = some true)
    (tC_InvalidNumber : PySem.W.typeIn K (.ref C_InvalidNumber) = some (.type "type"))
    (hC_InvalidNumber : PySem.W.hasDictIn K C_InvalidNumber = true)
    (hcl_InvalidNumber : PySem.W.findIn K (.ref C_InvalidNumber) "__class__" = some (some (.builtin "object.__class__")))
    (hmo_InvalidNumber : PySem.W.mroIn K C_InvalidNumber (.type "object") = some true)
    (hgs : PySem.W.specialIn K (.builtin "object.__class__") "__get__" = some (some (.builtin "getset_descriptor.__get__")))
    (htk : PySem.W.takesIn K (.builtin "object.__class__") = some true)
    (z_abs : PySem.W.nsIn K mainGlobals "abs" = some none)
    (z_bool : PySem.W.nsIn K mainGlobals "bool" = some none)
    (z_enumerate : PySem.W.nsIn K mainGlobals "enumerate" = some none)
    (z_int : PySem.W.nsIn K mainGlobals "int" = some none)
    (z_isinstance : PySem.W.nsIn K mainGlobals "isinstance" = some none)
    (z_len : PySem.W.nsIn K mainGlobals "len" = some none)
    (z_list : PySem.W.nsIn K mainGlobals "list" = some none)
    (z_max : PySem.W.nsIn K mainGlobals "max" = some none)
    (z_range : PySem.W.nsIn K mainGlobals "range" = some none)
    (z_str : PySem.W.nsIn K mainGlobals "str" = some none)
    (z_tuple : PySem.W.nsIn K mainGlobals "tuple" = some none)
    (z_zip : PySem.W.nsIn K mainGlobals "zip" = some none)
    (Kl : K.all (fun p => !(p.2.cls == .type "list")) = true) : LawV PySem.Challenge.rw_whatiftimes_k34_falls w K 19 63 mg fa h := by
  have e := hfa.symm.trans (PySem.W.mg_of X G a_xlaw)
  cases e
  refine ⟨[], Tx.plain [] (cvOf ⟨C_InvalidShape, C_InvalidNumber, C_Shape⟩), m_law, (fun p hp => by cases hp), (fun p hp => by cases hp), (fun p hp => by cases hp), Kl, (fun p hp => by cases hp), fun _ => trivial, fun base KB GB TB => ?_, true_⟩

  have oex_InvalidShape : OexH K C_InvalidShape := ⟨⟨"Exception", _, _, _, "Exception", _, F.excBase_Exception, F.store_Exception, nm_InvalidShape, q0_InvalidShape, N_InvalidShape, bs_InvalidShape, _, sn_InvalidShape, sub_InvalidShape, ab_InvalidShape, col_InvalidShape, dd_InvalidShape, m0_InvalidShape, m1_InvalidShape, m2_InvalidShape, m3_InvalidShape, m5_InvalidShape, xL_InvalidShape, by first | decide +kernel | rfl, by first | decide +kernel | rfl, by first | decide +kernel | rfl, by first | decide +kernel | rfl⟩, sa_InvalidShape, eC_InvalidShape, tC_InvalidShape, kC_InvalidShape⟩
  have FI_InvalidShape := fun_mk (st := s_init_InvalidShape) l1_InvalidShape c1_InvalidShape k1_InvalidShape
  have bI_InvalidShape := FI_InvalidShape.binds (ps := ["self", "value"]) fun _ _ _ _ _ _ us hl => match us, hl with | [_, _], _ => rfl
  have bK_InvalidShape := kbind1 (fl := "value") (ps := ["self", "value"]) FI_InvalidShape fun _ _ _ _ _ _ _ _ => rfl
  have oex_InvalidNumber : OexH K C_InvalidNumber := ⟨⟨"ValueError", _, _, _, "ValueError", _, F.excBase_ValueError, F.store_ValueError, nm_InvalidNumber, q0_InvalidNumber, N_InvalidNumber, bs_InvalidNumber, _, sn_InvalidNumber, sub_InvalidNumber, ab_InvalidNumber, col_InvalidNumber, dd_InvalidNumber, m0_InvalidNumber, m1_InvalidNumber, m2_InvalidNumber, m3_InvalidNumber, m5_InvalidNumber, xL_InvalidNumber, by first | decide +kernel | rfl, by first | decide +kernel | rfl, by first | decide +kernel | rfl, by first | decide +kernel | rfl⟩, sa_InvalidNumber, eC_InvalidNumber, tC_InvalidNumber, kC_InvalidNumber⟩
  have FI_InvalidNumber := fun_mk (st := s_init_InvalidNumber) l1_InvalidNumber c1_InvalidNumber k1_InvalidNumber
  have bI_InvalidNumber := FI_InvalidNumber.binds (ps := ["self", "value"]) fun _ _ _ _ _ _ us hl => match us, hl with | [_, _], _ => rfl
  have bK_InvalidNumber := kbind1 (fl := "value") (ps := ["self", "value"]) FI_InvalidNumber fun _ _ _ _ _ _ _ _ => rfl
  have F_xiswhole := fun_mk (st := s_is_whole) l_xiswhole c_xiswhole1 k_xiswhole
  have b_xiswhole := F_xiswhole.binds (ps := ["value"]) fun _ _ _ _ _ _ us hl => match us, hl with | [_], _ => rfl
  have F_xiswholepair := fun_mk (st := s_is_whole_pair) l_xiswholepair c_xiswholepair1 k_xiswholepair
  have b_xiswholepair := F_xiswholepair.binds (ps := ["value"]) fun _ _ _ _ _ _ us hl => match us, hl with | [_], _ => rfl
  have F_xsignof := fun_mk (st := s_sign_of) l_xsignof c_xsignof1 k_xsignof
  have b_xsignof := F_xsignof.binds (ps := ["number"]) fun _ _ _ _ _ _ us hl => match us, hl with | [_], _ => rfl
  have F_xcommondivisor := fun_mk (st := s_common_divisor) l_xcommondivisor c_xcommondivisor1 k_xcommondivisor
  have b_xcommondivisor := F_xcommondivisor.binds (ps := ["one", "other"]) fun _ _ _ _ _ _ us hl => match us, hl with | [_, _], _ => rfl
  have F_xisfraction := fun_mk (st := s_is_fraction) l_xisfraction c_xisfraction1 k_xisfraction
  have b_xisfraction := F_xisfraction.binds (ps := ["value"]) fun _ _ _ _ _ _ us hl => match us, hl with | [_], _ => rfl
  have F_xrequirefraction := fun_mk (st := s_require_fraction) l_xrequirefraction c_xrequirefraction1 k_xrequirefraction
  have b_xrequirefraction := F_xrequirefraction.binds (ps := ["value"]) fun _ _ _ _ _ _ us hl => match us, hl with | [_], _ => rfl
  have F_xisslowness := fun_mk (st := s_is_slowness) l_xisslowness c_xisslowness1 k_xisslowness
  have b_xisslowness := F_xisslowness.binds (ps := ["value"]) fun _ _ _ _ _ _ us hl => match us, hl with | [_], _ => rfl
  have F_xfraction := fun_mk (st := s_fraction) l_xfraction c_xfraction1 k_xfraction
  have b_xfraction := F_xfraction.binds (ps := ["number", "divisor"]) fun _ _ _ _ _ _ us hl => match us, hl with | [_, _], _ => rfl
  have F_xorderof := fun_mk (st := s_order_of) l_xorderof c_xorderof1 k_xorderof
  have b_xorderof := F_xorderof.binds (ps := ["one", "other"]) fun _ _ _ _ _ _ us hl => match us, hl with | [_, _], _ => rfl
  have F_xcompared := fun_mk (st := s_compared) l_xcompared c_xcompared1 k_xcompared
  have b_xcompared := F_xcompared.binds (ps := ["one", "other"]) fun _ _ _ _ _ _ us hl => match us, hl with | [_, _], _ => rfl
  have F_xsumoftwo := fun_mk (st := s_sum_of_two) l_xsumoftwo c_xsumoftwo1 k_xsumoftwo
  have b_xsumoftwo := F_xsumoftwo.binds (ps := ["total", "each"]) fun _ _ _ _ _ _ us hl => match us, hl with | [_, _], _ => rfl
  have F_xtotalof := fun_mk (st := s_total_of) l_xtotalof c_xtotalof1 k_xtotalof
  have b_xtotalof := F_xtotalof.binds (ps := ["some"]) fun _ _ _ _ _ _ us hl => match us, hl with | [_], _ => rfl
  have F_xisline := fun_mk (st := s_is_line) l_xisline c_xisline1 k_xisline
  have b_xisline := F_xisline.binds (ps := ["value"]) fun _ _ _ _ _ _ us hl => match us, hl with | [_], _ => rfl
  have F_xrequireline := fun_mk (st := s_require_line) l_xrequireline c_xrequireline1 k_xrequireline
  have b_xrequireline := F_xrequireline.binds (ps := ["value"]) fun _ _ _ _ _ _ us hl => match us, hl with | [_], _ => rfl
  have F_xvalueat := fun_mk (st := s_value_at) l_xvalueat c_xvalueat1 k_xvalueat
  have b_xvalueat := F_xvalueat.binds (ps := ["line", "x"]) fun _ _ _ _ _ _ us hl => match us, hl with | [_, _], _ => rfl
  have F_xistupleof := fun_mk (st := s_is_tuple_of) l_xistupleof c_xistupleof1 k_xistupleof
  have b_xistupleof := F_xistupleof.binds (ps := ["value", "word", "size"]) fun _ _ _ _ _ _ us hl => match us, hl with | [_, _, _], _ => rfl
  have F_xispoint := fun_mk (st := s_is_point) l_xispoint c_xispoint1 k_xispoint
  have b_xispoint := F_xispoint.binds (ps := ["value"]) fun _ _ _ _ _ _ us hl => match us, hl with | [_], _ => rfl
  have F_xisgap := fun_mk (st := s_is_gap) l_xisgap c_xisgap1 k_xisgap
  have b_xisgap := F_xisgap.binds (ps := ["value", "low"]) fun _ _ _ _ _ _ us hl => match us, hl with | [_, _], _ => rfl
  have F_xfollows := fun_mk (st := s_follows) l_xfollows c_xfollows1 k_xfollows
  have b_xfollows := F_xfollows.binds (ps := ["piece", "last", "index"]) fun _ _ _ _ _ _ us hl => match us, hl with | [_, _, _], _ => rfl
  have F_xarepieces := fun_mk (st := s_are_pieces) l_xarepieces c_xarepieces1 k_xarepieces
  have b_xarepieces := F_xarepieces.binds (ps := ["value"]) fun _ _ _ _ _ _ us hl => match us, hl with | [_], _ => rfl
  have F_xisneedless := fun_mk (st := s_is_needless) l_xisneedless c_xisneedless1 k_xisneedless
  have b_xisneedless := F_xisneedless.binds (ps := ["left", "point", "right"]) fun _ _ _ _ _ _ us hl => match us, hl with | [_, _, _], _ => rfl
  have F_xshortest := fun_mk (st := s_shortest) l_xshortest c_xshortest1 k_xshortest
  have b_xshortest := F_xshortest.binds (ps := ["pieces"]) fun _ _ _ _ _ _ us hl => match us, hl with | [_], _ => rfl
  have F_xhighof := fun_mk (st := s_high_of) l_xhighof c_xhighof1 k_xhighof
  have b_xhighof := F_xhighof.binds (ps := ["pieces"]) fun _ _ _ _ _ _ us hl => match us, hl with | [_], _ => rfl
  have F_xpointsof := fun_mk (st := s_points_of) l_xpointsof c_xpointsof1 k_xpointsof
  have b_xpointsof := F_xpointsof.binds (ps := ["pieces"]) fun _ _ _ _ _ _ us hl => match us, hl with | [_], _ => rfl
  have F_xindexof := fun_mk (st := s_index_of) l_xindexof c_xindexof1 k_xindexof
  have b_xindexof := F_xindexof.binds (ps := ["pieces", "x"]) fun _ _ _ _ _ _ us hl => match us, hl with | [_, _], _ => rfl
  have F_xvalueornone := fun_mk (st := s_value_or_none) l_xvalueornone c_xvalueornone1 k_xvalueornone
  have b_xvalueornone := F_xvalueornone.binds (ps := ["line", "x"]) fun _ _ _ _ _ _ us hl => match us, hl with | [_, _], _ => rfl
  have F_xtimeat := fun_mk (st := s_time_at) l_xtimeat c_xtimeat1 k_xtimeat
  have b_xtimeat := F_xtimeat.binds (ps := ["pieces", "x"]) fun _ _ _ _ _ _ us hl => match us, hl with | [_, _], _ => rfl
  have F_xlineafter := fun_mk (st := s_line_after) l_xlineafter c_xlineafter1 k_xlineafter
  have b_xlineafter := F_xlineafter.binds (ps := ["pieces", "x"]) fun _ _ _ _ _ _ us hl => match us, hl with | [_, _], _ => rfl
  have F_xpairsum := fun_mk (st := s_pair_sum) l_xpairsum c_xpairsum1 k_xpairsum
  have b_xpairsum := F_xpairsum.binds (ps := ["piece"]) fun _ _ _ _ _ _ us hl => match us, hl with | [_], _ => rfl
  have F_xpaired := fun_mk (st := s_paired) l_xpaired c_xpaired1 k_xpaired
  have b_xpaired := F_xpaired.binds (ps := ["one", "other", "points"]) fun _ _ _ _ _ _ us hl => match us, hl with | [_, _, _], _ => rfl
  have F_xnextorder := fun_mk (st := s_next_order) l_xnextorder c_xnextorder1 k_xnextorder
  have b_xnextorder := F_xnextorder.binds (ps := ["one", "other", "first", "second"]) fun _ _ _ _ _ _ us hl => match us, hl with | [_, _, _, _], _ => rfl
  have F_xmerged := fun_mk (st := s_merged) l_xmerged c_xmerged1 k_xmerged
  have b_xmerged := F_xmerged.binds (ps := ["one", "other"]) fun _ _ _ _ _ _ us hl => match us, hl with | [_, _], _ => rfl
  have F_xsums := fun_mk (st := s_sums) l_xsums c_xsums1 k_xsums
  have b_xsums := F_xsums.binds (ps := ["one", "other"]) fun _ _ _ _ _ _ us hl => match us, hl with | [_, _], _ => rfl
  have F_xpointswithsides := fun_mk (st := s_points_with_sides) l_xpointswithsides c_xpointswithsides1 k_xpointswithsides
  have b_xpointswithsides := F_xpointswithsides.binds (ps := ["pieces"]) fun _ _ _ _ _ _ us hl => match us, hl with | [_], _ => rfl
  have F_xisdrop := fun_mk (st := s_is_drop) l_xisdrop c_xisdrop1 k_xisdrop
  have b_xisdrop := F_xisdrop.binds (ps := ["one", "other"]) fun _ _ _ _ _ _ us hl => match us, hl with | [_, _], _ => rfl
  have F_xisjumpdown := fun_mk (st := s_is_jump_down) l_xisjumpdown c_xisjumpdown1 k_xisjumpdown
  have b_xisjumpdown := F_xisjumpdown.binds (ps := ["before", "time", "after"]) fun _ _ _ _ _ _ us hl => match us, hl with | [_, _, _], _ => rfl
  have F_xShapeinit := fun_mk (st := s_Shape_init) l_xShapeinit c_xShapeinit1 k_xShapeinit
  have b_xShapeinit := F_xShapeinit.binds (ps := ["self", "pieces"]) fun _ _ _ _ _ _ us hl => match us, hl with | [_, _], _ => rfl
  have F_xShapepieces := fun_mk (st := s_Shape_pieces) l_xShapepieces c_xShapepieces1 k_xShapepieces
  have b_xShapepieces := F_xShapepieces.binds (ps := ["self"]) fun _ _ _ _ _ _ us hl => match us, hl with | [_], _ => rfl
  have F_xShapelow := fun_mk (st := s_Shape_low) l_xShapelow c_xShapelow1 k_xShapelow
  have b_xShapelow := F_xShapelow.binds (ps := ["self"]) fun _ _ _ _ _ _ us hl => match us, hl with | [_], _ => rfl
  have F_xShapehigh := fun_mk (st := s_Shape_high) l_xShapehigh c_xShapehigh1 k_xShapehigh
  have b_xShapehigh := F_xShapehigh.binds (ps := ["self"]) fun _ _ _ _ _ _ us hl => match us, hl with | [_], _ => rfl
  have F_xShaperequiresamerange := fun_mk (st := s_Shape_require_same_range) l_xShaperequiresamerange c_xShaperequiresamerange1 k_xShaperequiresamerange
  have b_xShaperequiresamerange := F_xShaperequiresamerange.binds (ps := ["self", "other"]) fun _ _ _ _ _ _ us hl => match us, hl with | [_, _], _ => rfl
  have F_xShapeadd := fun_mk (st := s_Shape_add) l_xShapeadd c_xShapeadd1 k_xShapeadd
  have b_xShapeadd := F_xShapeadd.binds (ps := ["self", "other"]) fun _ _ _ _ _ _ us hl => match us, hl with | [_, _], _ => rfl
  have F_xShapefalls := fun_mk (st := s_Shape_falls) l_xShapefalls c_xShapefalls1 k_xShapefalls
  have b_xShapefalls := F_xShapefalls.binds (ps := ["self"]) fun _ _ _ _ _ _ us hl => match us, hl with | [_], _ => rfl
  have F_xlawnumbers := fun_mk (st := s__law_numbers) l_xlawnumbers c_xlawnumbers1 k_xlawnumbers
  have b_xlawnumbers := F_xlawnumbers.binds (ps := ["_law_cell", "_law_salt", "_law_sizes"]) fun _ _ _ _ _ _ us hl => match us, hl with | [_, _, _], _ => rfl
  have F_xlawfraction := fun_mk (st := s__law_fraction) l_xlawfraction c_xlawfraction1 k_xlawfraction
  have b_xlawfraction := F_xlawfraction.binds (ps := ["_law_number", "_law_divisor"]) fun _ _ _ _ _ _ us hl => match us, hl with | [_, _], _ => rfl
  have F_xlawline := fun_mk (st := s__law_line) l_xlawline c_xlawline1 k_xlawline
  have b_xlawline := F_xlawline.binds (ps := ["_law_digits"]) fun _ _ _ _ _ _ us hl => match us, hl with | [_], _ => rfl
  have F_xlawvalue := fun_mk (st := s__law_value) l_xlawvalue c_xlawvalue1 k_xlawvalue
  have b_xlawvalue := F_xlawvalue.binds (ps := ["_law_line_here", "_law_x"]) fun _ _ _ _ _ _ us hl => match us, hl with | [_, _], _ => rfl
  have F_xlawpoints := fun_mk (st := s__law_points) l_xlawpoints c_xlawpoints1 k_xlawpoints
  have b_xlawpoints := F_xlawpoints.binds (ps := ["_law_digits"]) fun _ _ _ _ _ _ us hl => match us, hl with | [_], _ => rfl
  have F_xlawpieces := fun_mk (st := s__law_pieces) l_xlawpieces c_xlawpieces1 k_xlawpieces
  have b_xlawpieces := F_xlawpieces.binds (ps := ["_law_digits"]) fun _ _ _ _ _ _ us hl => match us, hl with | [_], _ => rfl
  have F_xlawless := fun_mk (st := s__law_less) l_xlawless c_xlawless1 k_xlawless
  have b_xlawless := F_xlawless.binds (ps := ["_law_one", "_law_other"]) fun _ _ _ _ _ _ us hl => match us, hl with | [_, _], _ => rfl
  have F_xlawgreater := fun_mk (st := s__law_greater) l_xlawgreater c_xlawgreater1 k_xlawgreater
  have b_xlawgreater := F_xlawgreater.binds (ps := ["_law_one", "_law_other"]) fun _ _ _ _ _ _ us hl => match us, hl with | [_, _], _ => rfl
  have F_xlawdue := fun_mk (st := s__law_due) l_xlawdue c_xlawdue1 k_xlawdue
  have b_xlawdue := F_xlawdue.binds (ps := ["_law_pieces_here"]) fun _ _ _ _ _ _ us hl => match us, hl with | [_], _ => rfl
  have F_xlaw := fun_mk (st := s_law) l_xlaw c_xlaw1 k_xlaw
  have b_xlaw := F_xlaw.binds (ps := ["_law_script"]) fun _ _ _ _ _ _ us hl => match us, hl with | [_], _ => rfl
  have cls_Shape : Cls K C_Shape := ⟨pg_Shape, hd_Shape, po_Shape, sa_Shape⟩
  let G9 : Gx PySem.Challenge.rw_whatiftimes_k34_falls.prog w K mg base :=
    { c := ⟨C_InvalidShape, C_InvalidNumber, C_Shape⟩,
      e_InvalidShape := ⟨oex_InvalidShape, PySem.W.mg_of X G aC_InvalidShape, fI_InvalidShape, _, a1_InvalidShape, t1_InvalidShape, ok_init_InvalidShape FI_InvalidShape oex_InvalidShape nb_InvalidShape, bI_InvalidShape, bK_InvalidShape⟩, xf_InvalidShape := ⟨ga_InvalidShape, gg_InvalidShape, eC_InvalidShape, hC_InvalidShape⟩, no_InvalidShape := nb_InvalidShape, xc_InvalidShape := ⟨ga_InvalidShape, gg_InvalidShape, eC_InvalidShape, hC_InvalidShape, hcl_InvalidShape, hgs, htk, hmo_InvalidShape⟩,
      e_InvalidNumber := ⟨oex_InvalidNumber, PySem.W.mg_of X G aC_InvalidNumber, fI_InvalidNumber, _, a1_InvalidNumber, t1_InvalidNumber, ok_init_InvalidNumber FI_InvalidNumber oex_InvalidNumber nb_InvalidNumber, bI_InvalidNumber, bK_InvalidNumber⟩, xf_InvalidNumber := ⟨ga_InvalidNumber, gg_InvalidNumber, eC_InvalidNumber, hC_InvalidNumber⟩, no_InvalidNumber := nb_InvalidNumber, xc_InvalidNumber := ⟨ga_InvalidNumber, gg_InvalidNumber, eC_InvalidNumber, hC_InvalidNumber, hcl_InvalidNumber, hgs, htk, hmo_InvalidNumber⟩,
      mg_Shape := PySem.W.mg_of X G aC_Shape, cls_Shape := cls_Shape, ic_Shape := ⟨cls_Shape, hcl_Shape, hgs, htk, hmo_Shape⟩, mkc_Shape := ⟨mki_Shape, a_xShapeinit, i_xShapeinit, kpC_Shape⟩, kit_Shape := kiS_Shape, kt_Shape := (fun t ht => of_decide_eq_true (tys_of kiT_Shape t ht)), nf_Shape := tys_of kiN_Shape, nfs_Shape := kiF_Shape,
      na_Shape_rows := na_Shape_rows,
      me_Shape_pieces := ⟨a_xShapepieces, i_xShapepieces, k_xShapepieces⟩,
      me_Shape_require_same_range := ⟨a_xShaperequiresamerange, i_xShaperequiresamerange, k_xShaperequiresamerange⟩,
      me_Shape_falls := ⟨a_xShapefalls, i_xShapefalls, k_xShapefalls⟩,
      pa_Shape_low := _, pr_Shape_low := ⟨pt_xShapelow, pg_xShapelow, pk_xShapelow, re_xShapelow, pr_xShapelow⟩,
      pa_Shape_high := _, pr_Shape_high := ⟨pt_xShapehigh, pg_xShapehigh, pk_xShapehigh, re_xShapehigh, pr_xShapehigh⟩,
      sf_Shape := kiP_Shape,
      ho_Shape_add := a_xShapeadd, hof_Shape_add := i_xShapeadd,
      f_is_whole := _, d_is_whole := _, F_is_whole := F_xiswhole, g_is_whole := PySem.W.mg_of X G a_xiswhole, n_is_whole := b_xiswhole, k_is_whole := k_xiswhole,
      f_is_whole_pair := _, d_is_whole_pair := _, F_is_whole_pair := F_xiswholepair, g_is_whole_pair := PySem.W.mg_of X G a_xiswholepair, n_is_whole_pair := b_xiswholepair, k_is_whole_pair := k_xiswholepair,
      f_sign_of := _, d_sign_of := _, F_sign_of := F_xsignof, g_sign_of := PySem.W.mg_of X G a_xsignof, n_sign_of := b_xsignof, k_sign_of := k_xsignof,
      f_common_divisor := _, d_common_divisor := _, F_common_divisor := F_xcommondivisor, g_common_divisor := PySem.W.mg_of X G a_xcommondivisor, n_common_divisor := b_xcommondivisor, k_common_divisor := k_xcommondivisor,
      f_is_fraction := _, d_is_fraction := _, F_is_fraction := F_xisfraction, g_is_fraction := PySem.W.mg_of X G a_xisfraction, n_is_fraction := b_xisfraction, k_is_fraction := k_xisfraction,
      f_require_fraction := _, d_require_fraction := _, F_require_fraction := F_xrequirefraction, g_require_fraction := PySem.W.mg_of X G a_xrequirefraction, n_require_fraction := b_xrequirefraction, k_require_fraction := k_xrequirefraction,
      f_is_slowness := _, d_is_slowness := _, F_is_slowness := F_xisslowness, g_is_slowness := PySem.W.mg_of X G a_xisslowness, n_is_slowness := b_xisslowness, k_is_slowness := k_xisslowness,
      f_fraction := _, d_fraction := _, F_fraction := F_xfraction, g_fraction := PySem.W.mg_of X G a_xfraction, n_fraction := b_xfraction, k_fraction := k_xfraction,
      f_order_of := _, d_order_of := _, F_order_of := F_xorderof, g_order_of := PySem.W.mg_of X G a_xorderof, n_order_of := b_xorderof, k_order_of := k_xorderof,
      f_compared := _, d_compared := _, F_compared := F_xcompared, g_compared := PySem.W.mg_of X G a_xcompared, n_compared := b_xcompared, k_compared := k_xcompared,
      f_sum_of_two := _, d_sum_of_two := _, F_sum_of_two := F_xsumoftwo, g_sum_of_two := PySem.W.mg_of X G a_xsumoftwo, n_sum_of_two := b_xsumoftwo, k_sum_of_two := k_xsumoftwo,
      f_total_of := _, d_total_of := _, F_total_of := F_xtotalof, g_total_of := PySem.W.mg_of X G a_xtotalof, n_total_of := b_xtotalof, k_total_of := k_xtotalof,
      f_is_line := _, d_is_line := _, F_is_line := F_xisline, g_is_line := PySem.W.mg_of X G a_xisline, n_is_line := b_xisline, k_is_line := k_xisline,
      f_require_line := _, d_require_line := _, F_require_line := F_xrequireline, g_require_line := PySem.W.mg_of X G a_xrequireline, n_require_line := b_xrequireline, k_require_line := k_xrequireline,
      f_value_at := _, d_value_at := _, F_value_at := F_xvalueat, g_value_at := PySem.W.mg_of X G a_xvalueat, n_value_at := b_xvalueat, k_value_at := k_xvalueat,
      f_is_tuple_of := _, d_is_tuple_of := _, F_is_tuple_of := F_xistupleof, g_is_tuple_of := PySem.W.mg_of X G a_xistupleof, n_is_tuple_of := b_xistupleof, k_is_tuple_of := k_xistupleof,
      f_is_point := _, d_is_point := _, F_is_point := F_xispoint, g_is_point := PySem.W.mg_of X G a_xispoint, n_is_point := b_xispoint, k_is_point := k_xispoint,
      f_is_gap := _, d_is_gap := _, F_is_gap := F_xisgap, g_is_gap := PySem.W.mg_of X G a_xisgap, n_is_gap := b_xisgap, k_is_gap := k_xisgap,
      f_follows := _, d_follows := _, F_follows := F_xfollows, g_follows := PySem.W.mg_of X G a_xfollows, n_follows := b_xfollows, k_follows := k_xfollows,
      f_are_pieces := _, d_are_pieces := _, F_are_pieces := F_xarepieces, g_are_pieces := PySem.W.mg_of X G a_xarepieces, n_are_pieces := b_xarepieces, k_are_pieces := k_xarepieces,
      f_is_needless := _, d_is_needless := _, F_is_needless := F_xisneedless, g_is_needless := PySem.W.mg_of X G a_xisneedless, n_is_needless := b_xisneedless, k_is_needless := k_xisneedless,
      f_shortest := _, d_shortest := _, F_shortest := F_xshortest, g_shortest := PySem.W.mg_of X G a_xshortest, n_shortest := b_xshortest, k_shortest := k_xshortest,
      f_high_of := _, d_high_of := _, F_high_of := F_xhighof, g_high_of := PySem.W.mg_of X G a_xhighof, n_high_of := b_xhighof, k_high_of := k_xhighof,
      f_points_of := _, d_points_of := _, F_points_of := F_xpointsof, g_points_of := PySem.W.mg_of X G a_xpointsof, n_points_of := b_xpointsof, k_points_of := k_xpointsof,
      f_index_of := _, d_index_of := _, F_index_of := F_xindexof, g_index_of := PySem.W.mg_of X G a_xindexof, n_index_of := b_xindexof, k_index_of := k_xindexof,
      f_value_or_none := _, d_value_or_none := _, F_value_or_none := F_xvalueornone, g_value_or_none := PySem.W.mg_of X G a_xvalueornone, n_value_or_none := b_xvalueornone, k_value_or_none := k_xvalueornone,
      f_time_at := _, d_time_at := _, F_time_at := F_xtimeat, g_time_at := PySem.W.mg_of X G a_xtimeat, n_time_at := b_xtimeat, k_time_at := k_xtimeat,
      f_line_after := _, d_line_after := _, F_line_after := F_xlineafter, g_line_after := PySem.W.mg_of X G a_xlineafter, n_line_after := b_xlineafter, k_line_after := k_xlineafter,
      f_pair_sum := _, d_pair_sum := _, F_pair_sum := F_xpairsum, g_pair_sum := PySem.W.mg_of X G a_xpairsum, n_pair_sum := b_xpairsum, k_pair_sum := k_xpairsum,
      f_paired := _, d_paired := _, F_paired := F_xpaired, g_paired := PySem.W.mg_of X G a_xpaired, n_paired := b_xpaired, k_paired := k_xpaired,
      f_next_order := _, d_next_order := _, F_next_order := F_xnextorder, g_next_order := PySem.W.mg_of X G a_xnextorder, n_next_order := b_xnextorder, k_next_order := k_xnextorder,
      f_merged := _, d_merged := _, F_merged := F_xmerged, g_merged := PySem.W.mg_of X G a_xmerged, n_merged := b_xmerged, k_merged := k_xmerged,
      f_sums := _, d_sums := _, F_sums := F_xsums, g_sums := PySem.W.mg_of X G a_xsums, n_sums := b_xsums, k_sums := k_xsums,
      f_points_with_sides := _, d_points_with_sides := _, F_points_with_sides := F_xpointswithsides, g_points_with_sides := PySem.W.mg_of X G a_xpointswithsides, n_points_with_sides := b_xpointswithsides, k_points_with_sides := k_xpointswithsides,
      f_is_drop := _, d_is_drop := _, F_is_drop := F_xisdrop, g_is_drop := PySem.W.mg_of X G a_xisdrop, n_is_drop := b_xisdrop, k_is_drop := k_xisdrop,
      f_is_jump_down := _, d_is_jump_down := _, F_is_jump_down := F_xisjumpdown, g_is_jump_down := PySem.W.mg_of X G a_xisjumpdown, n_is_jump_down := b_xisjumpdown, k_is_jump_down := k_xisjumpdown,
      f_Shape_init := _, d_Shape_init := _, F_Shape_init := F_xShapeinit, n_Shape_init := b_xShapeinit, k_Shape_init := k_xShapeinit,
      f_Shape_pieces := _, d_Shape_pieces := _, F_Shape_pieces := F_xShapepieces, n_Shape_pieces := b_xShapepieces, k_Shape_pieces := k_xShapepieces,
      f_Shape_low := _, d_Shape_low := _, F_Shape_low := F_xShapelow, n_Shape_low := b_xShapelow, k_Shape_low := k_xShapelow,
      f_Shape_high := _, d_Shape_high := _, F_Shape_high := F_xShapehigh, n_Shape_high := b_xShapehigh, k_Shape_high := k_xShapehigh,
      f_Shape_require_same_range := _, d_Shape_require_same_range := _, F_Shape_require_same_range := F_xShaperequiresamerange, n_Shape_require_same_range := b_xShaperequiresamerange, k_Shape_require_same_range := k_xShaperequiresamerange,
      f_Shape_add := _, d_Shape_add := _, F_Shape_add := F_xShapeadd, n_Shape_add := b_xShapeadd, k_Shape_add := k_xShapeadd,
      f_Shape_falls := _, d_Shape_falls := _, F_Shape_falls := F_xShapefalls, n_Shape_falls := b_xShapefalls, k_Shape_falls := k_xShapefalls,
      f__law_numbers := _, d__law_numbers := _, F__law_numbers := F_xlawnumbers, g__law_numbers := PySem.W.mg_of X G a_xlawnumbers, n__law_numbers := b_xlawnumbers, k__law_numbers := k_xlawnumbers,
      f__law_fraction := _, d__law_fraction := _, F__law_fraction := F_xlawfraction, g__law_fraction := PySem.W.mg_of X G a_xlawfraction, n__law_fraction := b_xlawfraction, k__law_fraction := k_xlawfraction,
      f__law_line := _, d__law_line := _, F__law_line := F_xlawline, g__law_line := PySem.W.mg_of X G a_xlawline, n__law_line := b_xlawline, k__law_line := k_xlawline,
      f__law_value := _, d__law_value := _, F__law_value := F_xlawvalue, g__law_value := PySem.W.mg_of X G a_xlawvalue, n__law_value := b_xlawvalue, k__law_value := k_xlawvalue,
      f__law_points := _, d__law_points := _, F__law_points := F_xlawpoints, g__law_points := PySem.W.mg_of X G a_xlawpoints, n__law_points := b_xlawpoints, k__law_points := k_xlawpoints,
      f__law_pieces := _, d__law_pieces := _, F__law_pieces := F_xlawpieces, g__law_pieces := PySem.W.mg_of X G a_xlawpieces, n__law_pieces := b_xlawpieces, k__law_pieces := k_xlawpieces,
      f__law_less := _, d__law_less := _, F__law_less := F_xlawless, g__law_less := PySem.W.mg_of X G a_xlawless, n__law_less := b_xlawless, k__law_less := k_xlawless,
      f__law_greater := _, d__law_greater := _, F__law_greater := F_xlawgreater, g__law_greater := PySem.W.mg_of X G a_xlawgreater, n__law_greater := b_xlawgreater, k__law_greater := k_xlawgreater,
      f__law_due := _, d__law_due := _, F__law_due := F_xlawdue, g__law_due := PySem.W.mg_of X G a_xlawdue, n__law_due := b_xlawdue, k__law_due := k_xlawdue,
      f_law := _, d_law := _, F_law := F_xlaw, g_law := PySem.W.mg_of X G a_xlaw, n_law := b_xlaw, k_law := k_xlaw,
      b_abs := PySem.W.mg_none_of X G z_abs, b_bool := PySem.W.mg_none_of X G z_bool, b_enumerate := PySem.W.mg_none_of X G z_enumerate, b_int := PySem.W.mg_none_of X G z_int, b_isinstance := PySem.W.mg_none_of X G z_isinstance, b_len := PySem.W.mg_none_of X G z_len, b_list := PySem.W.mg_none_of X G z_list, b_max := PySem.W.mg_none_of X G z_max, b_range := PySem.W.mg_none_of X G z_range, b_str := PySem.W.mg_none_of X G z_str, b_tuple := PySem.W.mg_none_of X G z_tuple, b_zip := PySem.W.mg_none_of X G z_zip }
  exact ok_law G9
end K34
end
section
namespace K34
open PySem L2 VL SHP
section
variable {h g : Hv} {p q : Nat} {R P : List Pc} {x : QQ} {u v b t a l : Option QQ}
theorem greater_ok (fu : FqO u) (fv : FqO v) : m__law_greater [qo u, qo v] h = .val (.bl (drop u v)) h := by
  have st : startW ["_law_one", "_law_other"] [qo u, qo v] = [some (qo u), some (qo v)] := rfl
  have n1 : ∀ o : Option QQ, mIs true (qo o) .non h = .val (.bl o.isSome) h := fun o => by
    rw [nn_o]
    cases o <;> rfl
  unfold m__law_greater
  rw [mDef_eq, st]
  cases u with
  | none => simp [mIs, drop]
  | some u =>
    cases v with
    | none => simp [mIs, drop]
    | some v =>
      have c := less_ok (h := h) (x := v) (y := u) fv fu
      have n2 := n1 (some u)
      have n3 := n1 (some v)
      simp only [qo_some] at n2 n3
      simp only [mRet_eq, mAndV_eq, mT_eq, m2_eq, mVar0, mVarS, bind_val, mC_eq, qo_some, n2, n3, asB_bl, Option.isSome_some, if_true, mCall_eq, mCons_eq, mNil_eq, List.length_cons, List.length_nil, Nat.zero_add, Nat.reduceAdd, c, andS_val, endS_rt]
      rfl
theorem sides_of (wf : Wf R) {k : Nat} (e : R[2 * k]? = some (.at x t)) : bef R k x = lvR R x ∧ t = tmR R x ∧ aft R k x = rvR R x := by
  have z := row_eq wf e
  unfold row srow at z
  rw [e] at z
  dsimp only at z
  injection z with z
  injection z with _ z
  injection z with z1 z
  injection z with z2 z
  injection z with z3 _
  exact ⟨by rw [← unqo_qo (bef R k x), z1, unqo_qo], by rw [← unqo_qo t, z2, unqo_qo], by rw [← unqo_qo (aft R k x), z3, unqo_qo]⟩
abbrev dE (p q : Nat) (i : Int) (w : W) (o4 o5 o6 : Option W) : Ws := [some (.ref p), some (.ref q), some (.int i), some w, o4, o5, o6]
abbrev d4 : MS := (mSet 4 (mIf (mT (m2 mGt (mVar 2) (mC (.int 0)))) (mCall 2 m__law_value (mCons (m2 mIx (m2 mIx (mVar 0) (m2 mSub (mVar 2) (mC (.int 1)))) (mC (.int 3))) (mCons (m2 mIx (mVar 3) (mC (.int 1))) mNil))) (mC .non)))
abbrev d5 : MS := (mSet 5 (mIf (mT (m2 mLt (m2 mAdd (mVar 2) (mC (.int 1))) (mB mLen (mCons (mVar 0) mNil)))) (mCall 2 m__law_value (mCons (m2 mIx (m2 mIx (mVar 0) (m2 mAdd (mVar 2) (mC (.int 1)))) (mC (.int 3))) (mCons (m2 mIx (mVar 3) (mC (.int 1))) mNil))) (mC .non)))
abbrev d6 : MS := (mSet 6 (mAndV (m2 (mIs false) (m2 mIx (mVar 3) (mC (.int 2))) (mC .non)) (mCall 2 m__law_greater (mCons (mVar 4) (mCons (mVar 5) mNil)))))
abbrev d7 : MS := (mIfS (mOrT (mT (mCall 2 m__law_greater (mCons (mVar 4) (mCons (m2 mIx (mVar 3) (mC (.int 2))) mNil)))) (mOrT (mT (mCall 2 m__law_greater (mCons (m2 mIx (mVar 3) (mC (.int 2))) (mCons (mVar 5) mNil)))) (mT (mVar 6)))) (mExpr (mApp (mVar 1) (mTup (mCons (m2 mIx (mVar 3) (mC (.int 1))) (mCons (mVar 4) (mCons (m2 mIx (mVar 3) (mC (.int 2))) (mCons (mVar 5) mNil))))))) mNext)
abbrev dB : MS := (mIfS (mT (m2 (mEq false) (m2 mIx (mVar 3) (mC (.int 0))) (mC (.str ("at" : Str))))) (mSeq d4 (mSeq d5 (mSeq d6 d7))) mNext)
theorem jd_cond : (drop b t || (drop t a || (t.isNone && drop b a))) = jd b t a := by
  cases t with
  | none =>
    have e1 : drop b none = false := by cases b <;> rfl
    have e2 : drop none a = false := rfl
    rw [e1, e2]
    rfl
  | some t => simp [jd]
theorem d_even {k : Nat} {acc : List W} {o4 o5 o6 : Option W} (e : LP g p P) (wf : Wf P) (pg : ∀ c ∈ P, PgU c) (ex : P[2 * k]? = some (.at x t)) (eq : g[q]? = some (.lst acc)) (hl : acc.length < 5000) :
    ∃ u4 u5 u6, dB (dE p q ((2 * k : Nat) : Int) (pW (.at x t)) o4 o5 o6) g = .nx (dE p q ((2 * k : Nat) : Int) (pW (.at x t)) u4 u5 u6) (if jR P x then g.set q (.lst (acc ++ [srow P x])) else g) := by
  obtain ⟨s1, s2, s3⟩ := sides_of wf ex
  obtain ⟨_, fx, _⟩ := wf_at wf ex
  have hk := lt_of_get ex
  have hx : x ∈ ptsR P := ptsR_mem.mpr ⟨t, List.mem_of_getElem? ex⟩
  have gx := ptsR_gd pg hx
  let w : W := pW (.at x t)
  let i : Int := ((2 * k : Nat) : Int)
  have v0 : ∀ o4 o5 o6 g, mVar 0 (dE p q i w o4 o5 o6) g = .val (.ref p) g := fun _ _ _ g => rfl
  have v1 : ∀ o4 o5 o6 g, mVar 1 (dE p q i w o4 o5 o6) g = .val (.ref q) g := fun _ _ _ g => rfl
  have v2 : ∀ o4 o5 o6 g, mVar 2 (dE p q i w o4 o5 o6) g = .val (.int i) g := fun _ _ _ g => rfl
  have v3 : ∀ o4 o5 o6 g, mVar 3 (dE p q i w o4 o5 o6) g = .val w g := fun _ _ _ g => rfl
  have v4 : ∀ z o5 o6 g, mVar 4 (dE p q i w (some z) o5 o6) g = .val z g := fun _ _ _ g => rfl
  have v5 : ∀ o4 z o6 g, mVar 5 (dE p q i w o4 (some z) o6) g = .val z g := fun _ _ _ g => rfl
  have v6 : ∀ o4 o5 z g, mVar 6 (dE p q i w o4 o5 (some z)) g = .val z g := fun _ _ _ g => rfl
  have w0 : ∀ g, mIx w (.int 0) g = .val (.str ("at" : Str)) g := fun g => rfl
  have w1 : ∀ g, mIx w (.int 1) g = .val (q2 x) g := fun g => rfl
  have w2 : ∀ g, mIx w (.int 2) g = .val (qo t) g := fun g => rfl
  have b4 : d4 (dE p q i w o4 o5 o6) g = .nx (dE p q i w (some (qo (lvR P x))) o5 o6) g := by
    rcases Nat.eq_zero_or_pos k with z | z
    · subst z
      have l0 : lvR P x = none := by
        rw [← s1]
        unfold bef lnAt
        rw [show P[2 * 0 - 1]? = some (.at x t) from ex]
        rfl
      rw [l0]
      simp only [d4, mSet_eq, mIf_eq, mT_eq, m2_eq, v2, bind_val, mC_eq, mGt_int, asB_bl, show decide ((0 : Int) < i) = false from rfl, Bool.false_eq_true, if_false, andS_val]
      rfl
    · obtain ⟨a, t', eb, l, _, e2, _, ll, _⟩ := wf.od (2 * k - 1) (by omega) (by omega)
      have mb : mIx (.ref p) (.int (i - 1)) g = .val (pW (.bt a eb l)) g := e.ixI (by show ((2 * k : Nat) : Int) - 1 = ((2 * k - 1 : Nat) : Int); omega) e2
      have lb : lvR P x = vl l x := by
        rw [← s1]
        unfold bef lnAt
        rw [e2]
      have vo := lvalue_ok (h := g) (l := l) fx ll
      rw [lb]
      simp only [d4, mSet_eq, mIf_eq, mT_eq, m2_eq, v0, v2, v3, bind_val, mC_eq, mGt_int, asB_bl, show decide ((0 : Int) < i) = true from decide_eq_true (by show (0 : Int) < ((2 * k : Nat) : Int); omega), if_true, mCall_eq, mCons_eq, mSub_int, mb, ixB3, w1, mNil_eq, List.length_cons, List.length_nil, Nat.zero_add, Nat.reduceAdd, vo, andS_val]
      rfl
  have b5 : d5 (dE p q i w (some (qo (lvR P x))) o5 o6) g = .nx (dE p q i w (some (qo (lvR P x))) (some (qo (rvR P x))) o6) g := by
    have ln := e.len
    by_cases z : 2 * k + 1 < P.length
    · obtain ⟨a, t', eb, l, _, e2, _, ll, _⟩ := wf.od (2 * k + 1) (by omega) z
      have mb : mIx (.ref p) (.int (i + 1)) g = .val (pW (.bt a eb l)) g := e.ixI (by show ((2 * k : Nat) : Int) + 1 = ((2 * k + 1 : Nat) : Int); omega) e2
      have lb : rvR P x = vl l x := by
        rw [← s3]
        unfold aft lnAt
        rw [e2]
      have vo := lvalue_ok (h := g) (l := l) fx ll
      rw [lb]
      simp only [d5, mSet_eq, mIf_eq, mT_eq, m2_eq, mB_eq, v0, v2, v3, bind_val, mC_eq, mAdd_int, mCons_eq, mNil_eq, ln, mLt_int, asB_bl, show decide (i + 1 < (P.length : Int)) = true from decide_eq_true (by show ((2 * k : Nat) : Int) + 1 < _; omega), if_true, mCall_eq, mb, ixB3, w1, List.length_cons, List.length_nil, Nat.zero_add, Nat.reduceAdd, vo, andS_val]
      rfl
    · have lb : rvR P x = none := by
        rw [← s3]
        unfold aft lnAt
        (rw [List.getElem?_eq_none (by omega)])
        rfl
      rw [lb]
      simp only [d5, mSet_eq, mIf_eq, mT_eq, m2_eq, mB_eq, v0, v2, v3, bind_val, mC_eq, mAdd_int, mCons_eq, mNil_eq, ln, mLt_int, asB_bl, show decide (i + 1 < (P.length : Int)) = false from decide_eq_false (by show ¬ ((2 * k : Nat) : Int) + 1 < _; omega), Bool.false_eq_true, if_false, andS_val]
      rfl
  have f1 := lvR_fq pg gx
  have f2 := tmR_fq pg gx
  have f3 := rvR_fq pg gx
  rw [← s2] at f2
  have b6 : d6 (dE p q i w (some (qo (lvR P x))) (some (qo (rvR P x))) o6) g = .nx (dE p q i w (some (qo (lvR P x))) (some (qo (rvR P x))) (some (.bl (t.isNone && drop (lvR P x) (rvR P x))))) g := by
    have c := greater_ok (h := g) f1 f3
    have z : mIs false (qo t) .non g = .val (.bl t.isNone) g := none_t
    cases tn : t.isNone with
    | true =>
      rw [tn] at z
      simp only [d6, mSet_eq, mAndV_eq, mT_eq, m2_eq, v3, v4, v5, bind_val, mC_eq, w2, z, asB_bl, if_true, mCall_eq, mCons_eq, mNil_eq, List.length_cons, List.length_nil, Nat.zero_add, Nat.reduceAdd, c, andS_val, Bool.true_and]
      rfl
    | false =>
      rw [tn] at z
      simp only [d6, mSet_eq, mAndV_eq, mT_eq, m2_eq, v3, v4, v5, bind_val, mC_eq, w2, z, asB_bl, Bool.false_eq_true, if_false, andS_val, Bool.false_and]
      rfl
  let E : Ws := dE p q i w (some (qo (lvR P x))) (some (qo (rvR P x))) (some (.bl (t.isNone && drop (lvR P x) (rvR P x))))
  have tst : (mOrT (mT (mCall 2 m__law_greater (mCons (mVar 4) (mCons (m2 mIx (mVar 3) (mC (.int 2))) mNil)))) (mOrT (mT (mCall 2 m__law_greater (mCons (m2 mIx (mVar 3) (mC (.int 2))) (mCons (mVar 5) mNil)))) (mT (mVar 6)))) E g = .val (jR P x) g := by
    have c1 := greater_ok (h := g) f1 f2
    have c2 := greater_ok (h := g) f2 f3
    have j : jR P x = (drop (lvR P x) t || (drop t (rvR P x) || (t.isNone && drop (lvR P x) (rvR P x)))) := by
      unfold jR
      rw [← s2, jd_cond]
    rw [j]
    cases q1 : drop (lvR P x) t with
    | true =>
      rw [q1] at c1
      simp only [E, mOrT_eq, mT_eq, mCall_eq, mCons_eq, m2_eq, v3, v4, v5, v6, bind_val, mC_eq, w2, mNil_eq, List.length_cons, List.length_nil, Nat.zero_add, Nat.reduceAdd, if_true, c1, asB_bl, Bool.true_or]
    | false =>
      rw [q1] at c1
      cases q2 : drop t (rvR P x) with
      | true =>
        rw [q2] at c2
        simp only [E, mOrT_eq, mT_eq, mCall_eq, mCons_eq, m2_eq, v3, v4, v5, v6, bind_val, mC_eq, w2, mNil_eq, List.length_cons, List.length_nil, Nat.zero_add, Nat.reduceAdd, if_true, c1, c2, asB_bl, Bool.false_eq_true, if_false, Bool.true_or, Bool.false_or]
      | false =>
        rw [q2] at c2
        simp only [E, mOrT_eq, mT_eq, mCall_eq, mCons_eq, m2_eq, v3, v4, v5, v6, bind_val, mC_eq, w2, mNil_eq, List.length_cons, List.length_nil, Nat.zero_add, Nat.reduceAdd, if_true, c1, c2, asB_bl, Bool.false_eq_true, if_false, Bool.false_or]
  have b7 : d7 E g = .nx E (if jR P x then g.set q (.lst (acc ++ [srow P x])) else g) := by
    unfold d7
    rw [mIfS_eq, tst, andS_val]
    cases jx : jR P x with
    | false => rw [if_neg (by decide), if_neg (by decide)]; rfl
    | true =>
      rw [if_pos rfl, if_pos rfl, mExpr_eq]
      have lm : acc.length < 100000 := by omega
      simp only [E, mApp, v1, v3, v4, v5, bind_val, eq, mTup_eq, mCons_eq, m2_eq, mC_eq, w1, w2, mNil_eq, List.length_cons, List.length_nil, Nat.zero_add, Nat.reduceAdd, show (4 : Nat) ≤ 100000 from by decide, if_true, lm, andS_val]
      unfold srow
      rw [← s2]
  refine ⟨some (qo (lvR P x)), some (qo (rvR P x)), some (.bl (t.isNone && drop (lvR P x) (rvR P x))), ?_⟩
  have ts : (mT (m2 (mEq false) (m2 mIx (mVar 3) (mC (.int 0))) (mC (.str ("at" : Str))))) (dE p q i w o4 o5 o6) g = .val true g := by
    simp only [mT_eq, m2_eq, v3, bind_val, mC_eq, w0, eq_at, asB_bl]
  show dB (dE p q i w o4 o5 o6) g = .nx E _
  unfold dB
  rw [mIfS_eq, ts, andS_val, if_pos rfl, mSeq_eq, b4, thenS_nx, mSeq_eq, b5, thenS_nx, mSeq_eq, b6, thenS_nx, b7]
theorem d_odd {i : Int} {y : Option QQ} {o4 o5 o6 : Option W} : dB (dE p q i (pW (.bt x y l)) o4 o5 o6) g = .nx (dE p q i (pW (.bt x y l)) o4 o5 o6) g := by
  have v3 : ∀ g, mVar 3 (dE p q i (pW (.bt x y l)) o4 o5 o6) g = .val (pW (.bt x y l)) g := fun g => rfl
  have ts : (mT (m2 (mEq false) (m2 mIx (mVar 3) (mC (.int 0))) (mC (.str ("at" : Str))))) (dE p q i (pW (.bt x y l)) o4 o5 o6) g = .val false g := by
    simp only [mT_eq, m2_eq, v3, bind_val, mC_eq, ixB0, eq_ba, asB_bl]
  unfold dB
  rw [mIfS_eq, ts, andS_val, if_neg (by decide), mNext_eq]
def accR (P : List Pc) (k : Nat) : List W := (((ptsR P).take k).filter (jR P)).map (srow P)
theorem due_ok (e : LP h p P) (wf : Wf P) (pg : ∀ c ∈ P, PgU c) (hs : P.length ≤ 1000) : m__law_due [.ref p] h = .val (.ref h.length) (h ++ [.lst (fallsR P)]) := by
  have st : startW ["_law_pieces_here", "_law_found", "_law_at", "_law_piece", "_law_early", "_law_late", "_law_over"] [.ref p] = [some (.ref p), none, none, none, none, none, none] := rfl
  have la : (P.map pW).length = P.length := List.length_map ..
  have pl := ptsR_len P
  have s1 : (mSet 1 (mLst mNil)) [some (.ref p), none, none, none, none, none, none] h = .nx [some (.ref p), some (.ref h.length), none, none, none, none, none] (h ++ [.lst []]) := by
    simp
  have al : ∀ k, (accR P k).length < 5000 := fun k => by
    unfold accR
    have a := List.length_filter_le (jR P) ((ptsR P).take k)
    have b := List.length_take_le k (ptsR P)
    have b2 : ((ptsR P).take k).length ≤ (ptsR P).length := List.length_take_le' ..
    rw [List.length_map]
    omega
  obtain ⟨r', h', lp, ⟨o2, o3, o4, o5, o6, rfl⟩, rfl⟩ := for_enumI (P := p) (a := 2) (b := 3) (L := P.map pW) (B := dB)
    (fun i r g => (∃ o2 o3 o4 o5 o6, r = [some (.ref p), some (.ref h.length), o2, o3, o4, o5, o6]) ∧ g = h ++ [.lst (accR P ((i + 1) / 2))])
    (fun i r g z => by
      rw [z.2]
      exact get_old e)
    (fun i w ew r g z => by
      obtain ⟨⟨o2, o3, o4, o5, o6, rfl⟩, rfl⟩ := z
      rw [List.getElem?_map] at ew
      obtain ⟨c, ec, rfl⟩ := Option.map_eq_some_iff.mp ew
      show ∃ r' h', dB (dE p h.length (i : Int) (pW c) o4 o5 o6) _ = .nx r' h' ∧ _
      rcases Nat.mod_two_eq_zero_or_one i with o | o
      · obtain ⟨k, rfl⟩ : ∃ k, i = 2 * k := ⟨i / 2, by omega⟩
        obtain ⟨x, t, a1, _⟩ := wf.ev (2 * k) o (lt_of_get ec)
        rw [ec] at a1
        cases a1
        have hk : (2 * k + 1) / 2 = k := by omega
        have hk2 : (2 * k + 1 + 1) / 2 = k + 1 := by omega
        have px : (ptsR P)[k]? = some x := (ptsR_get P (wf_alt wf) k x).mpr ⟨t, ec⟩
        rw [hk]
        obtain ⟨u4, u5, u6, b⟩ := d_even (p := p) (q := h.length) (o4 := o4) (o5 := o5) (o6 := o6) (show LP (h ++ [.lst (accR P k)]) p P from e.old _) wf pg ec get_last (al k)
        refine ⟨_, _, b, ⟨_, _, _, _, _, rfl⟩, ?_⟩
        rw [hk2]
        have tk : accR P (k + 1) = if jR P x then accR P k ++ [srow P x] else accR P k := by
          unfold accR
          rw [take_next px, List.filter_append, List.map_append]
          cases j : jR P x <;> simp [j]
        rw [tk]
        cases j : jR P x with
        | false => rfl
        | true =>
          rw [if_pos rfl, if_pos rfl]
          generalize accR P k ++ [srow P x] = Z
          simp
      · obtain ⟨x, t, y, l, _, a1, _⟩ := wf.od i o (lt_of_get ec)
        rw [ec] at a1
        cases a1
        refine ⟨_, _, d_odd, ⟨_, _, _, _, _, rfl⟩, ?_⟩
        rw [show (i + 1 + 1) / 2 = (i + 1) / 2 by omega]) (P.map pW).length 0 [some (.ref p), some (.ref h.length), none, none, none, none, none] (h ++ [.lst []]) (by omega) ⟨⟨_, _, _, _, _, rfl⟩, rfl⟩
  have fin : accR P (((P.map pW).length + 1) / 2) = fallsR P := by
    have hl : (ptsR P).length ≤ ((P.map pW).length + 1) / 2 := by
      rw [la]
      refine Nat.le_of_not_lt fun z => ?_
      obtain ⟨t, e2⟩ := (ptsR_get P (wf_alt wf) ((P.length + 1) / 2) _).mp (List.getElem?_eq_getElem z)
      have := lt_of_get e2
      omega
    unfold accR fallsR
    rw [List.take_of_length_le hl]
  rw [fin] at lp
  have sr : (mEnum (mCons (mVar 0) mNil)) [some (.ref p), some (.ref h.length), none, none, none, none, none] (h ++ [.lst []]) = .val ⟨(P.map pW).length + 1, nxEnum p⟩ (h ++ [.lst []]) := by
    have e' : (h ++ [O.lst []])[p]? = some (.lst (P.map pW)) := e.old _
    unfold mEnum
    rw [mCons_eq]
    simp only [mVar0, bind_val, mNil_eq, srcE, e']
  have fe : mFor (mEnum (mCons (mVar 0) mNil)) (mGs 2 (mGcons (mGn 2) (mGcons (mGn 3) mGnil))) dB [some (.ref p), some (.ref h.length), none, none, none, none, none] (h ++ [.lst []]) = .nx [some (.ref p), some (.ref h.length), o2, o3, o4, o5, o6] (h ++ [.lst (fallsR P)]) := by
    unfold mFor
    rw [sr, andS_val]
    exact lp
  unfold m__law_due
  unfold dB d4 d5 d6 d7 at fe
  rw [mDef_eq, st, mSeq_eq, s1, thenS_nx, mSeq_eq, fe, thenS_nx, mRet_eq]
  rfl
end
end K34
end
section
namespace K34
open PySem L2 VL SHP
section
variable {h g : Hv} {p q q' : Nat} {R P : List Pc} {r : Ws} {f : Ws → Hv → Res W}
theorem lk_falls {w : W} : List.lookup ("falls" : Str) [(("rows" : Str), w)] = none := by
  have : (("falls" : Str) == ("rows" : Str)) = false := by decide +kernel
  rw [List.lookup_cons, this]
  rfl
theorem lk_pieces {w : W} : List.lookup ("pieces" : Str) [(("rows" : Str), w)] = none := by
  have : (("pieces" : Str) == ("rows" : Str)) = false := by decide +kernel
  rw [List.lookup_cons, this]
  rfl
theorem fallsM {h0 : Hv} (fv : f r h0 = .val (.ref q) h) (sh : Sh h q q' R) (wf : Wf R) (pg : ∀ c ∈ R, PgU c) (hs : R.length ≤ 1000) : (mMeth "S" "falls" 0 m_Shape_falls f mNil) r h0 = .val (.ref (h.length + 1)) (h ++ [.lst (rows R)] ++ [.lst (fallsR R)]) := by
  have e := falls_ok sh wf pg hs
  unfold mMeth
  rw [fv, bind_val]
  simp only [mMethO, sh.1, lk_falls, and_self, if_true, mNil_eq, bind_val, List.length_nil, e]
theorem piecesM {h0 : Hv} (fv : f r h0 = .val (.ref q) h) (sh : Sh h q q' R) : (mMeth "S" "pieces" 0 m_Shape_pieces f mNil) r h0 = .val (.ref h.length) (h ++ [.lst (R.map pW)]) := by
  have st : startW ["self"] [.ref q] = [some (.ref q)] := rfl
  have e2 : h[q']? = some (.lst (R.map pW)) := sh.2
  have e : m_Shape_pieces [.ref q] h = .val (.ref h.length) (h ++ [.lst (R.map pW)]) := by
    unfold m_Shape_pieces
    rw [mDef_eq, st, mRet_eq]
    simp only [mB_eq, mCons_eq, mFld, mVar0, bind_val, fld_ok sh, mNil_eq, mListOf, e2, mNew_eq, andS_val, endS_rt]
  unfold mMeth
  rw [fv, bind_val]
  simp only [mMethO, sh.1, lk_pieces, and_self, if_true, mNil_eq, bind_val, List.length_nil, e]
theorem sameR_self (wf : Wf R) : SameR R R := by
  obtain ⟨x, t, e, _⟩ := wf.first
  have n0 := wf.ne
  have e2 : R[R.length - 1]? = some R[R.length - 1] := List.getElem?_eq_getElem (by omega)
  exact ⟨⟨x, t, t, e, e⟩, ⟨_, _, e2, e2, rfl⟩⟩
theorem fallsR_len : (fallsR R).length ≤ R.length := by
  unfold fallsR
  have a := List.length_filter_le (jR R) (ptsR R)
  have b := ptsR_len R
  rw [List.length_map]
  omega
abbrev wE (i : Nat) (c : Int) (a b d e f : Option W) : Ws := [none, some (.int i), some (.int c), a, b, d, e, f]
abbrev u5 : MS := (mSet 5 (mCall 1 m__law_pieces (mCons (mVar 4) mNil)))
abbrev u6 : MS := (mSet 6 (mMake "S" 1 m_Shape_init (mCons (mVar 5) mNil)))
abbrev u7 : MS := (mSet 7 (mMeth "S" "falls" 0 m_Shape_falls (mVar 6) mNil))
abbrev u8 : MS := (mIfS (mT (m2 (mEq true) (mVar 7) (mCall 1 m__law_due (mCons (mVar 5) mNil)))) (mRet (mC (.bl false))) mNext)
abbrev u9 : MS := (mExpr (mApp (mVar 7) (mC .non)))
abbrev t10 : Ws → Hv → Res Bool := (mT (m2 (mEq true) (mMeth "S" "falls" 0 m_Shape_falls (mVar 6) mNil) (mCall 1 m__law_due (mCons (mVar 5) mNil))))
abbrev t11 : Ws → Hv → Res Bool := (mT (m2 (mEq true) (mMeth "S" "falls" 0 m_Shape_falls (m2 (mOwnBO "S" m_Shape_add) (mVar 6) (mVar 6)) mNil) (mCall 1 m__law_due (mCons (mMeth "S" "pieces" 0 m_Shape_pieces (m2 (mOwnBO "S" m_Shape_add) (mVar 6) (mVar 6)) mNil) mNil))))
abbrev u10 : MS := (mIfS (mOrT t10 t11) (mRet (mC (.bl false))) mNext)
abbrev uB : MS := mSeq u5 (mSeq u6 (mSeq u7 (mSeq u8 (mSeq u9 u10))))
variable {i : Nat} {c : Int} {a b d e o7 : Option W} {s t : Nat}
theorem t10_ok (sh : Sh g s q' (shR P)) (lp : LP g p P) (wf : Wf P) (pg : ∀ c ∈ P, PgU c) (hs : P.length ≤ 100) : ∃ g', t10 (wE i c a b (some (.ref p)) (some (.ref s)) o7) g = .val false g' ∧ Ext g g' := by
  obtain ⟨w2, l2, _⟩ := shR_wf wf
  have v6 : mVar 6 (wE i c a b (some (.ref p)) (some (.ref s)) o7) g = .val (.ref s) g := rfl
  have f := fallsM v6 sh w2 (shR_pgu pg) (by omega)
  let g2 : Hv := g ++ [.lst (rows (shR P))] ++ [.lst (fallsR (shR P))]
  have l2' : g2.length = g.length + 2 := by simp [g2]
  have x2 : Ext g g2 := (Ext.more g _).trans (Ext.more _ _)
  have v5 : mVar 5 (wE i c a b (some (.ref p)) (some (.ref s)) o7) g2 = .val (.ref p) g2 := rfl
  have du := due_ok (lp.ext x2) wf pg (by omega)
  have dc : (mCall 1 m__law_due (mCons (mVar 5) mNil)) (wE i c a b (some (.ref p)) (some (.ref s)) o7) g2 = .val (.ref g2.length) (g2 ++ [.lst (fallsR P)]) := by
    simp only [mCall_eq, mCons_eq, v5, bind_val, mNil_eq, List.length_cons, List.length_nil, Nat.zero_add, if_true, du]
  have k1 : (g2 ++ [O.lst (fallsR P)])[g.length + 1]? = some (.lst (fallsR P)) := by
    rw [← falls_sh wf]
    have z : g2[g.length + 1]? = some (.lst (fallsR (shR P))) := by simp [g2]
    exact get_old z
  have k2 : (g2 ++ [O.lst (fallsR P)])[g2.length]? = some (.lst (fallsR P)) := get_last
  have eq := eq_falls (neg := true) k1 k2
  refine ⟨g2 ++ [.lst (fallsR P)], ?_, x2.trans (Ext.more _ _)⟩
  unfold t10
  rw [mT_eq, m2_eq, f, bind_val]
  show ((mCall 1 m__law_due (mCons (mVar 5) mNil) _ g2).bind _).bind asB = _
  rw [dc, bind_val, eq, bind_val]
  rfl
theorem t11_ok (sh : Sh g s q' R) (wf : Wf R) (pg : ∀ c ∈ R, PgT c) (hs : R.length ≤ 50) : ∃ g', t11 (wE i c a b d (some (.ref s)) o7) g = .val false g' ∧ Ext g g' := by
  have n0 := wf.ne
  have hc : R[R.length - 1]? = some R[R.length - 1] := List.getElem?_eq_getElem (by omega)
  have sok := sumOk_of pg pg
  have sr := sameR_self wf
  let S := sumR R R (hi R[R.length - 1]).isNone
  have wS : Wf S := sumR_wf wf wf sr sok _
  have pS : ∀ c ∈ S, PgU c := sumR_pgu pg pg _
  have lS : S.length ≤ 200 := by
    have := sumR_len (R1 := R) (R2 := R) (hi R[R.length - 1]).isNone
    show (sumR _ _ _).length ≤ 200
    omega
  obtain ⟨w2, l2, _⟩ := shR_wf wS
  let E := wE i c a b d (some (.ref s)) o7
  have v6 : ∀ g, mVar 6 E g = .val (.ref s) g := fun g => rfl
  obtain ⟨g1, a1, x1⟩ := add_ok sh sh wf wf (by omega) (by omega) sr hc sok
  have p1 := ownB_ok (v6 g) (v6 g) sh sh m_Shape_add
  rw [a1] at p1
  have f1 := fallsM p1 (shH_sh g1 S) w2 (shR_pgu pS) (by omega)
  let h1 := shH g1 S
  let g2 : Hv := h1 ++ [.lst (rows (shR S))] ++ [.lst (fallsR (shR S))]
  have x2 : Ext h1 g2 := (Ext.more h1 _).trans (Ext.more _ _)
  have xh : Ext g1 h1 := Ext.more g1 _
  have sh2 : Sh g2 s q' R := sh.ext ((x1.trans xh).trans x2)
  obtain ⟨g3, a3, x3⟩ := add_ok sh2 sh2 wf wf (by omega) (by omega) sr hc sok
  have p3 := ownB_ok (v6 g2) (v6 g2) sh2 sh2 m_Shape_add
  rw [a3] at p3
  have f3 := piecesM p3 (shH_sh g3 S)
  let h3 := shH g3 S
  let g4 : Hv := h3 ++ [.lst ((shR S).map pW)]
  have l4 : LP g4 h3.length (shR S) := get_last
  have du := due_ok l4 w2 (shR_pgu pS) (by omega)
  have dc : (mCall 1 m__law_due (mCons (mMeth "S" "pieces" 0 m_Shape_pieces (m2 (mOwnBO "S" m_Shape_add) (mVar 6) (mVar 6)) mNil) mNil)) E g2 = .val (.ref g4.length) (g4 ++ [.lst (fallsR (shR S))]) := by
    rw [mCall_eq, mCons_eq, f3, bind_val, mNil_eq, bind_val, bind_val, if_pos (show [W.ref h3.length].length = 1 from rfl)]
    exact du
  have xx : Ext g2 (g4 ++ [.lst (fallsR (shR S))]) := x3.trans (((Ext.more g3 _).trans (Ext.more h3 _)).trans (Ext.more g4 _))
  have k1 : (g4 ++ [O.lst (fallsR (shR S))])[h1.length + 1]? = some (.lst (fallsR (shR S))) := xx _ _ (by simp [g2])
  have k2 : (g4 ++ [O.lst (fallsR (shR S))])[g4.length]? = some (.lst (fallsR (shR S))) := get_last
  have eq := eq_falls (neg := true) k1 k2
  refine ⟨g4 ++ [.lst (fallsR (shR S))], ?_, ((x1.trans xh).trans x2).trans xx⟩
  show t11 E g = _
  unfold t11
  rw [mT_eq, m2_eq, f1, bind_val]
  show ((mCall 1 m__law_due _ E g2).bind _).bind asB = _
  rw [dc, bind_val, eq, bind_val]
  rfl
theorem some_ok {ds : List Int} {dg x : Nat} {b6 b7 : Option W} (e0 : g[x]? = some (.lst (ds.map W.int))) (hd : ∀ d ∈ ds, I420 d) (hl : 42 ≤ ds.length) :
    ∃ u5' u6' u7' g', uB (wE i c (some (.ref dg)) (some (.ref x)) d b6 b7) g = .nx (wE i c (some (.ref dg)) (some (.ref x)) u5' u6' u7') g' ∧ Ext g g' := by
  obtain ⟨q, g1, P, xs, m, k1, k2, wf, k4, k5, k6, k7, k8⟩ := lpieces_ok e0 hd hl
  have pgt : ∀ c ∈ P, PgT c := fun c hc => pgt_of k6 k7 hc
  have pgu : ∀ c ∈ P, PgU c := fun c hc => (pgt c hc).u
  obtain ⟨w2, l2, _⟩ := shR_wf wf
  have s5 : u5 (wE i c (some (.ref dg)) (some (.ref x)) d b6 b7) g = .nx (wE i c (some (.ref dg)) (some (.ref x)) (some (.ref q)) b6 b7) g1 := by
    have v4 : mVar 4 (wE i c (some (.ref dg)) (some (.ref x)) d b6 b7) g = .val (.ref x) g := rfl
    unfold u5
    rw [mSet_eq, mCall_eq, mCons_eq, v4, bind_val, mNil_eq, bind_val, bind_val, if_pos (show [W.ref x].length = 1 from rfl), k1, andS_val]
    rfl
  let E6 := wE i c (some (.ref dg)) (some (.ref x)) (some (.ref q)) b6 b7
  let h2 := shH g1 P
  have sh := shH_sh g1 P
  have s6 : u6 E6 g1 = .nx (wE i c (some (.ref dg)) (some (.ref x)) (some (.ref q)) (some (.ref g1.length)) b7) h2 := by
    have v5 : mVar 5 E6 g1 = .val (.ref q) g1 := rfl
    have mk := make_ok v5 k2 wf (by omega)
    unfold u6
    rw [mSet_eq, mk, andS_val]
    rfl
  let E7 := wE i c (some (.ref dg)) (some (.ref x)) (some (.ref q)) (some (.ref g1.length)) b7
  have x2 : Ext g1 h2 := Ext.more g1 _
  let h3 : Hv := h2 ++ [.lst (rows (shR P))] ++ [.lst (fallsR (shR P))]
  let tl := h2.length + 1
  have s7 : u7 E7 h2 = .nx (wE i c (some (.ref dg)) (some (.ref x)) (some (.ref q)) (some (.ref g1.length)) (some (.ref tl))) h3 := by
    have v6 : mVar 6 E7 h2 = .val (.ref g1.length) h2 := rfl
    have f := fallsM v6 sh w2 (shR_pgu pgu) (by omega)
    unfold u7
    rw [mSet_eq, f, andS_val]
    rfl
  let E8 := wE i c (some (.ref dg)) (some (.ref x)) (some (.ref q)) (some (.ref g1.length)) (some (.ref tl))
  have x3 : Ext h2 h3 := (Ext.more h2 _).trans (Ext.more _ _)
  have lp3 : LP h3 q P := (k2.ext x2).ext x3
  have du := due_ok lp3 wf pgu (by omega)
  let h4 : Hv := h3 ++ [.lst (fallsR P)]
  have kt : h3[tl]? = some (.lst (fallsR P)) := by
    rw [← falls_sh wf]
    simp [h3, tl]
  have x4 : Ext h3 h4 := Ext.more h3 _
  have s8 : u8 E8 h3 = .nx E8 h4 := by
    have v7 : mVar 7 E8 h3 = .val (.ref tl) h3 := rfl
    have v5 : mVar 5 E8 h3 = .val (.ref q) h3 := rfl
    have eq := eq_falls (neg := true) (x4 _ _ kt) (show h4[h3.length]? = _ from get_last)
    have tt : (mT (m2 (mEq true) (mVar 7) (mCall 1 m__law_due (mCons (mVar 5) mNil)))) E8 h3 = .val false h4 := by
      simp only [mT_eq, m2_eq, v7, bind_val, mCall_eq, mCons_eq, v5, mNil_eq, List.length_cons, List.length_nil, Nat.zero_add, if_true, du]
      show (mEq true (.ref tl) (.ref h3.length) h4).bind asB = _
      rw [eq, bind_val]
      rfl
    unfold u8
    rw [mIfS_eq, tt, andS_val, if_neg (by decide), mNext_eq]
  have fl : (fallsR P).length < 100000 := by have := fallsR_len (R := P); omega
  let h5 : Hv := h4.set tl (.lst (fallsR P ++ [.non]))
  have s9 : u9 E8 h4 = .nx E8 h5 := by
    have v7 : mVar 7 E8 h4 = .val (.ref tl) h4 := rfl
    have kt4 := x4 _ _ kt
    unfold u9
    rw [mExpr_eq]
    simp only [mApp, v7, bind_val, kt4, mC_eq, fl, if_true, andS_val]
    rfl
  have kp : Kp tl h4 h5 := Kp.set tl h4 _
  have gl : g.length ≤ g1.length := k5.len
  have l2' : h2.length = g1.length + 2 := by simp [h2]
  have xg2 : Ext g1 h5 := Kp.ext kp ((x2.trans x3).trans x4) (by show g1.length ≤ h2.length + 1; omega)
  have sh5 : Sh h5 g1.length (g1.length + 1) (shR P) := by
    have z : Sh h4 g1.length (g1.length + 1) (shR P) := (sh.ext x3).ext x4
    exact ⟨kp _ _ (by show g1.length ≠ h2.length + 1; omega) z.1, kp _ _ (by show g1.length + 1 ≠ h2.length + 1; omega) z.2⟩
  obtain ⟨h6, e6, x6⟩ := t10_ok (i := i) (c := c) (a := some (.ref dg)) (b := some (.ref x)) (o7 := some (.ref tl)) sh5 (k2.ext xg2) wf pgu (by omega)
  obtain ⟨h7, e7, x7⟩ := t11_ok (i := i) (c := c) (a := some (.ref dg)) (b := some (.ref x)) (d := some (.ref q)) (o7 := some (.ref tl)) (sh5.ext x6) w2 (shR_pgt pgt) (by omega)
  have s10 : u10 E8 h5 = .nx E8 h7 := by
    have tt : (mOrT t10 t11) E8 h5 = .val false h7 := by
      rw [mOrT_eq]
      show (t10 E8 h5).bind _ = _
      rw [e6, bind_val, if_neg (by decide)]
      exact e7
    unfold u10
    rw [mIfS_eq, tt, andS_val, if_neg (by decide), mNext_eq]
  refine ⟨some (.ref q), some (.ref g1.length), some (.ref tl), h7, ?_, (k5.trans xg2).trans (x6.trans x7)⟩
  unfold uB
  rw [mSeq_eq, s5, thenS_nx, mSeq_eq, s6, thenS_nx, mSeq_eq, s7, thenS_nx, mSeq_eq, s8, thenS_nx, mSeq_eq, s9, thenS_nx, s10]
end
end K34
end
section
namespace K34
open PySem L2 VL SHP
theorem digits_ok {i : Nat} {c : Int} (hi : i ≤ 1000) : ∃ (g : Hv) (ds : List Int), (mCall 3 m__law_numbers (mCons (mVar 2) (mCons (m2 mAdd (mC (.int 3400)) (mVar 1)) (mCons (m2 mMul (mLst (mCons (mC (.int 420)) mNil)) (mC (.int 80))) mNil)))) (wE i c none none none none none) [] = .val (.ref 2) g ∧ g[2]? = some (.lst (ds.map W.int)) ∧ (∀ d ∈ ds, I420 d) ∧ ds.length = 80 := by
  let h2 : Hv := [.lst [.int 420], .lst (List.replicate 80 (.int 420))]
  obtain ⟨acc, n1, n2, n3⟩ := numbers_ok (h := h2) (p := 1) (m := 80) (cell := c) (salt := 3400 + (i : Int)) rfl (by decide) (by omega) (by omega)
  obtain ⟨ds, rfl, hd⟩ := ints_of n2
  refine ⟨h2 ++ [.lst (ds.map W.int)], ds, ?_, rfl, hd, by simpa using n3⟩
  have m : (m2 mMul (mLst (mCons (mC (.int 420)) mNil)) (mC (.int 80))) (wE i c none none none none none) [] = .val (.ref 1) h2 := rfl
  rw [mCall_eq, mCons_eq]
  have v2 : mVar 2 (wE i c none none none none none) [] = .val (.int c) [] := rfl
  have v1 : (m2 mAdd (mC (.int 3400)) (mVar 1)) (wE i c none none none none none) [] = .val (.int (3400 + (i : Int))) [] := rfl
  rw [v2, bind_val, mCons_eq, v1, bind_val, mCons_eq, m, bind_val, mNil_eq, bind_val, bind_val, bind_val, bind_val]
  rw [if_pos (show [W.int c, W.int (3400 + (i : Int)), W.ref 1].length = 3 from rfl), n1]
  rfl
theorem cut_n {ds : List Int} {n : Nat} (hn : n ≤ ds.length) : cutW (ds.map W.int) (some (n : Int)) none = (ds.drop n).map W.int := by
  rw [cut_drop _ _ (by simpa using hn), ← List.map_drop]
theorem turn_ok (i : Nat) (c : Int) (hi : i ≤ 1000) : ∃ r g, lBody (none :: some (.int i) :: some (.int c) :: List.replicate 5 none) [] = .nx r g ∧ r.length = 5 + 3 := by
  show ∃ r g, lBody (wE i c none none none none none) [] = .nx r g ∧ r.length = 5 + 3
  obtain ⟨g1, ds, d1, d2, d3, d4⟩ := digits_ok (c := c) hi
  let e : Ws := wE i c (some (.ref 2)) none none none none
  have v3 : ∀ g, mVar 3 e g = .val (.ref 2) g := fun g => rfl
  have ct1 : cutW (ds.map W.int) (some 20) none = (ds.drop 20).map W.int := cut_n (n := 20) (by omega)
  have ct2 : cutW (ds.map W.int) (some 38) none = (ds.drop 38).map W.int := cut_n (n := 38) (by omega)
  let g2 : Hv := g1 ++ [.lst ((ds.drop 20).map W.int)]
  let g3 : Hv := g2 ++ [.lst ((ds.drop 38).map W.int)]
  have d2' : g2[2]? = some (.lst (ds.map W.int)) := get_old d2
  have sl1 : (mSl (mVar 3) (mPart (some (mC (.int 20)))) (mPart none)) e g1 = .val (.ref g1.length) g2 := by
    simp only [mSl, mPart, v3, bind_val, mC_eq, mCut, d2, ct1]
    rfl
  have sl2 : (mSl (mVar 3) (mPart (some (mC (.int 38)))) (mPart none)) e g2 = .val (.ref g2.length) g3 := by
    simp only [mSl, mPart, v3, bind_val, mC_eq, mCut, d2', ct2]
    rfl
  let L : List W := [W.ref 2, .ref g1.length, .ref g2.length]
  let g4 : Hv := g3 ++ [.lst L]
  have l1 : g4[2]? = some (.lst (ds.map W.int)) := get_old (get_old d2')
  have l2 : g4[g1.length]? = some (.lst ((ds.drop 20).map W.int)) := get_old (get_old get_last)
  have l3 : g4[g2.length]? = some (.lst ((ds.drop 38).map W.int)) := get_old get_last
  have l4 : g4[g3.length]? = some (.lst L) := get_last
  have src : (mSrc (mLst (mCons (mVar 3) (mCons (mSl (mVar 3) (mPart (some (mC (.int 20)))) (mPart none)) (mCons (mSl (mVar 3) (mPart (some (mC (.int 38)))) (mPart none)) mNil))))) e g1 = .val ⟨L.length + 1, nxSeq g3.length⟩ g4 := by
    have ls : (mLst (mCons (mVar 3) (mCons (mSl (mVar 3) (mPart (some (mC (.int 20)))) (mPart none)) (mCons (mSl (mVar 3) (mPart (some (mC (.int 38)))) (mPart none)) mNil)))) e g1 = .val (.ref g3.length) g4 := by
      rw [mLst_eq, mCons_eq, v3, bind_val, mCons_eq, sl1, bind_val, mCons_eq, sl2, bind_val, mNil_eq, bind_val, bind_val, bind_val, bind_val, if_pos (show [W.ref 2, W.ref g1.length, W.ref g2.length].length ≤ 100000 from by show (3 : Nat) ≤ 100000; decide), mNew_eq]
    unfold mSrc
    rw [ls, bind_val]
    simp only [srcOf, l4]
  clear_value g4
  obtain ⟨r', g', lp, ⟨b, x, y, z, rfl⟩, _⟩ := for_seq (p := g3.length) (L := L) (s := 4) (b := uB) (fun _ r g => (∃ b x y z, r = wE i c (some (.ref 2)) b x y z) ∧ Ext g4 g)
    (fun _ r g q => q.2 _ _ l4)
    (fun j w ew r g q => by
      obtain ⟨⟨b, x, y, z, rfl⟩, k⟩ := q
      match j, ew with
      | 0, ew =>
        cases ew
        obtain ⟨a', b', e', g', u, k'⟩ := some_ok (i := i) (c := c) (dg := 2) (d := x) (b6 := y) (b7 := z) (k _ _ l1) d3 (by omega)
        exact ⟨_, _, u, ⟨_, _, _, _, rfl⟩, k.trans k'⟩
      | 1, ew =>
        cases ew
        obtain ⟨a', b', e', g', u, k'⟩ := some_ok (i := i) (c := c) (dg := 2) (d := x) (b6 := y) (b7 := z) (k _ _ l2) (fun d hd => d3 d (List.mem_of_mem_drop hd)) (by simp; omega)
        exact ⟨_, _, u, ⟨_, _, _, _, rfl⟩, k.trans k'⟩
      | 2, ew =>
        cases ew
        obtain ⟨a', b', e', g', u, k'⟩ := some_ok (i := i) (c := c) (dg := 2) (d := x) (b6 := y) (b7 := z) (k _ _ l3) (fun d hd => d3 d (List.mem_of_mem_drop hd)) (by simp; omega)
        exact ⟨_, _, u, ⟨_, _, _, _, rfl⟩, k.trans k'⟩
      | j + 3, ew => cases ew) L.length 0 e g4 (by omega) ⟨⟨_, _, _, _, rfl⟩, Ext.refl _⟩
  refine ⟨wE i c (some (.ref 2)) b x y z, g', ?_, rfl⟩
  have body : lBody = mSeq (mSet 3 (mCall 3 m__law_numbers (mCons (mVar 2) (mCons (m2 mAdd (mC (.int 3400)) (mVar 1)) (mCons (m2 mMul (mLst (mCons (mC (.int 420)) mNil)) (mC (.int 80))) mNil))))) (mFor (mSrc (mLst (mCons (mVar 3) (mCons (mSl (mVar 3) (mPart (some (mC (.int 20)))) (mPart none)) (mCons (mSl (mVar 3) (mPart (some (mC (.int 38)))) (mPart none)) mNil))))) (mGn 4) uB) := rfl
  rw [body, mSeq_eq, mSet_eq, d1, andS_val, thenS_nx]
  show mFor _ _ _ e g1 = _
  unfold mFor
  rw [src, andS_val]
  exact lp
theorem true_ (ns : List Int) (h1 : ns.length ≤ 63) (h2 : ∀ z ∈ ns, Builtin.Int.intBits z ≤ 1048576) : ∃ h', m_law [.ref 0] [.rol (ns.map W.int)] = .val (.bl true) h' :=
  law_loop (k := 6) (m := 5) (N := ["_law_script", "_law_k", "_law_cell", "_law_digits", "_law_some", "_law_pieces_here", "_law_shape", "_law_told"]) (B := lBody) rfl turn_ok ns h1
end K34
end
section
open PySem PyProof.Rows PySem.W
set_option maxRecDepth 110000 in
set_option maxHeartbeats 0 in
theorem PySem.Challenge.cw_whatiftimes_k34_falls_holds : PySem.Challenge.rw_whatiftimes_k34_falls.Holds := by
  w_on; o_law; k_head; (case hw => w_witness2); k_fill
  refine VL.walk_V (l := PySem.Challenge.rw_whatiftimes_k34_falls) (n := 63) (k := 19) rfl (by decide) rfl ⟨rfl, by decide, by decide⟩ (fun w h Y => PySem.W.kIn_of Y) ?F
  case F =>
    intro w mg fa h Y KX G hmg
    refine' K34.mk KX G hmg K34.true_ ?aC_Shape ?a_xiswhole ?l_xiswhole ?c_xiswhole1 ?k_xiswhole ?a_xiswholepair ?l_xiswholepair ?c_xiswholepair1 ?k_xiswholepair ?a_xsignof ?l_xsignof ?c_xsignof1 ?k_xsignof ?a_xcommondivisor ?l_xcommondivisor ?c_xcommondivisor1 ?k_xcommondivisor ?a_xisfraction ?l_xisfraction ?c_xisfraction1 ?k_xisfraction ?a_xrequirefraction ?l_xrequirefraction ?c_xrequirefraction1 ?k_xrequirefraction ?a_xisslowness ?l_xisslowness ?c_xisslowness1 ?k_xisslowness ?a_xfraction ?l_xfraction ?c_xfraction1 ?k_xfraction ?a_xorderof ?l_xorderof ?c_xorderof1 ?k_xorderof ?a_xcompared ?l_xcompared ?c_xcompared1 ?k_xcompared ?a_xsumoftwo ?l_xsumoftwo ?c_xsumoftwo1 ?k_xsumoftwo ?a_xtotalof ?l_xtotalof ?c_xtotalof1 ?k_xtotalof ?a_xisline ?l_xisline ?c_xisline1 ?k_xisline ?a_xrequireline ?l_xrequireline ?c_xrequireline1 ?k_xrequireline ?a_xvalueat ?l_xvalueat ?c_xvalueat1 ?k_xvalueat ?a_xistupleof ?l_xistupleof ?c_xistupleof1 ?k_xistupleof ?a_xispoint ?l_xispoint ?c_xispoint1 ?k_xispoint ?a_xisgap ?l_xisgap ?c_xisgap1 ?k_xisgap ?a_xfollows ?l_xfollows ?c_xfollows1 ?k_xfollows ?a_xarepieces ?l_xarepieces ?c_xarepieces1 ?k_xarepieces ?a_xisneedless ?l_xisneedless ?c_xisneedless1 ?k_xisneedless ?a_xshortest ?l_xshortest ?c_xshortest1 ?k_xshortest ?a_xhighof ?l_xhighof ?c_xhighof1 ?k_xhighof ?a_xpointsof ?l_xpointsof ?c_xpointsof1 ?k_xpointsof ?a_xindexof ?l_xindexof ?c_xindexof1 ?k_xindexof ?a_xvalueornone ?l_xvalueornone ?c_xvalueornone1 ?k_xvalueornone ?a_xtimeat ?l_xtimeat ?c_xtimeat1 ?k_xtimeat ?a_xlineafter ?l_xlineafter ?c_xlineafter1 ?k_xlineafter ?a_xpairsum ?l_xpairsum ?c_xpairsum1 ?k_xpairsum ?a_xpaired ?l_xpaired ?c_xpaired1 ?k_xpaired ?a_xnextorder ?l_xnextorder ?c_xnextorder1 ?k_xnextorder ?a_xmerged ?l_xmerged ?c_xmerged1 ?k_xmerged ?a_xsums ?l_xsums ?c_xsums1 ?k_xsums ?a_xpointswithsides ?l_xpointswithsides ?c_xpointswithsides1 ?k_xpointswithsides ?a_xisdrop ?l_xisdrop ?c_xisdrop1 ?k_xisdrop ?a_xisjumpdown ?l_xisjumpdown ?c_xisjumpdown1 ?k_xisjumpdown ?a_xShapeinit ?i_xShapeinit ?l_xShapeinit ?c_xShapeinit1 ?k_xShapeinit ?a_xShapepieces ?i_xShapepieces ?l_xShapepieces ?c_xShapepieces1 ?k_xShapepieces ?pt_xShapelow ?pg_xShapelow ?pk_xShapelow ?pr_xShapelow ?l_xShapelow ?c_xShapelow1 ?k_xShapelow ?pt_xShapehigh ?pg_xShapehigh ?pk_xShapehigh ?pr_xShapehigh ?l_xShapehigh ?c_xShapehigh1 ?k_xShapehigh ?a_xShaperequiresamerange ?i_xShaperequiresamerange ?l_xShaperequiresamerange ?c_xShaperequiresamerange1 ?k_xShaperequiresamerange ?a_xShapeadd ?i_xShapeadd ?l_xShapeadd ?c_xShapeadd1 ?k_xShapeadd ?a_xShapefalls ?i_xShapefalls ?l_xShapefalls ?c_xShapefalls1 ?k_xShapefalls ?a_xlawnumbers ?l_xlawnumbers ?c_xlawnumbers1 ?k_xlawnumbers ?a_xlawfraction ?l_xlawfraction ?c_xlawfraction1 ?k_xlawfraction ?a_xlawline ?l_xlawline ?c_xlawline1 ?k_xlawline ?a_xlawvalue ?l_xlawvalue ?c_xlawvalue1 ?k_xlawvalue ?a_xlawpoints ?l_xlawpoints ?c_xlawpoints1 ?k_xlawpoints ?a_xlawpieces ?l_xlawpieces ?c_xlawpieces1 ?k_xlawpieces ?a_xlawless ?l_xlawless ?c_xlawless1 ?k_xlawless ?a_xlawgreater ?l_xlawgreater ?c_xlawgreater1 ?k_xlawgreater ?a_xlawdue ?l_xlawdue ?c_xlawdue1 ?k_xlawdue ?a_xlaw ?l_xlaw ?c_xlaw1 ?k_xlaw ?pg_Shape ?hd_Shape ?po_Shape ?sa_Shape ?hcl_Shape ?hmo_Shape ?mki_Shape ?kpC_Shape ?kiS_Shape ?kiT_Shape ?kiN_Shape ?kiF_Shape ?na_Shape_rows ?kiP_Shape ?mTimesError ?aC_InvalidShape ?xL_InvalidShape ?sa_InvalidShape ?ga_InvalidShape ?gg_InvalidShape ?nb_InvalidShape ?a1_InvalidShape ?t1_InvalidShape ?l1_InvalidShape ?c1_InvalidShape ?k1_InvalidShape ?kC_InvalidShape ?eC_InvalidShape ?tC_InvalidShape ?hC_InvalidShape ?hcl_InvalidShape ?hmo_InvalidShape ?aC_InvalidNumber ?xL_InvalidNumber ?sa_InvalidNumber ?ga_InvalidNumber ?gg_InvalidNumber ?nb_InvalidNumber ?a1_InvalidNumber ?t1_InvalidNumber ?l1_InvalidNumber ?c1_InvalidNumber ?k1_InvalidNumber ?kC_InvalidNumber ?eC_InvalidNumber ?tC_InvalidNumber ?hC_InvalidNumber ?hcl_InvalidNumber ?hmo_InvalidNumber ?hgs ?htk ?z_abs ?z_bool ?z_enumerate ?z_int ?z_isinstance ?z_len ?z_list ?z_max ?z_range ?z_str ?z_tuple ?z_zip ?Kl
    (case aC_Shape => k_is)
    (case a_xiswhole => k_is)
    (case l_xiswhole => k_is)
    (case c_xiswhole1 => k_is)
    (case k_xiswhole => k_is)
    (case a_xiswholepair => k_is)
    (case l_xiswholepair => k_is)
    (case c_xiswholepair1 => k_is)
    (case k_xiswholepair => k_is)
    (case a_xsignof => k_is)
    (case l_xsignof => k_is)
    (case c_xsignof1 => k_is)
    (case k_xsignof => k_is)
    (case a_xcommondivisor => k_is)
    (case l_xcommondivisor => k_is)
    (case c_xcommondivisor1 => k_is)
    (case k_xcommondivisor => k_is)
    (case a_xisfraction => k_is)
    (case l_xisfraction => k_is)
    (case c_xisfraction1 => k_is)
    (case k_xisfraction => k_is)
    (case a_xrequirefraction => k_is)
    (case l_xrequirefraction => k_is)
    (case c_xrequirefraction1 => k_is)
    (case k_xrequirefraction => k_is)
    (case a_xisslowness => k_is)
    (case l_xisslowness => k_is)
    (case c_xisslowness1 => k_is)
    (case k_xisslowness => k_is)
    (case a_xfraction => k_is)
    (case l_xfraction => k_is)
    (case c_xfraction1 => k_is)
    (case k_xfraction => k_is)
    (case a_xorderof => k_is)
    (case l_xorderof => k_is)
    (case c_xorderof1 => k_is)
    (case k_xorderof => k_is)
    (case a_xcompared => k_is)
    (case l_xcompared => k_is)
    (case c_xcompared1 => k_is)
    (case k_xcompared => k_is)
    (case a_xsumoftwo => k_is)
    (case l_xsumoftwo => k_is)
    (case c_xsumoftwo1 => k_is)
    (case k_xsumoftwo => k_is)
    (case a_xtotalof => k_is)
    (case l_xtotalof => k_is)
    (case c_xtotalof1 => k_is)
    (case k_xtotalof => k_is)
    (case a_xisline => k_is)
    (case l_xisline => k_is)
    (case c_xisline1 => k_is)
    (case k_xisline => k_is)
    (case a_xrequireline => k_is)
    (case l_xrequireline => k_is)
    (case c_xrequireline1 => k_is)
    (case k_xrequireline => k_is)
    (case a_xvalueat => k_is)
    (case l_xvalueat => k_is)
    (case c_xvalueat1 => k_is)
    (case k_xvalueat => k_is)
    (case a_xistupleof => k_is)
    (case l_xistupleof => k_is)
    (case c_xistupleof1 => k_is)
    (case k_xistupleof => k_is)
    (case a_xispoint => k_is)
    (case l_xispoint => k_is)
    (case c_xispoint1 => k_is)
    (case k_xispoint => k_is)
    (case a_xisgap => k_is)
    (case l_xisgap => k_is)
    (case c_xisgap1 => k_is)
    (case k_xisgap => k_is)
    (case a_xfollows => k_is)
    (case l_xfollows => k_is)
    (case c_xfollows1 => k_is)
    (case k_xfollows => k_is)
    (case a_xarepieces => k_is)
    (case l_xarepieces => k_is)
    (case c_xarepieces1 => k_is)
    (case k_xarepieces => k_is)
    (case a_xisneedless => k_is)
    (case l_xisneedless => k_is)
    (case c_xisneedless1 => k_is)
    (case k_xisneedless => k_is)
    (case a_xshortest => k_is)
    (case l_xshortest => k_is)
    (case c_xshortest1 => k_is)
    (case k_xshortest => k_is)
    (case a_xhighof => k_is)
    (case l_xhighof => k_is)
    (case c_xhighof1 => k_is)
    (case k_xhighof => k_is)
    (case a_xpointsof => k_is)
    (case l_xpointsof => k_is)
    (case c_xpointsof1 => k_is)
    (case k_xpointsof => k_is)
    (case a_xindexof => k_is)
    (case l_xindexof => k_is)
    (case c_xindexof1 => k_is)
    (case k_xindexof => k_is)
    (case a_xvalueornone => k_is)
    (case l_xvalueornone => k_is)
    (case c_xvalueornone1 => k_is)
    (case k_xvalueornone => k_is)
    (case a_xtimeat => k_is)
    (case l_xtimeat => k_is)
    (case c_xtimeat1 => k_is)
    (case k_xtimeat => k_is)
    (case a_xlineafter => k_is)
    (case l_xlineafter => k_is)
    (case c_xlineafter1 => k_is)
    (case k_xlineafter => k_is)
    (case a_xpairsum => k_is)
    (case l_xpairsum => k_is)
    (case c_xpairsum1 => k_is)
    (case k_xpairsum => k_is)
    (case a_xpaired => k_is)
    (case l_xpaired => k_is)
    (case c_xpaired1 => k_is)
    (case k_xpaired => k_is)
    (case a_xnextorder => k_is)
    (case l_xnextorder => k_is)
    (case c_xnextorder1 => k_is)
    (case k_xnextorder => k_is)
    (case a_xmerged => k_is)
    (case l_xmerged => k_is)
    (case c_xmerged1 => k_is)
    (case k_xmerged => k_is)
    (case a_xsums => k_is)
    (case l_xsums => k_is)
    (case c_xsums1 => k_is)
    (case k_xsums => k_is)
    (case a_xpointswithsides => k_is)
    (case l_xpointswithsides => k_is)
    (case c_xpointswithsides1 => k_is)
    (case k_xpointswithsides => k_is)
    (case a_xisdrop => k_is)
    (case l_xisdrop => k_is)
    (case c_xisdrop1 => k_is)
    (case k_xisdrop => k_is)
    (case a_xisjumpdown => k_is)
    (case l_xisjumpdown => k_is)
    (case c_xisjumpdown1 => k_is)
    (case k_xisjumpdown => k_is)
    (case a_xShapeinit => k_is)
    (case i_xShapeinit => k_is)
    (case l_xShapeinit => k_is)
    (case c_xShapeinit1 => k_is)
    (case k_xShapeinit => k_is)
    (case a_xShapepieces => k_is)
    (case i_xShapepieces => k_is)
    (case l_xShapepieces => k_is)
    (case c_xShapepieces1 => k_is)
    (case k_xShapepieces => k_is)
    (case pt_xShapelow => k_is)
    (case pg_xShapelow => k_is)
    (case pk_xShapelow => k_is)
    (case pr_xShapelow => k_is)
    (case l_xShapelow => k_is)
    (case c_xShapelow1 => k_is)
    (case k_xShapelow => k_is)
    (case pt_xShapehigh => k_is)
    (case pg_xShapehigh => k_is)
    (case pk_xShapehigh => k_is)
    (case pr_xShapehigh => k_is)
    (case l_xShapehigh => k_is)
    (case c_xShapehigh1 => k_is)
    (case k_xShapehigh => k_is)
    (case a_xShaperequiresamerange => k_is)
    (case i_xShaperequiresamerange => k_is)
    (case l_xShaperequiresamerange => k_is)
    (case c_xShaperequiresamerange1 => k_is)
    (case k_xShaperequiresamerange => k_is)
    (case a_xShapeadd => k_is)
    (case i_xShapeadd => k_is)
    (case l_xShapeadd => k_is)
    (case c_xShapeadd1 => k_is)
    (case k_xShapeadd => k_is)
    (case a_xShapefalls => k_is)
    (case i_xShapefalls => k_is)
    (case l_xShapefalls => k_is)
    (case c_xShapefalls1 => k_is)
    (case k_xShapefalls => k_is)
    (case a_xlawnumbers => k_is)
    (case l_xlawnumbers => k_is)
    (case c_xlawnumbers1 => k_is)
    (case k_xlawnumbers => k_is)
    (case a_xlawfraction => k_is)
    (case l_xlawfraction => k_is)
    (case c_xlawfraction1 => k_is)
    (case k_xlawfraction => k_is)
    (case a_xlawline => k_is)
    (case l_xlawline => k_is)
    (case c_xlawline1 => k_is)
    (case k_xlawline => k_is)
    (case a_xlawvalue => k_is)
    (case l_xlawvalue => k_is)
    (case c_xlawvalue1 => k_is)
    (case k_xlawvalue => k_is)
    (case a_xlawpoints => k_is)
    (case l_xlawpoints => k_is)
    (case c_xlawpoints1 => k_is)
    (case k_xlawpoints => k_is)
    (case a_xlawpieces => k_is)
    (case l_xlawpieces => k_is)
    (case c_xlawpieces1 => k_is)
    (case k_xlawpieces => k_is)
    (case a_xlawless => k_is)
    (case l_xlawless => k_is)
    (case c_xlawless1 => k_is)
    (case k_xlawless => k_is)
    (case a_xlawgreater => k_is)
    (case l_xlawgreater => k_is)
    (case c_xlawgreater1 => k_is)
    (case k_xlawgreater => k_is)
    (case a_xlawdue => k_is)
    (case l_xlawdue => k_is)
    (case c_xlawdue1 => k_is)
    (case k_xlawdue => k_is)
    (case a_xlaw => k_is)
    (case l_xlaw => k_is)
    (case c_xlaw1 => k_is)
    (case k_xlaw => k_is)
    (case pg_Shape => k_is)
    (case hd_Shape => k_is)
    (case po_Shape => k_is)
    (case sa_Shape => k_is)
    (case hcl_Shape => k_is)
    (case hmo_Shape => k_is)
    (case mki_Shape => k_is)
    (case kpC_Shape => k_is)
    (case kiS_Shape => kernel_rfl)
    (case kiT_Shape => kernel_rfl)
    (case kiN_Shape => kernel_rfl)
    (case kiF_Shape => kernel_rfl)
    (case na_Shape_rows => k_is)
    (case kiP_Shape => kernel_rfl)
    (case mTimesError => k_is)
    (case aC_InvalidShape => k_is)
    (case xL_InvalidShape => k_is)
    (case sa_InvalidShape => k_is)
    (case ga_InvalidShape => k_is)
    (case gg_InvalidShape => k_is)
    (case nb_InvalidShape => k_is)
    (case a1_InvalidShape => k_is)
    (case t1_InvalidShape => k_is)
    (case l1_InvalidShape => k_is)
    (case c1_InvalidShape => k_is)
    (case k1_InvalidShape => k_is)
    (case kC_InvalidShape => k_is)
    (case eC_InvalidShape => k_is)
    (case tC_InvalidShape => k_is)
    (case hC_InvalidShape => k_is)
    (case hcl_InvalidShape => k_is)
    (case hmo_InvalidShape => k_is)
    (case aC_InvalidNumber => k_is)
    (case xL_InvalidNumber => k_is)
    (case sa_InvalidNumber => k_is)
    (case ga_InvalidNumber => k_is)
    (case gg_InvalidNumber => k_is)
    (case nb_InvalidNumber => k_is)
    (case a1_InvalidNumber => k_is)
    (case t1_InvalidNumber => k_is)
    (case l1_InvalidNumber => k_is)
    (case c1_InvalidNumber => k_is)
    (case k1_InvalidNumber => k_is)
    (case kC_InvalidNumber => k_is)
    (case eC_InvalidNumber => k_is)
    (case tC_InvalidNumber => k_is)
    (case hC_InvalidNumber => k_is)
    (case hcl_InvalidNumber => k_is)
    (case hmo_InvalidNumber => k_is)
    (case hgs => k_is)
    (case htk => k_is)
    (case z_abs => k_is)
    (case z_bool => k_is)
    (case z_enumerate => k_is)
    (case z_int => k_is)
    (case z_isinstance => k_is)
    (case z_len => k_is)
    (case z_list => k_is)
    (case z_max => k_is)
    (case z_range => k_is)
    (case z_str => k_is)
    (case z_tuple => k_is)
    (case z_zip => k_is)
    (case Kl => kernel_rfl)
end
