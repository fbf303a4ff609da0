import PyProof.Rows.All
import Wide.All
import OpenK.AllK
import Wide.FinOn
import HandS.ForMost
import HandS.ForExc
import HandS.IsInst
import HandS.Wide
import HandS.Lambda
import HandS.ExcInit
import HandS.Steps
import HandS.Style
import HandS.RaiseMore
import HandS.Iter
import HandS.Comp
import HandS.ExcField
import HandS.EndTab
import KE.KNestM
import HandS.ExcIs
import KE.KExcInit
import HandS.TryOnly
import HandS.MakeKwOnly
import PySem.Challenge.RW_whatiftimes_k01_error_classes
set_option Elab.async false
set_option linter.all false
set_option maxRecDepth 100000
set_option maxHeartbeats 2100000
section
/-! VL: a view of the abstract heap: values and objects by places in a list; what a piece of the program does is a plain Lean function over the view. -/
namespace VL
open PySem L2

/-- a value of a view: ref is a place in the view's list, fix an address that stands outside of it -/
inductive W where
  | non | bl (b : Bool) | int (i : Int) | str (x : Str) | ref (i : Nat) | fix (a : Addr) | ty (n : String)
  deriving DecidableEq

def WV (ps : List Addr) : W → V → Prop
  | .non, v => v = .non
  | .bl b, v => v = .bl b
  | .int i, v => v = .int i
  | .str x, v => v = .str x
  | .ty n, v => v = .ty n
  | .fix a, v => v = .ref a
  | .ref i, v => ∃ a, ps[i]? = some a ∧ v = .ref a

inductive O where
  | lst (xs : List W) | tup (xs : List W) | rol (xs : List W) | dic (kvs : List (Key × W)) | ins (C : Addr) (fs : List (Str × W)) | xd (fs : List (Str × W))
  /-- an error as a value: its class, the place of its fields; these fields -/
  | err (c : String) (j : Nat) | xdd (fs : List (Str × W))

abbrev Hv := List O
abbrev Ws := List (Option W)
abbrev Tb := List (Addr × Str)
/-- what a view leans on: the tables of code objects, and a fact about places that stays -/
structure Tx where
  tb : Tb
  C : List Addr → Prop
  mono : ∀ ps qs, ps <+: qs → C ps → C qs
  /-- the classes of errors, by their names -/
  cv : String → Value
def Tx.plain (t : Tb) (cv : String → Value) : Tx := ⟨t, fun _ => True, fun _ _ _ h => h, cv⟩
/-- .. with one place known -/
def Tx.known (T : Tx) (j : Nat) (a : Addr) : Tx := ⟨T.tb, fun ps => T.C ps ∧ ps[j]? = some a, fun ps qs h ⟨c, e⟩ => ⟨T.mono ps qs h c, by
  obtain ⟨r, rfl⟩ := h
  rw [List.getElem?_append_left (List.getElem?_eq_some_iff.mp e).1]
  exact e⟩, T.cv⟩

def PW2 {k : Type} (ps : List Addr) (p : k × W) (q : k × V) : Prop := p.1 = q.1 ∧ WV ps p.2 q.2

def OAt (T : Tx) (ps : List Addr) (H : Hp) (a : Addr) : O → Prop
  | .lst xs => ∃ vs, Paired (WV ps) xs vs ∧ H a = some (.lst vs)
  | .tup xs => ∃ vs, Paired (WV ps) xs vs ∧ H a = some (.tup vs)
  | .rol xs => ∃ vs ob, Paired (WV ps) xs vs ∧ H a = some (.frz ob (.lst vs))
  | .dic kvs => ∃ vs, Paired (PW2 ps) kvs vs ∧ H a = some (.dK vs)
  | .ins C fs => ∃ vs dx, Paired (PW2 ps) fs vs ∧ H a = some (.ins C dx vs)
  | .xd fs => ∃ vs, Paired (PW2 ps) fs vs ∧ H a = some (.xd vs)
  | .err c j => ∃ C dx, T.cv c = .ref C ∧ ps[j]? = some dx ∧ H a = some (exo a C (some dx))
  | .xdd fs => ∃ vs, Paired (PW2 ps) fs vs ∧ H a = some (exd a vs)

structure View (T : Tx) (ps : List Addr) (h : Hv) (H : Hp) : Prop where
  len : ps.length = h.length
  nd : ps.Nodup
  ob : ∀ (i : Nat) (a : Addr) (o : O), ps[i]? = some a → h[i]? = some o → OAt T ps H a o
  tab : LamX.Tabs T.tb H
  fact : T.C ps

structure Step (ps : List Addr) (H : Hp) (qs : List Addr) (H' : Hp) : Prop where
  pre : ps <+: qs
  new : ∀ a o, a ∈ qs → a ∉ ps → H a = some o → ∃ z, o = .tbl z
  fr : ∀ a o, H a = some o → (∀ z, o ≠ .tbl z) → a ∉ ps → H' a = some o

theorem WV.mono {ps qs : List Addr} (h : ps <+: qs) : ∀ {w : W} {v : V}, WV ps w v → WV qs w v
  | .non, _, e => e
  | .bl _, _, e => e
  | .int _, _, e => e
  | .str _, _, e => e
  | .ty _, _, e => e
  | .fix _, _, e => e
  | .ref i, _, ⟨a, e1, e2⟩ => ⟨a, by
      obtain ⟨r, rfl⟩ := h
      rw [List.getElem?_append_left (List.getElem?_eq_some_iff.mp e1).1]
      exact e1, e2⟩
theorem WVs.mono {ps qs : List Addr} (h : ps <+: qs) {xs : List W} {vs : List V} (r : Paired (WV ps) xs vs) : Paired (WV qs) xs vs := L2.Paired.mapP r fun _ _ e => e.mono h
theorem PW2.mono {k : Type} {ps qs : List Addr} (h : ps <+: qs) {p : k × W} {q : k × V} (r : PW2 ps p q) : PW2 qs p q := ⟨r.1, r.2.mono h⟩
theorem at_pre {ps qs : List Addr} {p : Nat} {a : Addr} (h : ps <+: qs) (e : ps[p]? = some a) : qs[p]? = some a := by
  obtain ⟨r, rfl⟩ := h
  rw [List.getElem?_append_left (List.getElem?_eq_some_iff.mp e).1]
  exact e
theorem OAt.mono {T : Tx} {ps qs : List Addr} {H : Hp} {a : Addr} (h : ps <+: qs) : ∀ {o : O}, OAt T ps H a o → OAt T qs H a o
  | .lst _, ⟨vs, r, e⟩ => ⟨vs, WVs.mono h r, e⟩
  | .tup _, ⟨vs, r, e⟩ => ⟨vs, WVs.mono h r, e⟩
  | .rol _, ⟨vs, ob, r, e⟩ => ⟨vs, ob, WVs.mono h r, e⟩
  | .dic _, ⟨vs, r, e⟩ => ⟨vs, L2.Paired.mapP r fun _ _ z => z.mono h, e⟩
  | .ins _ _, ⟨vs, dx, r, e⟩ => ⟨vs, dx, L2.Paired.mapP r fun _ _ z => z.mono h, e⟩
  | .xd _, ⟨vs, r, e⟩ => ⟨vs, L2.Paired.mapP r fun _ _ z => z.mono h, e⟩
  | .err _ _, ⟨C, dx, e1, e2, e3⟩ => ⟨C, dx, e1, at_pre h e2, e3⟩
  | .xdd _, ⟨vs, r, e⟩ => ⟨vs, L2.Paired.mapP r fun _ _ z => z.mono h, e⟩
/-- the object at a, as it stands -/
theorem OAt.there {T : Tx} {ps : List Addr} {H : Hp} {a : Addr} : ∀ {o : O}, OAt T ps H a o → ∃ u, H a = some u ∧ (∀ z, u ≠ .tbl z)
  | .lst _, ⟨vs, r, e⟩ => ⟨_, e, (fun _ z => by cases z)⟩
  | .tup _, ⟨vs, r, e⟩ => ⟨_, e, (fun _ z => by cases z)⟩
  | .rol _, ⟨vs, ob, r, e⟩ => ⟨_, e, (fun _ z => by cases z)⟩
  | .dic _, ⟨vs, r, e⟩ => ⟨_, e, (fun _ z => by cases z)⟩
  | .ins _ _, ⟨vs, dx, r, e⟩ => ⟨_, e, (fun _ z => by cases z)⟩
  | .xd _, ⟨vs, r, e⟩ => ⟨_, e, (fun _ z => by cases z)⟩
  | .err _ _, ⟨C, dx, e1, e2, e3⟩ => ⟨_, e3, (fun _ z => by cases z)⟩
  | .xdd _, ⟨vs, r, e⟩ => ⟨_, e, (fun _ z => by cases z)⟩
theorem OAt.put {T : Tx} {ps : List Addr} {H H' : Hp} {a : Addr} (h : ∀ u, H a = some u → H' a = some u) : ∀ {o : O}, OAt T ps H a o → OAt T ps H' a o
  | .lst _, ⟨vs, r, e⟩ => ⟨vs, r, h _ e⟩
  | .tup _, ⟨vs, r, e⟩ => ⟨vs, r, h _ e⟩
  | .rol _, ⟨vs, ob, r, e⟩ => ⟨vs, ob, r, h _ e⟩
  | .dic _, ⟨vs, r, e⟩ => ⟨vs, r, h _ e⟩
  | .ins _ _, ⟨vs, dx, r, e⟩ => ⟨vs, dx, r, h _ e⟩
  | .xd _, ⟨vs, r, e⟩ => ⟨vs, r, h _ e⟩
  | .err _ _, ⟨C, dx, e1, e2, e3⟩ => ⟨C, dx, e1, e2, h _ e3⟩
  | .xdd _, ⟨vs, r, e⟩ => ⟨vs, r, h _ e⟩

theorem Step.refl (ps : List Addr) (H : Hp) : Step ps H ps H := ⟨List.prefix_refl _, fun _ _ h n _ => absurd h n, fun _ _ h _ _ => h⟩
theorem Step.trans {ps qs rs : List Addr} {H H1 H2 : Hp} (a : Step ps H qs H1) (b : Step qs H1 rs H2) : Step ps H rs H2 := by
  have key : ∀ c o, H c = some o → (∀ z, o ≠ .tbl z) → c ∉ ps → c ∉ qs := fun c o h ht n hq => by
    obtain ⟨z, e⟩ := a.new c o hq n h
    exact ht z e
  refine ⟨a.pre.trans b.pre, fun c o hc n h => ?_, fun c o h ht n => b.fr c o (a.fr c o h ht n) ht (key c o h ht n)⟩
  by_cases ht : ∃ z, o = .tbl z
  · exact ht
  · have ht' : ∀ z, o ≠ .tbl z := fun z e => ht ⟨z, e⟩
    exact b.new c o hc (key c o h ht' n) (a.fr c o h ht' n)

section
variable {T : Tx} {ps : List Addr} {h : Hv} {H : Hp}
theorem View.get (v : View T ps h H) {i : Nat} {o : O} (e : h[i]? = some o) : ∃ a, ps[i]? = some a ∧ OAt T ps H a o := by
  have hl : i < ps.length := by rw [v.len]; exact (List.getElem?_eq_some_iff.mp e).1
  exact ⟨ps[i], by simp [hl], v.ob i _ o (by simp [hl]) e⟩
theorem View.mem (v : View T ps h H) {a : Addr} (ha : a ∈ ps) : ∃ u, H a = some u ∧ (∀ z, u ≠ .tbl z) := by
  obtain ⟨i, hi, e⟩ := List.getElem_of_mem ha
  have hl : i < h.length := by rw [← v.len]; exact hi
  exact (v.ob i a h[i] (by simp [hi, e]) (by simp [hl])).there
theorem View.fresh (v : View T ps h H) {p : Addr} (hp : H p = none) : p ∉ ps := fun z => by
  obtain ⟨u, e, _⟩ := v.mem z
  rw [hp] at e; cases e
theorem tabs_new {T : Tb} (t : LamX.Tabs T H) {p : Addr} (hp : H p = none) (o : HO) : LamX.Tabs T (upd H p o) := t.ext fun b u e => by rw [upd_ne (ne_of_none e hp)]; exact e
theorem tabs_put {T : Tb} (t : LamX.Tabs T H) {p : Addr} {u : HO} (hp : H p = some u) (h1 : ∀ z, u ≠ .tbl z) (h2 : ∀ f, u ≠ .ext f) (o : HO) : LamX.Tabs T (upd H p o) := fun q hq => by
  obtain ⟨z, e1, e2, e3⟩ := t q hq
  refine ⟨z, by rw [upd_ne (fun w => h1 z (by rw [w, hp] at e1; exact Option.some.inj e1))]; exact e1, e2, fun pos cv hc => ?_⟩
  obtain ⟨c, r1, r2⟩ := e3 pos cv hc
  refine ⟨c, r1, ?_⟩
  rw [upd_ne (fun w => h2 _ (by rw [w, hp] at r2; exact Option.some.inj r2))]
  exact r2
/-- a new object of ours -/
theorem View.alloc (v : View T ps h H) {p : Addr} (hp : H p = none) {o : O} {u : HO} (ho : OAt T ps (upd H p u) p o) : View T (ps ++ [p]) (h ++ [o]) (upd H p u) ∧ Step ps H (ps ++ [p]) (upd H p u) ∧ (ps ++ [p])[h.length]? = some p := by
  have hn := v.fresh hp
  refine ⟨⟨by simp [v.len], ?_, fun i a o' e1 e2 => ?_, tabs_new v.tab hp u, T.mono _ _ (List.prefix_append _ _) v.fact⟩, ⟨List.prefix_append _ _, fun a o' ha hb he => ?_, fun a o' e _ _ => by rw [upd_ne (ne_of_none e hp)]; exact e⟩, by rw [← v.len]; simp⟩
  · rw [List.nodup_append]
    refine ⟨v.nd, by simp, fun a ha b hb => ?_⟩
    simp at hb
    rintro rfl
    exact hn (hb ▸ ha)
  · by_cases hi : i < ps.length
    · rw [List.getElem?_append_left hi] at e1
      rw [List.getElem?_append_left (by rw [← v.len]; exact hi)] at e2
      have q := v.ob i a o' e1 e2
      obtain ⟨u', e', _⟩ := q.there
      exact (q.put fun w hw => by rw [upd_ne (ne_of_none e' hp)]; exact hw).mono (List.prefix_append _ _)
    · have hi' : i = ps.length := by
        have := (List.getElem?_eq_some_iff.mp e1).1
        simp at this; omega
      subst hi'
      simp at e1
      rw [v.len] at e2
      simp at e2
      subst e1 e2
      exact ho.mono (List.prefix_append _ _)
  · simp at ha
    rcases ha with ha | ha
    · exact absurd ha hb
    · rw [ha, hp] at he; cases he
/-- an object of ours is another -/
theorem View.put (v : View T ps h H) {i : Nat} {a : Addr} (ha : ps[i]? = some a) {o : O} {u : HO} (ho : OAt T ps (upd H a u) a o) (hx : ∀ u0, H a = some u0 → ∀ f, u0 ≠ .ext f) : View T ps (h.set i o) (upd H a u) ∧ Step ps H ps (upd H a u) := by
  obtain ⟨u0, e0, t0⟩ := v.mem (List.mem_of_getElem? ha)
  have x0 := hx u0 e0
  refine ⟨⟨by simp [v.len], v.nd, fun j b o' e1 e2 => ?_, tabs_put v.tab e0 t0 x0 u, v.fact⟩, ⟨List.prefix_refl _, fun _ _ h n _ => absurd h n, fun b o' e _ n => ?_⟩⟩
  · by_cases hj : j = i
    · subst hj
      rw [ha] at e1
      cases e1
      have hl : j < h.length := by rw [← v.len]; exact (List.getElem?_eq_some_iff.mp ha).1
      rw [List.getElem?_set_self hl] at e2
      cases e2
      exact ho
    · rw [List.getElem?_set_ne fun z => hj z.symm] at e2
      have q := v.ob j b o' e1 e2
      refine q.put fun w hw => ?_
      rw [upd_ne (fun z => hj ?_)]
      · exact hw
      · subst z
        have h1 := List.getElem?_eq_some_iff.mp ha
        have h2 := List.getElem?_eq_some_iff.mp e1
        exact (List.getElem_inj v.nd).mp (h2.2.trans h1.2.symm)
  · rw [upd_ne (fun z => n (by rw [z]; exact List.mem_of_getElem? ha))]
    exact e
end

/-! ### results -/
inductive Res (α : Type) where
  | val (a : α) (h : Hv)
  | exc (c : String) (d : Option Nat) (h : Hv)
  | bad
namespace Res
def bind {α β : Type} : Res α → (α → Hv → Res β) → Res β
  | .val a h, k => k a h
  | .exc c d h, _ => .exc c d h
  | .bad, _ => .bad
end Res
def DV (ps : List Addr) : Option Nat → Option Addr → Prop
  | none, d => d = none
  | some i, d => ∃ a, ps[i]? = some a ∧ d = some a

def Good {α β : Type} (T : Tx) (R : List Addr → α → β → Prop) (ps : List Addr) (H : Hp) : Res α → (β → Hp → Prop) → XK → Prop
  | .val w h, Q, _ => ∀ qs H' v, Step ps H qs H' → View T qs h H' → R qs w v → Q v H'
  | .exc c d h, _, E => ∀ qs H' e, Step ps H qs H' → View T qs h H' → DV qs d e → E (T.cv c) e H'
  | .bad, _, _ => False
section
variable {α β γ δ : Type} {T : Tx} {R : List Addr → α → β → Prop} {S : List Addr → γ → δ → Prop} {ps qs : List Addr} {H H1 : Hp} {h : Hv} {r : Res α} {Q : β → Hp → Prop} {E : XK}
theorem Good.step (g : Good T R ps H r Q E) (s : Step ps H qs H1) : Good T R qs H1 r Q E := by
  cases r with
  | val w h => exact fun rs H' v s' => g rs H' v (s.trans s')
  | exc c d h => exact fun rs H' e s' => g rs H' e (s.trans s')
  | bad => exact g
/-- what stands between two pieces -/
def Mid (T : Tx) (R : List Addr → α → β → Prop) (S : List Addr → γ → δ → Prop) (ps : List Addr) (H : Hp) (k : α → Hv → Res γ) (Q : δ → Hp → Prop) (E : XK) (v : β) (H1 : Hp) : Prop :=
  ∃ qs w h1, Step ps H qs H1 ∧ View T qs h1 H1 ∧ R qs w v ∧ Good T S qs H1 (k w h1) Q E
theorem Good.bind {k : α → Hv → Res γ} {Q : δ → Hp → Prop} (g : Good T S ps H (r.bind k) Q E) : Good T R ps H r (Mid T R S ps H k Q E) E := by
  cases r with
  | val w h => exact fun qs H' v s vw rv => ⟨qs, w, h, s, vw, rv, Good.step g s⟩
  | exc c d h => exact g
  | bad => exact g
theorem Good.imp {Q' : β → Hp → Prop} {E' : XK} (g : Good T R ps H r Q E) (hq : ∀ v H', Q v H' → Q' v H') (he : ∀ c d H', E c d H' → E' c d H') : Good T R ps H r Q' E' := by
  cases r with
  | val w h => exact fun qs H' v s vw rv => hq _ _ (g qs H' v s vw rv)
  | exc c d h => exact fun qs H' e s vw rv => he _ _ _ (g qs H' e s vw rv)
  | bad => exact g
theorem Good.now {w : α} {v : β} (g : Good T R ps H (.val w h) Q E) (vw : View T ps h H) (rv : R ps w v) : Q v H := g ps H v (Step.refl _ _) vw rv
end

/-- the def's names -/
def ES (ps : List Addr) (r : Ws) (s : St) : Prop := r.length = s.length ∧ ∀ (i : Nat) (w : W), r[i]? = some (some w) → ∃ v, s[i]? = some (some v) ∧ WV ps w v
theorem ES.mono {ps qs : List Addr} {r : Ws} {s : St} (e : ES ps r s) (h : ps <+: qs) : ES qs r s := ⟨e.1, fun i w q => by
  obtain ⟨v, a, b⟩ := e.2 i w q
  exact ⟨v, a, b.mono h⟩⟩
theorem ES.set {ps : List Addr} {r : Ws} {s : St} {w : W} {v : V} (e : ES ps r s) (i : Nat) (h : WV ps w v) : ES ps (r.set i (some w)) (s.set i (some v)) := ⟨by simp [e.1], fun j u q => by
  by_cases hj : j = i
  · subst hj
    have hl : j < r.length := by simpa using (List.getElem?_eq_some_iff.mp q).1
    rw [List.getElem?_set_self hl] at q
    cases q
    exact ⟨v, by rw [List.getElem?_set_self (by rw [← e.1]; exact hl)], h⟩
  · rw [List.getElem?_set_ne (Ne.symm hj)] at q
    rw [List.getElem?_set_ne (Ne.symm hj)]
    exact e.2 j u q⟩

abbrev BEq2 : List Addr → Bool → Bool → Prop := fun _ a b => a = b
/-- the readings -/
def tE (T : Tx) (E : WX) (f : Ws → Hv → Res W) : TE := fun s H Q => ∃ ps r h, ES ps r s ∧ View T ps h H ∧ Good T WV ps H (f r h) Q (fun c d H' => E c d s H')
def tT (T : Tx) (E : WX) (f : Ws → Hv → Res Bool) : TT := fun s H Q => ∃ ps r h, ES ps r s ∧ View T ps h H ∧ Good T BEq2 ps H (f r h) Q (fun c d H' => E c d s H')
def tA (T : Tx) (E : WX) (f : Ws → Hv → Res (List W)) : TA := fun s H Q => ∃ ps r h, ES ps r s ∧ View T ps h H ∧ Good T (fun qs => Paired (WV qs)) ps H (f r h) Q (fun c d H' => E c d s H')

inductive ResS where
  | nx (r : Ws) (h : Hv) | rt (w : W) (h : Hv) | bk (r : Ws) (h : Hv) | ct (r : Ws) (h : Hv) | exc (c : String) (d : Option Nat) (r : Ws) (h : Hv) | bad
def GoodS (T : Tx) (ps : List Addr) (H : Hp) : ResS → Ends → WX → Prop
  | .nx r h, D, _ => ∀ qs H' s, Step ps H qs H' → View T qs h H' → ES qs r s → D.nx s H'
  | .rt w h, D, _ => ∀ qs H' v, Step ps H qs H' → View T qs h H' → WV qs w v → D.rt v H'
  | .bk r h, D, _ => ∀ qs H' s, Step ps H qs H' → View T qs h H' → ES qs r s → D.bk s H'
  | .ct r h, D, _ => ∀ qs H' s, Step ps H qs H' → View T qs h H' → ES qs r s → D.ct s H'
  | .exc c d r h, _, E => ∀ qs H' s e, Step ps H qs H' → View T qs h H' → ES qs r s → DV qs d e → E (T.cv c) e s H'
  | .bad, _, _ => False
theorem GoodS.step {T : Tx} {ps qs : List Addr} {H H1 : Hp} {r : ResS} {D : Ends} {E : WX} (g : GoodS T ps H r D E) (s : Step ps H qs H1) : GoodS T qs H1 r D E := by
  cases r with
  | nx r h => exact fun rs H' v s' => g rs H' v (s.trans s')
  | rt r h => exact fun rs H' v s' => g rs H' v (s.trans s')
  | bk r h => exact fun rs H' v s' => g rs H' v (s.trans s')
  | ct r h => exact fun rs H' v s' => g rs H' v (s.trans s')
  | exc c d r h => exact fun rs H' v e s' => g rs H' v e (s.trans s')
  | bad => exact g
def tS (T : Tx) (E : WX) (f : Ws → Hv → ResS) : TS := fun D s H => ∃ ps r h, ES ps r s ∧ View T ps h H ∧ GoodS T ps H (f r h) D E

/-- the context's wish about exceptions -/
structure Cn (X : Cx) (E : WX) : Prop where
  tk : Takes X E
  po : PassesOwn (model X.prog X.w) X.A X.env X.xe
def SE (T : Tx) (X : Cx) (e : Expr) (f : Ws → Hv → Res W) : Prop := ∀ E, Cn X E → PE X e (tE T E f)
def STt (T : Tx) (X : Cx) (e : Expr) (f : Ws → Hv → Res Bool) : Prop := ∀ E, Cn X E → PT X e (tT T E f)
def SA (T : Tx) (X : Cx) (es : List Expr) (f : Ws → Hv → Res (List W)) : Prop := ∀ E, Cn X E → PA X es (tA T E f)
def SS (T : Tx) (X : Cx) (st : Stmt) (f : Ws → Hv → ResS) : Prop := ∀ E, Cn X E → PS X st (tS T E f)
def SSs (T : Tx) (X : Cx) (st : List Stmt) (f : Ws → Hv → ResS) : Prop := ∀ E, Cn X E → PSs X st (tS T E f)

section
variable {X : Cx} {e : Expr} {es : List Expr} {st : Stmt} {sts : List Stmt}
theorem PEi {t t' : TE} (h : PE X e t) (k : ∀ s H Q, t' s H Q → t s H Q) : PE X e t' := ⟨fun pins s σ H Q I hw => h.run pins s σ H Q I (k _ _ _ hw)⟩
theorem PTi {t t' : TT} (h : PT X e t) (k : ∀ s H Q, t' s H Q → t s H Q) : PT X e t' := ⟨fun pins s σ H Q I hw => h.run pins s σ H Q I (k _ _ _ hw)⟩
theorem PAi {t t' : TA} (h : PA X es t) (k : ∀ s H Q, t' s H Q → t s H Q) : PA X es t' := ⟨fun pos pins s σ H Q I hw => h.run pos pins s σ H Q I (k _ _ _ hw)⟩
theorem PSi {t t' : TS} (h : PS X st t) (k : ∀ D s H, t' D s H → t D s H) : PS X st t' := ⟨fun pins s σ H D I hw => h.run pins s σ H D I (k _ _ _ hw)⟩
theorem PSsi {t t' : TS} (h : PSs X sts t) (k : ∀ D s H, t' D s H → t D s H) : PSs X sts t' := ⟨fun pins s σ H D I hw => h.run pins s σ H D I (k _ _ _ hw)⟩
end
end VL
end
section
namespace VL
open PySem L2

/-! ### names, and what stands for itself -/
def mVar (i : Nat) : Ws → Hv → Res W := fun r h => match r[i]? with
  | some (some w) => .val w h
  | _ => .bad
def mC (w : W) : Ws → Hv → Res W := fun _ h => .val w h
section
variable {T : Tx} {X : Cx}
theorem se_var (i : Nat) {x : Str} {pos : Pos} (hN : X.N[i]? = some x := by rfl) (hv : Vis X.env.scope x := by first | exact Or.inl rfl | exact Or.inr (Or.inl rfl) | exact Or.inr (Or.inr rfl)) (hd : (x == ("__debug__" : Str)) = false := by decide)
    (hcd : (x == ("__classdict__" : Str)) = false := by decide) : SE T X (.Name x pos) (mVar i) := fun E cn => PEi (pe_var hN hv hd hcd) fun s H Q ⟨ps, r, h, es, vw, g⟩ => by
  unfold mVar at g
  split at g
  · rename_i w e
    obtain ⟨v, h1, h2⟩ := es.2 i w e
    exact ⟨v, h1, Good.now g vw h2⟩
  · exact g.elim
theorem se_c {e : Expr} {v : V} {w : W} (hp : PE X e (tC v)) (hw : ∀ ps, WV ps w v) : SE T X e (mC w) := fun E cn => PEi hp fun s H Q ⟨ps, r, h, es, vw, g⟩ => Good.now g vw (hw ps)
theorem se_int {i : Int} {j pos} : SE T X (.Constant (.int i) j pos) (mC (.int i)) := se_c pe_int fun _ => rfl
theorem se_bl {b : Bool} {j pos} : SE T X (.Constant (.bool b) j pos) (mC (.bl b)) := se_c pe_bl fun _ => rfl
theorem se_non {j pos} : SE T X (.Constant .none j pos) (mC .non) := se_c pe_non fun _ => rfl
theorem se_str {x : Str} {j pos} : SE T X (.Constant (.str x) j pos) (mC (.str x)) := se_c pe_str fun _ => rfl
theorem se_fix {x : Str} {a : Addr} {pos : Pos} (hg : Gl X x) (hm : X.mg x = some (.ref a)) (hd : (x == ("__debug__" : Str)) = false := by decide) : SE T X (.Name x pos) (mC (.fix a)) := se_c (pe_glob (v := .ref a) hg hm rfl hd) fun _ => rfl
theorem se_ty {x : Str} {n : String} {pos : Pos} (hg : Gl X x) (hm : X.mg x = none) (hv : bootBuiltins x = some (.type n)) (hn : x ≠ "__name__" := by decide) (hd : (x == ("__debug__" : Str)) = false := by decide) : SE T X (.Name x pos) (mC (.ty n)) :=
  se_c (pe_bltn (v := .ty n) hg hm hv rfl hn hd) fun _ => rfl
end

/-! ### operators -/
abbrev MOp := W → W → Hv → Res W
def RO (T : Tx) (r : R2) (g : MOp) : Prop := ∀ ps h H x y vx vy (Q : VK) (E : XK), View T ps h H → WV ps x vx → WV ps y vy → Good T WV ps H (g x y h) Q E → r vx vy H Q
def m2 (g : MOp) (fa fb : Ws → Hv → Res W) : Ws → Hv → Res W := fun r h => (fa r h).bind fun x h1 => (fb r h1).bind fun y h2 => g x y h2
section
variable {T : Tx} {X : Cx} {a b : Expr} {fa fb : Ws → Hv → Res W} {pos : Pos}
theorem two_of {E : WX} {r : R2} {g : MOp} (ho : RO T r g) {s : St} {H : Hp} {Q : VK} (h : tE T E (m2 g fa fb) s H Q) : tOp r (tE T E fa) (tE T E fb) s H Q := by
  obtain ⟨ps, r', hv, es, vw, gd⟩ := h
  refine ⟨ps, r', hv, es, vw, (Good.bind (R := WV) gd).imp (fun v H1 q => ?_) fun _ _ _ z => z⟩
  obtain ⟨qs, w, h1, st, vw1, wv, g1⟩ := q
  refine ⟨qs, r', h1, es.mono st.pre, vw1, (Good.bind (R := WV) g1).imp (fun u H2 q2 => ?_) fun _ _ _ z => z⟩
  obtain ⟨rs, w2, h2, st2, vw2, wv2, g2⟩ := q2
  exact ho rs h2 H2 w w2 v u Q _ vw2 (wv.mono st2.pre) wv2 g2
theorem se_op {op : Operator} {r : R2} {g : MOp} (ho : OpR X (binaryOp op) r) (hg : RO T r g) (ha : SE T X a fa) (hb : SE T X b fb) : SE T X (.BinOp a op b pos) (m2 g fa fb) := fun E cn =>
  PEi (pe_op ho (ha E cn) (hb E cn)) fun s H Q h => two_of hg h
theorem se_cmp {op : CmpOp} {r : R2} {g : MOp} (ho : OpR X (compareOp op) r) (hg : RO T r g) (ha : SE T X a fa) (hb : SE T X b fb) (hm : behindInMarks op b = false) : SE T X (.Compare a [op] [b] pos) (m2 g fa fb) := fun E cn =>
  PEi (pe_cmpR ho (ha E cn) (hb E cn) hm) fun s H Q h => two_of hg h
theorem RO.or {r r' : R2} {g : MOp} (h : ∀ ps h H x y vx vy (Q : VK) (E : XK), View T ps h H → WV ps x vx → WV ps y vy → Good T WV ps H (g x y h) Q E → r vx vy H Q ∨ r' vx vy H Q) : RO T (fun x y H Q => r x y H Q ∨ r' x y H Q) g := h

/-- two ints -/
def mI (C : Int → Int → Bool) (g : Int → Int → W) : MOp := fun x y h => match x, y with
  | .int i, .int j => if C i j then .val (g i j) h else .bad
  | _, _ => .bad
theorem ro_I {C : Int → Int → Prop} {C' : Int → Int → Bool} {g : Int → Int → W} {gv : Int → Int → V} (hc : ∀ i j, C' i j = true → C i j) (hg : ∀ ps i j, WV ps (g i j) (gv i j)) : RO T (rI C gv) (mI C' g) := by
  intro ps h H x y vx vy Q E vw wx wy gd
  unfold mI at gd
  split at gd
  · rename_i i j
    split at gd
    · rename_i hcc
      cases wx; cases wy
      exact ⟨i, j, rfl, rfl, hc i j hcc, Good.now gd vw (hg ps i j)⟩
    · exact gd.elim
  · exact gd.elim
def mI0 (g : Int → Int → W) : MOp := fun x y h => match x, y with
  | .int i, .int j => .val (g i j) h
  | _, _ => .bad
theorem ro_I0 {g : Int → Int → W} {gv : Int → Int → V} (hg : ∀ ps i j, WV ps (g i j) (gv i j)) : RO T (rI0 gv) (mI0 g) := by
  intro ps h H x y vx vy Q E vw wx wy gd
  unfold mI0 at gd
  split at gd
  · rename_i i j
    cases wx; cases wy
    exact ⟨i, j, rfl, rfl, Good.now gd vw (hg ps i j)⟩
  · exact gd.elim

/-! ### objects -/
theorem notX {H : Hp} {a : Addr} {xs : List V} (e : H a = some (.lst xs)) : ∀ u0, H a = some u0 → ∀ f, u0 ≠ .ext f := fun u0 h f z => by
  rw [e] at h
  cases h
  cases z
def mNew (o : O) (h : Hv) : Res W := .val (.ref h.length) (h ++ [o])
theorem good_new {ps : List Addr} {h : Hv} {H : Hp} {o : O} {u : HO} {Q : VK} {E : XK} (vw : View T ps h H) (g : Good T WV ps H (mNew o h) Q E) (ho : ∀ H' p, H' p = some u → OAt T ps H' p o) {p : Addr} (hp : H p = none) : Q (.ref p) (upd H p u) := by
  obtain ⟨v1, s1, e1⟩ := vw.alloc hp (ho _ p upd_same)
  exact g _ _ _ s1 v1 ⟨p, e1, rfl⟩
theorem paired_app {ps : List Addr} {xs ys : List W} {vs us : List V} (a : Paired (WV ps) xs vs) (b : Paired (WV ps) ys us) : Paired (WV ps) (xs ++ ys) (vs ++ us) := by
  induction a with
  | nil => exact b
  | cons h t ih => exact .cons h ih
theorem paired_get {ps : List Addr} {xs : List W} {vs : List V} (a : Paired (WV ps) xs vs) : ∀ {i : Nat} {w : W}, xs[i]? = some w → ∃ v, vs[i]? = some v ∧ WV ps w v := by
  induction a with
  | nil => intro i w e; simp at e
  | cons h t ih =>
    intro i w e
    cases i with
    | zero => simp at e; subst e; exact ⟨_, rfl, h⟩
    | succ i => exact ih (by simpa using e)
theorem paired_at {ps : List Addr} {xs : List W} {vs : List V} (a : Paired (WV ps) xs vs) {i : Int} {w : W} (e : atI xs i = some w) : ∃ v, atI vs i = some v ∧ WV ps w v := by
  unfold atI at e ⊢
  rw [← a.length]
  cases h : ixN xs.length i with
  | none => rw [h] at e; cases e
  | some j =>
    rw [h] at e
    exact paired_get a e
theorem paired_set {ps : List Addr} {xs : List W} {vs : List V} (a : Paired (WV ps) xs vs) {w : W} {v : V} (h : WV ps w v) : ∀ i, Paired (WV ps) (xs.set i w) (vs.set i v) := by
  induction a with
  | nil => intro i; exact .nil
  | cons h1 t ih =>
    intro i
    cases i with
    | zero => exact .cons h t
    | succ i => exact .cons h1 (ih i)
theorem paired_take {ps : List Addr} {xs : List W} {vs : List V} (a : Paired (WV ps) xs vs) : ∀ n, Paired (WV ps) (xs.take n) (vs.take n) := by
  induction a with
  | nil => intro n; simp; exact .nil
  | cons h1 t ih =>
    intro n
    cases n with
    | zero => exact .nil
    | succ n => exact .cons h1 (ih n)
theorem paired_drop {ps : List Addr} {xs : List W} {vs : List V} (a : Paired (WV ps) xs vs) : ∀ n, Paired (WV ps) (xs.drop n) (vs.drop n) := by
  induction a with
  | nil => intro n; simp; exact .nil
  | cons h1 t ih =>
    intro n
    cases n with
    | zero => exact .cons h1 t
    | succ n => exact ih n
theorem paired_rep {ps : List Addr} {xs : List W} {vs : List V} (a : Paired (WV ps) xs vs) : ∀ n, Paired (WV ps) (List.replicate n xs).flatten (List.replicate n vs).flatten
  | 0 => .nil
  | n + 1 => by
    simp only [List.replicate_succ, List.flatten_cons]
    exact paired_app a (paired_rep a n)
end

/-! ### argument lists, displays -/
def mNil : Ws → Hv → Res (List W) := fun _ h => .val [] h
def mCons (f : Ws → Hv → Res W) (g : Ws → Hv → Res (List W)) : Ws → Hv → Res (List W) := fun r h => (f r h).bind fun w h1 => (g r h1).bind fun ws h2 => .val (w :: ws) h2
abbrev WVs : List Addr → List W → List V → Prop := fun qs => Paired (WV qs)
section
variable {T : Tx} {X : Cx} {e : Expr} {es : List Expr} {f : Ws → Hv → Res W} {g : Ws → Hv → Res (List W)} {pos : Pos}
theorem sa_nil : SA T X [] mNil := fun E cn => PAi pa_nil fun s H Q ⟨ps, r, h, es, vw, g⟩ => Good.now (R := WVs) g vw .nil
theorem sa_cons (h1 : SE T X e f) (h2 : SA T X es g) (hs : starEach (e :: es) X.env = (false, eval e X.env) :: starEach es X.env := by rfl) : SA T X (e :: es) (mCons f g) := fun E cn =>
  PAi (pa_cons (h1 E cn) (h2 E cn) hs) fun s H Q ⟨ps, r, h, es, vw, gd⟩ => by
    refine ⟨ps, r, h, es, vw, (Good.bind (R := WV) (S := WVs) gd).imp (fun v H1 q => ?_) fun _ _ _ z => z⟩
    obtain ⟨qs, w, h1, st, vw1, wv, g1⟩ := q
    refine ⟨qs, r, h1, es.mono st.pre, vw1, (Good.bind (R := WVs) (S := WVs) g1).imp (fun u H2 q2 => ?_) fun _ _ _ z => z⟩
    obtain ⟨rs, w2, h2, st2, vw2, wv2, g2⟩ := q2
    exact Good.now (R := WVs) g2 vw2 (.cons (wv.mono st2.pre) wv2)
def mTup (g : Ws → Hv → Res (List W)) : Ws → Hv → Res W := fun r h => (g r h).bind fun ws h1 => if ws.length ≤ 100000 then mNew (.tup ws) h1 else .bad
def mLst (g : Ws → Hv → Res (List W)) : Ws → Hv → Res W := fun r h => (g r h).bind fun ws h1 => if ws.length ≤ 100000 then mNew (.lst ws) h1 else .bad
theorem sz_ok {n : Nat} (h : n ≤ 100000) : n ≤ sizeLine := Nat.le_trans h (by decide)
theorem se_tup {x1} (ha : SA T X es g) : SE T X (.Tuple es x1 pos) (mTup g) := fun E cn => PEi (pe_tup (ha E cn)) fun s H Q ⟨ps, r, h, es, vw, gd⟩ => by
  refine ⟨ps, r, h, es, vw, (Good.bind (R := WVs) (S := WV) gd).imp (fun v H1 q => ?_) fun _ _ _ z => z⟩
  obtain ⟨qs, w, h1, st, vw1, wv, g1⟩ := q
  have wl : w.length = v.length := wv.length
  dsimp only at g1
  split at g1
  · rename_i hl
    exact ⟨sz_ok (wl ▸ hl), fun p hp => good_new vw1 g1 (fun H' p' e => ⟨v, wv, e⟩) hp⟩
  · exact g1.elim
theorem se_lst (ha : SA T X es g) : SE T X (.List es pos) (mLst g) := fun E cn => PEi (pe_lst (ha E cn)) fun s H Q ⟨ps, r, h, es, vw, gd⟩ => by
  refine ⟨ps, r, h, es, vw, (Good.bind (R := WVs) (S := WV) gd).imp (fun v H1 q => ?_) fun _ _ _ z => z⟩
  obtain ⟨qs, w, h1, st, vw1, wv, g1⟩ := q
  have wl : w.length = v.length := wv.length
  dsimp only at g1
  split at g1
  · rename_i hl
    exact ⟨sz_ok (wl ▸ hl), fun p hp => good_new vw1 g1 (fun H' p' e => ⟨v, wv, e⟩) hp⟩
  · exact g1.elim
end

/-! ### tests, and, or, not -/
def asB (w : W) (h : Hv) : Res Bool := match w with
  | .bl b => .val b h
  | _ => .bad
def mT (f : Ws → Hv → Res W) : Ws → Hv → Res Bool := fun r h => (f r h).bind asB
section
variable {T : Tx} {X : Cx} {e a b c : Expr} {f fa fb : Ws → Hv → Res W} {t u : Ws → Hv → Res Bool} {rest : List Expr} {pos : Pos}
theorem asB_of {ps : List Addr} {H : Hp} {w : W} {h : Hv} {v : V} {Q : Bool → Hp → Prop} {E : XK} (vw : View T ps h H) (wv : WV ps w v) (g : Good T BEq2 ps H (asB w h) Q E) : ∃ k, v = .bl k ∧ Q k H := by
  unfold asB at g
  split at g
  · rename_i k
    exact ⟨k, wv, Good.now (R := BEq2) g vw rfl⟩
  · exact g.elim
theorem test_of {E : WX} {s : St} {H : Hp} {Q : Bool → Hp → Prop} (h : tT T E (mT f) s H Q) : tE T E f s H fun x H1 => ∃ k, x = .bl k ∧ Q k H1 := by
  obtain ⟨ps, r, hv, es, vw, gd⟩ := h
  refine ⟨ps, r, hv, es, vw, (Good.bind (R := WV) (S := BEq2) gd).imp (fun v H1 q => ?_) fun _ _ _ z => z⟩
  obtain ⟨qs, w, h1, st, vw1, wv, g1⟩ := q
  exact asB_of vw1 wv g1
/-- a plain expression -/
theorem st_val (h : SE T X e f) (he : ∀ whole, isTrue e X.env whole = (do let v ← whole; standAt e.pos; holding [v] (truthy v)) := by intro _; rfl) : STt T X e (mT f) := fun E cn => PTi (pt_val (h E cn) he) fun s H Q h => test_of h
theorem st_cmp {op : CmpOp} {r : R2} {g : MOp} (ho : OpR X (compareOp op) r) (hg : RO T r g) (ha : SE T X a fa) (hb : SE T X b fb) (hm : behindInMarks op b = false) : STt T X (.Compare a [op] [b] pos) (mT (m2 g fa fb)) := fun E cn =>
  PTi (pt_cmpR ho (ha E cn) (hb E cn) hm) fun s H Q ⟨ps, r', h, es, vw, gd⟩ => by
    have z : tE T E (m2 g fa fb) s H fun x H' => ∃ k, x = .bl k ∧ Q k H' := test_of ⟨ps, r', h, es, vw, gd⟩
    exact two_of hg z
def mNotT (t : Ws → Hv → Res Bool) : Ws → Hv → Res Bool := fun r h => (t r h).bind fun b h1 => .val (!b) h1
def mAndT (t u : Ws → Hv → Res Bool) : Ws → Hv → Res Bool := fun r h => (t r h).bind fun b h1 => if b then u r h1 else .val false h1
def mOrT (t u : Ws → Hv → Res Bool) : Ws → Hv → Res Bool := fun r h => (t r h).bind fun b h1 => if b then .val true h1 else u r h1
theorem st_not (ha : STt T X a t) : STt T X (.UnaryOp .Not a pos) (mNotT t) := fun E cn => PTi (pt_not (ha E cn)) fun s H Q ⟨ps, r, h, es, vw, gd⟩ => by
  refine ⟨ps, r, h, es, vw, (Good.bind (R := BEq2) (S := BEq2) gd).imp (fun v H1 q => ?_) fun _ _ _ z => z⟩
  obtain ⟨qs, w, h1, st, vw1, wv, g1⟩ := q
  cases wv
  exact Good.now (R := BEq2) g1 vw1 rfl
/-- a chain of and, or -/
def SW (T : Tx) (X : Cx) (e : Expr) (f : Ws → Hv → Res Bool) : Prop := ∀ E, Cn X E → PW X e (tT T E f)
theorem PWi {t t' : TT} (h : PW X e t) (k : ∀ s H Q, t' s H Q → t s H Q) : PW X e t' := ⟨fun wh pins s σ H Q I hw => h.run wh pins s σ H Q I (k _ _ _ hw)⟩
theorem sw_and1 (ha : STt T X a t) : SW T X (.BoolOp .And [a] pos) t := fun E cn => pw_and1 (ha E cn)
theorem sw_or1 (ha : STt T X a t) : SW T X (.BoolOp .Or [a] pos) t := fun E cn => pw_or1 (ha E cn)
theorem sw_and (ha : STt T X a t) (hb : SW T X (.BoolOp .And (b :: rest) pos) u) : SW T X (.BoolOp .And (a :: b :: rest) pos) (mAndT t u) := fun E cn => PWi (pw_and (ha E cn) (hb E cn)) fun s H Q ⟨ps, r, h, es, vw, gd⟩ => by
  refine ⟨ps, r, h, es, vw, (Good.bind (R := BEq2) (S := BEq2) gd).imp (fun v H1 q => ?_) fun _ _ _ z => z⟩
  obtain ⟨qs, w, h1, st, vw1, wv, g1⟩ := q
  cases wv
  cases v with
  | true => exact iteT ⟨qs, r, h1, es.mono st.pre, vw1, g1⟩
  | false => exact iteF (Good.now (R := BEq2) g1 vw1 rfl)
theorem sw_or (ha : STt T X a t) (hb : SW T X (.BoolOp .Or (b :: rest) pos) u) : SW T X (.BoolOp .Or (a :: b :: rest) pos) (mOrT t u) := fun E cn => PWi (pw_or (ha E cn) (hb E cn)) fun s H Q ⟨ps, r, h, es, vw, gd⟩ => by
  refine ⟨ps, r, h, es, vw, (Good.bind (R := BEq2) (S := BEq2) gd).imp (fun v H1 q => ?_) fun _ _ _ z => z⟩
  obtain ⟨qs, w, h1, st, vw1, wv, g1⟩ := q
  cases wv
  cases v with
  | true => exact iteT (Good.now (R := BEq2) g1 vw1 rfl)
  | false => exact iteF ⟨qs, r, h1, es.mono st.pre, vw1, g1⟩
theorem st_w (h : SW T X e t) : STt T X e t := fun E cn => (h E cn).pt
/-- .. as values -/
def mNotV (f : Ws → Hv → Res W) : Ws → Hv → Res W := fun r h => (mT f r h).bind fun b h1 => .val (.bl (!b)) h1
def mAndV (f g : Ws → Hv → Res W) : Ws → Hv → Res W := fun r h => (mT f r h).bind fun b h1 => if b then g r h1 else .val (.bl false) h1
def mOrV (f g : Ws → Hv → Res W) : Ws → Hv → Res W := fun r h => (mT f r h).bind fun b h1 => if b then .val (.bl true) h1 else g r h1
theorem se_one {op} (h : SE T X a f) : SE T X (.BoolOp op [a] pos) f := fun E cn => pe_one (h E cn)
theorem val_of {E : WX} {s : St} {H : Hp} {Q : VK} {k : Bool → Ws → Hv → Res W} {P : Bool → Hp → Prop} (h : tE T E (fun r h => (mT f r h).bind fun b h1 => k b r h1) s H Q) (hk : ∀ b H1, tE T E (k b) s H1 Q → P b H1) :
    tE T E f s H fun x H1 => ∃ c, x = .bl c ∧ P c H1 := by
  obtain ⟨ps, r, hv, es, vw, gd⟩ := h
  have z := (Good.bind (R := BEq2) (S := WV) gd)
  refine test_of ⟨ps, r, hv, es, vw, z.imp (fun v H1 q => ?_) fun _ _ _ z => z⟩
  obtain ⟨qs, w, h1, st, vw1, wv, g1⟩ := q
  cases wv
  exact hk v H1 ⟨qs, r, h1, es.mono st.pre, vw1, g1⟩
theorem tE_val {E : WX} {s : St} {H : Hp} {Q : VK} {w : W} {v : V} (h : tE T E (fun _ h => .val w h) s H Q) (hw : ∀ ps, WV ps w v) : Q v H := by
  obtain ⟨ps, r, hv, es, vw, gd⟩ := h
  exact Good.now (R := WV) gd vw (hw ps)
theorem se_not (ha : SE T X a f) : SE T X (.UnaryOp .Not a pos) (mNotV f) := fun E cn => PEi (pe_not (ha E cn)) fun s H Q h =>
  val_of (k := fun b _ h1 => .val (.bl (!b)) h1) h fun b H1 q => tE_val q fun _ => rfl
theorem se_and (ha : SE T X a fa) (hb : SE T X (.BoolOp .And (b :: rest) pos) fb) : SE T X (.BoolOp .And (a :: b :: rest) pos) (mAndV fa fb) := fun E cn => PEi (pe_and (ha E cn) (hb E cn)) fun s H Q h =>
  val_of (k := fun b r h1 => if b then fb r h1 else .val (.bl false) h1) h fun b H1 q => by
    cases b with
    | true => exact iteT q
    | false => exact iteF (tE_val (w := .bl false) q fun _ => rfl)
theorem se_or (ha : SE T X a fa) (hb : SE T X (.BoolOp .Or (b :: rest) pos) fb) : SE T X (.BoolOp .Or (a :: b :: rest) pos) (mOrV fa fb) := fun E cn => PEi (pe_or (ha E cn) (hb E cn)) fun s H Q h =>
  val_of (k := fun b r h1 => if b then .val (.bl true) h1 else fb r h1) h fun b H1 q => by
    cases b with
    | true => exact iteT (tE_val (w := .bl true) q fun _ => rfl)
    | false => exact iteF q
def mIf (t : Ws → Hv → Res Bool) (f g : Ws → Hv → Res W) : Ws → Hv → Res W := fun r h => (t r h).bind fun b h1 => if b then f r h1 else g r h1
theorem se_if (hc : STt T X c t) (ha : SE T X a fa) (hb : SE T X b fb) : SE T X (.IfExp c a b pos) (mIf t fa fb) := fun E cn => PEi (pe_ifExp (hc E cn) (ha E cn) (hb E cn)) fun s H Q ⟨ps, r, h, es, vw, gd⟩ => by
  refine ⟨ps, r, h, es, vw, (Good.bind (R := BEq2) (S := WV) gd).imp (fun v H1 q => ?_) fun _ _ _ z => z⟩
  obtain ⟨qs, w, h1, st, vw1, wv, g1⟩ := q
  cases wv
  cases v with
  | true => exact iteT ⟨qs, r, h1, es.mono st.pre, vw1, g1⟩
  | false => exact iteF ⟨qs, r, h1, es.mono st.pre, vw1, g1⟩
end
end VL
end
section
namespace VL
open PySem L2

/-! ### values as data -/
def optAll (f : W → Option PyData) : List W → Option (List PyData)
  | [] => some []
  | x :: xs => match f x, optAll f xs with
    | some y, some ys => some (y :: ys)
    | _, _ => none
def toD : Nat → Hv → W → Option PyData
  | 0, _, _ => none
  | n + 1, h, w => match w with
    | .non => some .none
    | .bl b => some (.bool b)
    | .int i => some (.int i)
    | .str x => some (.str x)
    | .ref i => match h[i]? with
      | some (.lst xs) => (optAll (toD n h) xs).map .list
      | some (.rol xs) => (optAll (toD n h) xs).map .list
      | some (.tup xs) => (optAll (toD n h) xs).map .tuple
      | _ => none
    | _ => none
section
variable {T : Tx} {K : PySem.W.Frag} {ps : List Addr} {h : Hv} {H : Hp}
theorem optAll_ok {f : W → Option PyData} (hf : ∀ w v d, f w = some d → WV ps w v → Dp K H v d) : ∀ {xs : List W} {vs : List V} {ds : List PyData}, optAll f xs = some ds → Paired (WV ps) xs vs → DpAll K H vs ds
  | [], _, _, e, .nil => by cases e; exact .nil
  | x :: xs, _, ds, e, .cons r t => by
    simp only [optAll] at e
    split at e
    · rename_i d ds' e1 e2
      cases e
      exact .cons (hf _ _ _ e1 r) (optAll_ok hf e2 t)
    · cases e
theorem toD_ok (vw : View T ps h H) : ∀ (n : Nat) (w : W) (v : V) (d : PyData), toD n h w = some d → WV ps w v → Dp K H v d
  | 0, _, _, _, e, _ => by cases e
  | n + 1, w, v, d, e, wv => by
    unfold toD at e
    split at e
    · cases e; cases wv; exact .non
    · cases e; cases wv; exact .bl _
    · cases e; cases wv; exact .int _
    · cases e; cases wv; exact .str _
    · rename_i i
      obtain ⟨a, ea, rfl⟩ := wv
      split at e
      · rename_i xs eh
        obtain ⟨vs, r, eH⟩ := vw.ob i a _ ea eh
        cases q : optAll (toD n h) xs with
        | none => simp [q] at e
        | some ds =>
          rw [q] at e; cases e
          exact .lst (SqL.of eH) (optAll_ok (toD_ok vw n) q r)
      · rename_i xs eh
        obtain ⟨vs, ob, r, eH⟩ := vw.ob i a _ ea eh
        cases q : optAll (toD n h) xs with
        | none => simp [q] at e
        | some ds =>
          rw [q] at e; cases e
          exact .lst (.inl (.inr ⟨ob, eH⟩)) (optAll_ok (toD_ok vw n) q r)
      · rename_i xs eh
        obtain ⟨vs, r, eH⟩ := vw.ob i a _ ea eh
        cases q : optAll (toD n h) xs with
        | none => simp [q] at e
        | some ds =>
          rw [q] at e; cases e
          exact .tup (SqT.of eH) (optAll_ok (toD_ok vw n) q r)
      · cases e
    · cases e
end
abbrev dF : Nat := 12
def mEq (neg : Bool) : MOp := fun x y h => match toD dF h x, toD dF h y with
  | some d, some e => if SeqAt.shaped d && SeqAt.shaped e then .val (.bl (if neg then !PyData.eqv d e else PyData.eqv d e)) h else .bad
  | _, _ => .bad
section
variable {T : Tx} {X : Cx}
theorem ro_eq : RO T (rEqD X.K) (mEq false) := by
  intro ps h H x y vx vy Q E vw wx wy gd
  unfold mEq at gd
  split at gd
  · rename_i d e e1 e2
    split at gd
    · rename_i hs
      rw [Bool.and_eq_true] at hs
      exact ⟨d, e, toD_ok vw _ _ _ _ e1 wx, toD_ok vw _ _ _ _ e2 wy, hs.1, hs.2, Good.now gd vw rfl⟩
    · exact gd.elim
  · exact gd.elim
theorem ro_ne : RO T (rNeD X.K) (mEq true) := by
  intro ps h H x y vx vy Q E vw wx wy gd
  unfold mEq at gd
  split at gd
  · rename_i d e e1 e2
    split at gd
    · rename_i hs
      rw [Bool.and_eq_true] at hs
      exact ⟨d, e, toD_ok vw _ _ _ _ e1 wx, toD_ok vw _ _ _ _ e2 wy, hs.1, hs.2, Good.now gd vw rfl⟩
    · exact gd.elim
  · exact gd.elim

/-! ### arithmetic -/
def mAdd : MOp := fun x y h => match x, y with
  | .int i, .int j => .val (.int (i + j)) h
  | .str a, .str b => if a.length + b.length ≤ 100000 then .val (.str (a ++ b)) h else .bad
  | .ref p, .ref q => match h[p]?, h[q]? with
    | some (.lst xs), some (.lst ys) => if xs.length + ys.length ≤ 100000 then mNew (.lst (xs ++ ys)) h else .bad
    | _, _ => .bad
  | _, _ => .bad
theorem op_addA : OpR X (binaryOp .Add) (fun x y H Q => (rI0 fun i j => .int (i + j)) x y H Q ∨ ((fun x y H Q => ∃ i j, x = V.str i ∧ y = V.str j ∧ i.length + j.length ≤ sizeLine ∧ Q (.str (i ++ j)) H) x y H Q ∨ rCat x y H Q)) := op_add.or (op_add_str.or op_cat)
theorem ro_add : RO T (fun x y H Q => (rI0 fun i j => .int (i + j)) x y H Q ∨ ((fun x y H Q => ∃ i j, x = V.str i ∧ y = V.str j ∧ i.length + j.length ≤ sizeLine ∧ Q (.str (i ++ j)) H) x y H Q ∨ rCat x y H Q)) mAdd := by
  intro ps h H x y vx vy Q E vw wx wy gd
  unfold mAdd at gd
  split at gd
  · cases wx; cases wy
    exact .inl ⟨_, _, rfl, rfl, Good.now gd vw rfl⟩
  · split at gd
    · rename_i hl
      cases wx; cases wy
      exact .inr (.inl ⟨_, _, rfl, rfl, sz_ok hl, Good.now gd vw rfl⟩)
    · exact gd.elim
  · obtain ⟨a, ea, rfl⟩ := wx
    obtain ⟨b, eb, rfl⟩ := wy
    split at gd
    · rename_i xs ys e1 e2
      split at gd
      · rename_i hl
        obtain ⟨vs, r, eH⟩ := vw.ob _ a _ ea e1
        obtain ⟨us, r2, eH2⟩ := vw.ob _ b _ eb e2
        have l1 := r.length
        have l2 := r2.length
        exact .inr (.inr ⟨a, b, vs, us, rfl, rfl, eH, eH2, sz_ok (by omega), fun p hp => good_new vw gd (fun H' p' e => ⟨_, paired_app r r2, e⟩) hp⟩)
      · exact gd.elim
    · exact gd.elim
  · exact gd.elim
def mSub : MOp := mI0 fun i j => .int (i - j)
theorem ro_sub : RO T (rI0 fun i j => .int (i - j)) mSub := ro_I0 fun _ _ _ => rfl
def mulB (i j : Int) : Bool := decide (i.natAbs.log2 + j.natAbs.log2 < 1000000)
def mMul : MOp := fun x y h => match x, y with
  | .int i, .int j => if mulB i j then .val (.int (i * j)) h else .bad
  | .ref p, .int k => match h[p]? with
    | some (.lst xs) => if decide (-9223372036854775808 ≤ k) && decide (k < 9223372036854775808) && decide (xs.length * k.toNat ≤ 100000) then mNew (.lst (List.replicate k.toNat xs).flatten) h else .bad
    | _ => .bad
  | _, _ => .bad
theorem op_mulA : OpR X (binaryOp .Mult) (fun x y H Q => (rI CMulW fun i j => .int (i * j)) x y H Q ∨ rRep x y H Q) := op_mulW.or op_rep
theorem ro_mul : RO T (fun x y H Q => (rI CMulW fun i j => .int (i * j)) x y H Q ∨ rRep x y H Q) mMul := by
  intro ps h H x y vx vy Q E vw wx wy gd
  unfold mMul at gd
  split at gd
  · split at gd
    · rename_i hc
      cases wx; cases wy
      exact .inl ⟨_, _, rfl, rfl, (show _ < 1000000 by unfold mulB at hc; exact of_decide_eq_true hc), Good.now gd vw rfl⟩
    · exact gd.elim
  · obtain ⟨a, ea, rfl⟩ := wx
    cases wy
    split at gd
    · rename_i k xs e1
      split at gd
      · rename_i hl
        simp only [Bool.and_eq_true, decide_eq_true_eq] at hl
        obtain ⟨vs, r, eH⟩ := vw.ob _ a _ ea e1
        have l1 := r.length
        have e63 : (2 : Int) ^ 63 = 9223372036854775808 := by decide
        exact .inr ⟨a, _, vs, rfl, rfl, eH, by rw [e63]; exact hl.1.1, by rw [e63]; exact hl.1.2, sz_ok (by rw [← l1]; exact hl.2), fun p hp => good_new vw gd (fun H' p' e => ⟨_, paired_rep r _, e⟩) hp⟩
      · exact gd.elim
    · exact gd.elim
  · exact gd.elim
def divB (_ j : Int) : Bool := decide (j ≠ 0) && decide (j.natAbs.log2 < 9000)
theorem op_fdivG : OpR X (binaryOp .FloorDiv) (rI (fun _ j => j ≠ 0 ∧ j.natAbs.log2 < 9000) fun i j => .int (i.fdiv j)) := opI fun i j _ _ _ _ _ hc q => PyProof.Rows.floordiv_int hc.1 q (.inl (PyProof.noPylong_of_log2 hc.2))
def mDiv : MOp := mI divB fun i j => .int (i.fdiv j)
theorem ro_div : RO T (rI (fun _ j => j ≠ 0 ∧ j.natAbs.log2 < 9000) fun i j => .int (i.fdiv j)) mDiv := ro_I (fun i j hc => by
  unfold divB at hc
  rw [Bool.and_eq_true] at hc
  exact ⟨of_decide_eq_true hc.1, of_decide_eq_true hc.2⟩) fun _ _ _ => rfl
def mMod : MOp := mI (fun _ j => decide (j ≠ 0)) fun i j => .int (i.fmod j)
theorem ro_mod : RO T (rI (fun _ j => j ≠ 0) fun i j => .int (i.fmod j)) mMod := ro_I (fun i j hc => of_decide_eq_true hc) fun _ _ _ => rfl
def powB (i j : Int) : Bool := decide (0 ≤ j) && (decide (j ≤ 1000000) && decide (i.natAbs < 2 ^ 64))
def mPow : MOp := mI powB fun i j => .int (i ^ j.toNat)
theorem ro_pow : RO T (rI CPow fun i j => .int (i ^ j.toNat)) mPow := ro_I (fun i j hc => by
  simp only [powB, Bool.and_eq_true, decide_eq_true_eq] at hc
  exact ⟨hc.1, hc.2.1, hc.2.2⟩) fun _ _ _ => rfl
def mLt : MOp := mI0 fun i j => .bl (decide (i < j))
def mLe : MOp := mI0 fun i j => .bl (decide (i ≤ j))
def mGt : MOp := mI0 fun i j => .bl (decide (j < i))
def mGe : MOp := mI0 fun i j => .bl (decide (j ≤ i))
theorem ro_lt : RO T (rI0 fun i j => .bl (decide (i < j))) mLt := ro_I0 fun _ _ _ => rfl
theorem ro_le : RO T (rI0 fun i j => .bl (decide (i ≤ j))) mLe := ro_I0 fun _ _ _ => rfl
theorem ro_gt : RO T (rI0 fun i j => .bl (decide (j < i))) mGt := ro_I0 fun _ _ _ => rfl
theorem ro_ge : RO T (rI0 fun i j => .bl (decide (j ≤ i))) mGe := ro_I0 fun _ _ _ => rfl
/-! ### is, is not: None and bools -/
def mIs (neg : Bool) : MOp := fun x y h => match x, y with
  | .bl a, .bl b => .val (.bl (if neg then !decide (a = b) else decide (a = b))) h
  | x, .non => .val (.bl (if neg then !decide (x = .non) else decide (x = .non))) h
  | _, _ => .bad
theorem wv_non {ps : List Addr} {w : W} {v : V} (h : WV ps w v) : decide (v = .non) = decide (w = .non) := by
  cases w with
  | ref i => obtain ⟨a, _, rfl⟩ := h; simp
  | non => cases h; simp
  | bl b => cases h; simp
  | int b => cases h; simp
  | str b => cases h; simp
  | fix b => cases h; simp
  | ty b => cases h; simp
def rIs (neg : Bool) : R2 := fun x y H Q => (∃ a b : Bool, x = .bl a ∧ y = .bl b ∧ Q (.bl (if neg then !decide (a = b) else decide (a = b))) H) ∨ (y = .non ∧ Q (.bl (if neg then !decide (x = .non) else decide (x = .non))) H)
theorem op_isA : OpR X (compareOp .Is) (rIs false) := op_isBl.or op_isN
theorem op_isnotA : OpR X (compareOp .IsNot) (rIs true) := op_notBl.or op_notN
theorem ro_is {neg : Bool} : RO T (rIs neg) (mIs neg) := by
  intro ps h H x y vx vy Q E vw wx wy gd
  unfold mIs at gd
  split at gd
  · cases wx; cases wy
    exact .inl ⟨_, _, rfl, rfl, Good.now gd vw rfl⟩
  · cases wy
    refine .inr ⟨rfl, ?_⟩
    rw [wv_non wx]
    exact Good.now gd vw rfl
  · exact gd.elim
/-! ### the sign -/
def m1 (g : W → Hv → Res W) (f : Ws → Hv → Res W) : Ws → Hv → Res W := fun r h => (f r h).bind g
def mNeg : W → Hv → Res W := fun x h => match x with
  | .int i => .val (.int (-i)) h
  | _ => .bad
theorem se_neg {a : Expr} {f : Ws → Hv → Res W} {pos : Pos} (ha : SE T X a f) : SE T X (.UnaryOp .USub a pos) (m1 mNeg f) := fun E cn => PEi (pe_un un_neg (ha E cn)) fun s H Q ⟨ps, r, h, es, vw, gd⟩ => by
  refine ⟨ps, r, h, es, vw, (Good.bind (R := WV) (S := WV) gd).imp (fun v H1 q => ?_) fun _ _ _ z => z⟩
  obtain ⟨qs, w, h1, st, vw1, wv, g1⟩ := q
  unfold mNeg at g1
  split at g1
  · cases wv
    exact ⟨_, rfl, Good.now g1 vw1 rfl⟩
  · exact g1.elim
/-! ### items -/
def ofO {α : Type} (o : Option α) (h : Hv) : Res α := match o with
  | some w => .val w h
  | none => .bad
def mIx : MOp := fun x y h => match x, y with
  | .ref p, .int i => match h[p]? with
    | some (.lst xs) => ofO (atI xs i) h
    | some (.rol xs) => ofO (atI xs i) h
    | some (.tup xs) => ofO (atI xs i) h
    | _ => .bad
  | .str z, .int i => if z.length ≤ 100000 then ofO ((atI z.cps.toList i).map fun c => .str ⟨#[c]⟩) h else .bad
  | _, _ => .bad
theorem ofO_of {ps : List Addr} {h : Hv} {H : Hp} {o : Option W} {Q : VK} {E : XK} (g : Good T WV ps H (ofO o h) Q E) : ∃ w, o = some w ∧ Good T WV ps H (.val w h) Q E := by
  cases o with
  | none => exact g.elim
  | some w => exact ⟨w, rfl, g⟩
theorem ro_ix : RO T (rIx X.K) mIx := by
  intro ps h H x y vx vy Q E vw wx wy gd
  unfold mIx at gd
  split at gd
  · obtain ⟨a, ea, rfl⟩ := wx
    cases wy
    split at gd
    · rename_i xs e1
      obtain ⟨w, ew, g⟩ := ofO_of gd
      obtain ⟨vs, r, eH⟩ := vw.ob _ a _ ea e1
      obtain ⟨v, ev, wv⟩ := paired_at r ew
      exact .inl ⟨a, vs, _, v, rfl, rfl, SqL.of eH, ev, Good.now g vw wv⟩
    · rename_i xs e1
      obtain ⟨w, ew, g⟩ := ofO_of gd
      obtain ⟨vs, ob, r, eH⟩ := vw.ob _ a _ ea e1
      obtain ⟨v, ev, wv⟩ := paired_at r ew
      exact .inl ⟨a, vs, _, v, rfl, rfl, .inl (.inr ⟨ob, eH⟩), ev, Good.now g vw wv⟩
    · rename_i xs e1
      obtain ⟨w, ew, g⟩ := ofO_of gd
      obtain ⟨vs, r, eH⟩ := vw.ob _ a _ ea e1
      obtain ⟨v, ev, wv⟩ := paired_at r ew
      exact .inr (.inl ⟨a, vs, _, v, rfl, rfl, SqT.of eH, ev, Good.now g vw wv⟩)
    · exact gd.elim
  · cases wx; cases wy
    split at gd
    · rename_i z i hl
      obtain ⟨w, ew, g⟩ := ofO_of gd
      cases q : atI z.cps.toList i with
      | none => rw [q] at ew; cases ew
      | some c =>
        rw [q] at ew; cases ew
        exact .inr (.inr ⟨z, i, c, rfl, rfl, sz_ok hl, q, Good.now g vw rfl⟩)
    · exact gd.elim
  · exact gd.elim
theorem se_ix {a b : Expr} {fa fb : Ws → Hv → Res W} {pos : Pos} (ha : SE T X a fa) (hb : SE T X b fb) (hs : PlainIx b := by exact fun _ _ => rfl) : SE T X (.Subscript a b pos) (m2 mIx fa fb) := fun E cn => PEi (pe_ix ix_seq (ha E cn) (hb E cn) hs) fun s H Q h => two_of ro_ix h
end
end VL
end
section
namespace VL
open PySem L2

/-! ### calls -/
abbrev MFn := List W → Hv → Res W
/-- a def's promise: it does what m says of the view -/
def spV (T : Tx) (n : Nat) (m : MFn) : Sp := fun vs H Q E => vs.length = n ∧ ∃ ps h ws, View T ps h H ∧ Paired (WV ps) ws vs ∧ Good T WV ps H (m ws h) Q E
/-- the def at f may be called where X stands -/
def Can (T : Tx) (X : Cx) (f : Addr) (n : Nat) (m : MFn) : Prop := ∀ (pins : List (Addr × Obj)) (s : Shared) (σ : St) (H : Hp) (us : List Value) (vs : List V) (Q : VK) (E : XK), Inv X pins σ H s → Vals vs us → spV T n m vs H Q E →
  codeAny (model X.prog X.w) X.A (.call (.ref f) ⟨us, []⟩) (CR (L2.CX X.prog X.w) X.stack X.prog X.w H s Q E) s
def mCall (n : Nat) (m : MFn) (g : Ws → Hv → Res (List W)) : Ws → Hv → Res W := fun r h => (g r h).bind fun ws h1 => if ws.length = n then m ws h1 else .bad
section
variable {T : Tx} {X : Cx} {f : Addr} {n : Nat} {m : MFn} {x : Str} {e : Expr} {es : List Expr} {g : Ws → Hv → Res (List W)} {p pos : Pos}
theorem Can.wp (C : Can T X f n m) {E : WX} (cn : Cn X E) {pins : List (Addr × Obj)} {s : Shared} {σ : St} {H : Hp} {us : List Value} {vs : List V} {Q : VK} (I : Inv X pins σ H s) (r : Vals vs us) (h : spV T n m vs H Q (WE E σ)) : wpAny (model X.prog X.w) X.A (call (.ref f) us) (EP X pins σ Q) X.xe s := by
  refine wpAny_call (codeAny_mono (C pins s σ H us vs Q (WE E σ) I r h) fun fin s' hq => ?_)
  match fin, hq with
  | .error u, hq => exact passAt cn.tk σ pins H s u s' I hq
  | .ok (.ret u), hq => exact I.after hq
  | .ok .next, hq => exact hq.elim
  | .ok .brk, hq => exact hq.elim
  | .ok .cont, hq => exact hq.elim
theorem call_read {E : WX} {s : St} {H : Hp} {Q : VK} (h : tE T E (mCall n m g) s H Q) : tA T E g s H fun vs H1 => spV T n m vs H1 Q (WE E s) := by
  obtain ⟨ps, r, hv, es, vw, gd⟩ := h
  refine ⟨ps, r, hv, es, vw, (Good.bind (R := WVs) (S := WV) gd).imp (fun v H1 q => ?_) fun _ _ _ z => z⟩
  obtain ⟨qs, w, h1, st, vw1, wv, g1⟩ := q
  dsimp only at g1
  have wl : w.length = v.length := wv.length
  split at g1
  · rename_i hl
    exact ⟨wl ▸ hl, qs, h1, w, vw1, wv, g1⟩
  · exact g1.elim
theorem se_call (C : Can T X f n m) (hg : Gl X x) (hm : X.mg x = some (.ref f)) (hk : PySem.W.keepIn X.K (.ref f) = true) (ha : SA T X (e :: es) g) (hdb : (x == ("__debug__" : Str)) = false := by decide)
    (he : starEach (e :: es) X.env = (false, eval e X.env) :: starEach es X.env := by rfl) (hpl : (backTo pos (starEach es X.env)).any (·.1) = false := by rfl) : SE T X (.Call (.Name x p) (e :: es) [] pos) (mCall n m g) := fun E cn => ⟨fun pins s σ H Q I h => by
  refine wpAny_Call_Name_kw (ld_glob (X := X) I hg hm ?_ hdb)
  exact PySem.W.callWith_K (h₀ := X.base) I.ok.mod.kin hk (thn ((ha E cn).run pos pins s σ H _ I (call_read h)) fun us s1 ⟨vs, H1, I1, r, q⟩ => ⟨I1.kIn, C.wp cn I1 r q⟩) he hpl⟩
theorem se_call0 (C : Can T X f 0 m) (hg : Gl X x) (hm : X.mg x = some (.ref f)) (hk : PySem.W.keepIn X.K (.ref f) = true) (hdb : (x == ("__debug__" : Str)) = false := by decide) : SE T X (.Call (.Name x p) [] [] pos) (mCall 0 m mNil) := fun E cn => ⟨fun pins s σ H Q I h => by
  refine wpAny_Call_Name_kw (ld_glob (X := X) I hg hm ?_ hdb)
  obtain ⟨ps, r, hv, es, vw, gd⟩ := h
  exact PySem.W.callWith_K0 I.kIn hk (C.wp (us := []) cn I .nil ⟨rfl, ps, hv, [], vw, .nil, gd⟩)⟩
/-- a def of FnOk's kind -/
theorem can_ok {k : Nat} {fd : FuncData} {qs : List Str} (F : FnOk X.prog X.w X.K X.mg X.base (L2.CX X.prog X.w) k f fd qs (spV T n m)) (hr : Room k X.A) (hb : Binds X.K fd qs []) : Can T X f n m := fun pins s σ H us vs Q E I r h => by
  have hl : us.length = qs.length := by rw [← r.length]; exact F.len _ _ _ _ h
  have b := hb s us I.kIn (by simpa using hl)
  rw [List.append_nil] at b
  exact F.run X.A X.stack s H ⟨us, []⟩ us vs Q E hr I.env0 b r h
/-! ### built-ins -/
def RC (T : Tx) (r : List V → Hp → VK → Prop) (m : MFn) : Prop := ∀ ps h H ws vs (Q : VK) (E : XK), View T ps h H → Paired (WV ps) ws vs → Good T WV ps H (m ws h) Q E → r vs H Q
def mB (m : MFn) (g : Ws → Hv → Res (List W)) : Ws → Hv → Res W := fun r h => (g r h).bind m
theorem b_read {E : WX} {s : St} {H : Hp} {Q : VK} {r : List V → Hp → VK → Prop} (hr : RC T r m) (h : tE T E (mB m g) s H Q) : tCB r (tA T E g) s H Q := by
  obtain ⟨ps, r', hv, es, vw, gd⟩ := h
  refine ⟨ps, r', hv, es, vw, (Good.bind (R := WVs) (S := WV) gd).imp (fun v H1 q => ?_) fun _ _ _ z => z⟩
  obtain ⟨qs, w, h1, st, vw1, wv, g1⟩ := q
  exact hr qs h1 H1 w v Q _ vw1 wv g1
theorem se_b {id : String} {r : List V → Hp → VK → Prop} (hc : CallR X (.builtin id) r) (hr : RC T r m) (hg : Gl X x) (hm : X.mg x = none) (hv : bootBuiltins x = some (.builtin id)) (ha : SA T X (e :: es) g) (hn : x ≠ "__name__" := by decide) (hdb : (x == ("__debug__" : Str)) = false := by decide)
    (he : starEach (e :: es) X.env = (false, eval e X.env) :: starEach es X.env := by rfl) (hpl : (backTo pos (starEach es X.env)).any (·.1) = false := by rfl) : SE T X (.Call (.Name x p) (e :: es) [] pos) (mB m g) := fun E cn => PEi (pe_callB hc hg hm hv (ha E cn) hn hdb he hpl) fun s H Q h => b_read hr h
theorem se_bt {id : String} {r : List V → Hp → VK → Prop} (hc : CallR X (.type id) r) (hr : RC T r m) (hg : Gl X x) (hm : X.mg x = none) (hv : bootBuiltins x = some (.type id)) (ha : SA T X (e :: es) g) (hn : x ≠ "__name__" := by decide) (hdb : (x == ("__debug__" : Str)) = false := by decide)
    (he : starEach (e :: es) X.env = (false, eval e X.env) :: starEach es X.env := by rfl) (hpl : (backTo pos (starEach es X.env)).any (·.1) = false := by rfl) : SE T X (.Call (.Name x p) (e :: es) [] pos) (mB m g) := fun E cn => PEi (pe_callTy hc hg hm hv (ha E cn) hn hdb he hpl) fun s H Q h => b_read hr h
theorem one_of {ps : List Addr} {w : W} {vs : List V} (h : Paired (WV ps) [w] vs) : ∃ v, vs = [v] ∧ WV ps w v := by
  cases h with
  | cons a b => cases b; exact ⟨_, rfl, a⟩
theorem pair_of {ps : List Addr} {w u : W} {vs : List V} (h : Paired (WV ps) [w, u] vs) : ∃ v v', vs = [v, v'] ∧ WV ps w v ∧ WV ps u v' := by
  cases h with
  | cons a b => cases b with
    | cons c d => cases d; exact ⟨_, _, rfl, a, c⟩
def mAbs : MFn := fun ws h => match ws with
  | [.int i] => .val (.int (if i < 0 then -i else i)) h
  | _ => .bad
theorem rc_abs : RC T (fun xs H Q => ∃ i, xs = [.int i] ∧ Q (.int (if i < 0 then -i else i)) H) mAbs := by
  intro ps h H ws vs Q E vw wv gd
  unfold mAbs at gd
  split at gd
  · obtain ⟨v, rfl, e⟩ := one_of wv
    cases e
    exact ⟨_, rfl, Good.now gd vw rfl⟩
  · exact gd.elim
def mMax : MFn := fun ws h => match ws with
  | [.int i, .int j] => .val (.int (if j > i then j else i)) h
  | _ => .bad
theorem rc_max : RC T (fun xs H Q => ∃ i j, xs = [.int i, .int j] ∧ Q (.int (if j > i then j else i)) H) mMax := by
  intro ps h H ws vs Q E vw wv gd
  unfold mMax at gd
  split at gd
  · obtain ⟨v, v', rfl, e, e'⟩ := pair_of wv
    cases e; cases e'
    exact ⟨_, _, rfl, Good.now gd vw rfl⟩
  · exact gd.elim
def mMin : MFn := fun ws h => match ws with
  | [.int i, .int j] => .val (.int (if j < i then j else i)) h
  | _ => .bad
theorem rc_min : RC T (fun xs H Q => ∃ i j, xs = [.int i, .int j] ∧ Q (.int (if j < i then j else i)) H) mMin := by
  intro ps h H ws vs Q E vw wv gd
  unfold mMin at gd
  split at gd
  · obtain ⟨v, v', rfl, e, e'⟩ := pair_of wv
    cases e; cases e'
    exact ⟨_, _, rfl, Good.now gd vw rfl⟩
  · exact gd.elim
def mInt : MFn := fun ws h => match ws with
  | [.int i] => .val (.int i) h
  | [.bl b] => .val (.int (if b then 1 else 0)) h
  | _ => .bad
theorem rc_int : RC T (fun xs H Q => (∃ i, xs = [.int i] ∧ Q (.int i) H) ∨ ∃ k, xs = [.bl k] ∧ Q (.int (if k then 1 else 0)) H) mInt := by
  intro ps h H ws vs Q E vw wv gd
  unfold mInt at gd
  split at gd
  · obtain ⟨v, rfl, e⟩ := one_of wv
    cases e
    exact .inl ⟨_, rfl, Good.now gd vw rfl⟩
  · obtain ⟨v, rfl, e⟩ := one_of wv
    cases e
    exact .inr ⟨_, rfl, Good.now gd vw rfl⟩
  · exact gd.elim
def mLen : MFn := fun ws h => match ws with
  | [.str z] => if z.length ≤ 100000 then .val (.int z.length) h else .bad
  | [.ref p] => match h[p]? with
    | some (.lst xs) => .val (.int xs.length) h
    | some (.rol xs) => .val (.int xs.length) h
    | some (.tup xs) => .val (.int xs.length) h
    | _ => .bad
  | _ => .bad
theorem rc_len : RC T (fun xs H Q => ∃ x n, xs = [x] ∧ LenV X.K x H n ∧ Q (.int n) H) mLen := by
  intro ps h H ws vs Q E vw wv gd
  unfold mLen at gd
  split at gd
  · split at gd
    · rename_i hl
      obtain ⟨v, rfl, e⟩ := one_of wv
      cases e
      exact ⟨_, _, rfl, ⟨sz_ok hl, rfl⟩, Good.now gd vw rfl⟩
    · exact gd.elim
  · obtain ⟨v, rfl, a, ea, rfl⟩ := one_of wv
    split at gd
    · rename_i xs e1
      obtain ⟨vs, r, eH⟩ := vw.ob _ a _ ea e1
      have l1 : xs.length = vs.length := r.length
      rw [l1] at gd
      exact ⟨_, vs.length, rfl, .inl ⟨vs, SqL.of eH, rfl⟩, Good.now gd vw rfl⟩
    · rename_i xs e1
      obtain ⟨vs, ob, r, eH⟩ := vw.ob _ a _ ea e1
      have l1 : xs.length = vs.length := r.length
      rw [l1] at gd
      exact ⟨_, vs.length, rfl, .inl ⟨vs, .inl (.inr ⟨ob, eH⟩), rfl⟩, Good.now gd vw rfl⟩
    · rename_i xs e1
      obtain ⟨vs, r, eH⟩ := vw.ob _ a _ ea e1
      have l1 : xs.length = vs.length := r.length
      rw [l1] at gd
      exact ⟨_, vs.length, rfl, .inr ⟨vs, SqT.of eH, rfl⟩, Good.now gd vw rfl⟩
    · exact gd.elim
  · exact gd.elim
/-- the built-in type of a value -/
def tyN (h : Hv) : W → Option String
  | .non => some "NoneType"
  | .bl _ => some "bool"
  | .int _ => some "int"
  | .str _ => some "str"
  | .ref p => match h[p]? with
    | some (O.lst _) => some "list"
    | some (.rol _) => some "list"
    | some (O.tup _) => some "tuple"
    | some (.dic _) => some "dict"
    | _ => none
  | _ => none
theorem tyN_ok {K : PySem.W.Frag} {ps : List Addr} {h : Hv} {H : Hp} (vw : View T ps h H) : ∀ {w : W} {v : V} {t : String}, tyN h w = some t → WV ps w v → TyX K H v (.type t)
  | .non, _, _, e, wv => by cases e; cases wv; exact .base .non
  | .bl _, _, _, e, wv => by cases e; cases wv; exact .base (.bl _)
  | .int _, _, _, e, wv => by cases e; cases wv; exact .base (.int _)
  | .str _, _, _, e, wv => by cases e; cases wv; exact .base (.str _)
  | .fix _, _, _, e, wv => by cases e
  | .ty _, _, _, e, wv => by cases e
  | .ref p, _, _, e, wv => by
    obtain ⟨a, ea, rfl⟩ := wv
    simp only [tyN] at e
    split at e
    · rename_i e1
      obtain ⟨vs, r, eH⟩ := vw.ob _ a _ ea e1
      cases e; exact .base (.lst eH)
    · rename_i e1
      obtain ⟨vs, ob, r, eH⟩ := vw.ob _ a _ ea e1
      cases e; exact .base (.frz eH)
    · rename_i e1
      obtain ⟨vs, r, eH⟩ := vw.ob _ a _ ea e1
      cases e; exact .base (.tup eH)
    · rename_i e1
      obtain ⟨vs, r, eH⟩ := vw.ob _ a _ ea e1
      cases e; exact .base (.dK eH)
    · cases e
def mIsi : MFn := fun ws h => match ws with
  | [w, .ty n] => match tyN h w with
    | some t => match kitB t n with
      | some b => .val (.bl b) h
      | none => .bad
    | none => .bad
  | _ => .bad
theorem rc_isi : RC T (rIsi X.K) mIsi := by
  intro ps h H ws vs Q E vw wv gd
  unfold mIsi at gd
  split at gd
  · obtain ⟨v, v', rfl, e, e'⟩ := pair_of wv
    cases e'
    split at gd
    · rename_i t et
      split at gd
      · rename_i b eb
        exact ⟨v, _, _, _, b, rfl, .ty _, tyN_ok vw et e, kit_ty eb, Good.now gd vw rfl⟩
      · exact gd.elim
    · exact gd.elim
  · exact gd.elim
/-! ### repr -/
def rRepr (K : PySem.W.Frag) : List V → Hp → VK → Prop := fun xs H Q => ∃ x d, xs = [x] ∧ Dp K H x d ∧ d.showable = true ∧ d.hasDict = false ∧ d.depth ≤ 60 ∧ d.shown.length ≤ sizeLine ∧ Q (.str d.shown) H
def mRepr : MFn := fun ws h => match ws with
  | [w] => match toD dF h w with
    | some d => if d.showable && !d.hasDict && decide (d.depth ≤ 60) && decide (d.shown.length ≤ 100000) then .val (.str d.shown) h else .bad
    | none => .bad
  | _ => .bad
theorem rc_repr : RC T (rRepr X.K) mRepr := by
  intro ps h H ws vs Q E vw wv gd
  unfold mRepr at gd
  split at gd
  · obtain ⟨v, rfl, e⟩ := one_of wv
    split at gd
    · rename_i d ed
      split at gd
      · rename_i hc
        simp only [Bool.and_eq_true, decide_eq_true_eq, Bool.not_eq_true'] at hc
        exact ⟨v, d, rfl, toD_ok vw _ _ _ _ ed e, hc.1.1.1, hc.1.1.2, hc.1.2, sz_ok hc.2, Good.now gd vw rfl⟩
      · exact gd.elim
    · exact gd.elim
  · exact gd.elim
theorem call_reprD (hg : X.A.guards = some []) (hu : X.A.units + 64 < cLine) : CallR X (.builtin "repr") (rRepr X.K) := by
  intro pins s σ H xs us Q I r h; obtain ⟨x, d, rfl, hd, hs, hn, hdp, hl, q⟩ := h
  obtain ⟨u, rfl, ru⟩ := vals1 r; cases hd with
  | non => cases ru; exact PySem.P.repr_of_none ⟨.str _, H, I.tok _, ⟨_, rfl⟩, q⟩
  | bl b =>
    cases ru
    refine PySem.P.repr_of_bool ⟨.str _, H, I.tok _, ⟨_, rfl⟩, ?_⟩
    exact q
  | int i =>
    obtain ⟨t, rfl⟩ := ru
    exact PySem.P.repr_of_int (by simpa [PyData.showable] using hs) ⟨.str _, H, I.tok _, ⟨_, rfl⟩, q⟩
  | str z => obtain ⟨t, rfl⟩ := ru; exact PySem.P.repr_of_str ⟨.str _, H, I.tok _, ⟨_, rfl⟩, q⟩
  | lst h1 h2 =>
    cases ru
    obtain ⟨as, rd⟩ := Dp.reads I _ _ _ (.lst h1 h2) rfl
    exact repr_of_reads' rd hs (PyData.noDict_hsm hn) hg (by omega) (fun _ _ e => e) (fun h' u tk hk => ⟨.str _, H, I.kept hk, ⟨_, rfl⟩, q⟩) hl
  | tup h1 h2 =>
    cases ru
    obtain ⟨as, rd⟩ := Dp.reads I _ _ _ (.tup h1 h2) rfl
    exact repr_of_reads' rd hs (PyData.noDict_hsm hn) hg (by omega) (fun _ _ e => e) (fun h' u tk hk => ⟨.str _, H, I.kept hk, ⟨_, rfl⟩, q⟩) hl
end
end VL
end
section
namespace VL
open PySem L2

/-! ### statements -/
abbrev MS := Ws → Hv → ResS
namespace Res
/-- a value, then a statement's end; r: the names as they stand -/
def andS {α : Type} (x : Res α) (r : Ws) (k : α → Hv → ResS) : ResS := match x with
  | .val a h => k a h
  | .exc c d h => .exc c d r h
  | .bad => .bad
end Res
section
variable {T : Tx} {X : Cx} {α β : Type} {R : List Addr → α → β → Prop} {ps : List Addr} {H : Hp} {x : Res α} {r : Ws} {k : α → Hv → ResS} {D : Ends} {E : WX} {s : St}
theorem good_andS (es : ES ps r s) (g : GoodS T ps H (x.andS r k) D E) : Good T R ps H x (fun v H1 => ∃ qs w h1, Step ps H qs H1 ∧ View T qs h1 H1 ∧ R qs w v ∧ ES qs r s ∧ GoodS T qs H1 (k w h1) D E) (fun c d H' => E c d s H') := by
  cases x with
  | val w h => exact fun qs H' v st vw rv => ⟨qs, w, h, st, vw, rv, es.mono st.pre, g.step st⟩
  | exc c d h => exact fun qs H' e st vw dv => g qs H' s e st vw (es.mono st.pre) dv
  | bad => exact g
end
def mExpr (f : Ws → Hv → Res W) : MS := fun r h => (f r h).andS r fun _ h1 => .nx r h1
def mRet (f : Ws → Hv → Res W) : MS := fun r h => (f r h).andS r fun w h1 => .rt w h1
def mSet (i : Nat) (f : Ws → Hv → Res W) : MS := fun r h => (f r h).andS r fun w h1 => .nx (r.set i (some w)) h1
def mIfS (t : Ws → Hv → Res Bool) (f g : MS) : MS := fun r h => (t r h).andS r fun b h1 => if b then f r h1 else g r h1
def mNext : MS := fun r h => .nx r h
def mSeq (f g : MS) : MS := fun r h => match f r h with
  | .nx r1 h1 => g r1 h1
  | x => x
section
variable {T : Tx} {X : Cx} {e : Expr} {f : Ws → Hv → Res W} {pos : Pos} {st : Stmt} {rest : List Stmt} {a b : MS} {t : Ws → Hv → Res Bool}
theorem ss_expr (h : SE T X e f) (hs : swapsWith e none pos.line X.env = pure false := by rfl) : SS T X (.Expr e pos) (mExpr f) := fun E cn => PSi (ps_expr (h E cn) hs) fun D s H ⟨ps, r, hv, es, vw, gd⟩ => by
  refine ⟨ps, r, hv, es, vw, (good_andS (R := WV) es gd).imp (fun v H1 q => ?_) fun _ _ _ z => z⟩
  obtain ⟨qs, w, h1, st, vw1, wv, es1, g1⟩ := q
  exact g1 qs H1 s (Step.refl _ _) vw1 es1
theorem ss_ret (h : SE T X e f) : SS T X (.Return (some e) pos) (mRet f) := fun E cn => PSi (ps_ret (h E cn)) fun D s H ⟨ps, r, hv, es, vw, gd⟩ => by
  refine ⟨ps, r, hv, es, vw, (good_andS (R := WV) es gd).imp (fun v H1 q => ?_) fun _ _ _ z => z⟩
  obtain ⟨qs, w, h1, st, vw1, wv, es1, g1⟩ := q
  exact g1 qs H1 v (Step.refl _ _) vw1 wv
theorem ss_retN : SS T X (.Return none pos) (fun _ h => .rt .non h) := fun E cn => PSi ps_retN fun D s H ⟨ps, r, hv, es, vw, gd⟩ => gd ps H .non (Step.refl _ _) vw rfl
theorem ss_pass : SS T X (.Pass pos) mNext := fun E cn => PSi ps_pass fun D s H ⟨ps, r, hv, es, vw, gd⟩ => gd ps H s (Step.refl _ _) vw es
theorem ss_break : SS T X (.Break pos) (fun r h => .bk r h) := fun E cn => PSi ps_break fun D s H ⟨ps, r, hv, es, vw, gd⟩ => gd ps H s (Step.refl _ _) vw es
theorem ss_cont : SS T X (.Continue pos) (fun r h => .ct r h) := fun E cn => PSi ps_continue fun D s H ⟨ps, r, hv, es, vw, gd⟩ => gd ps H s (Step.refl _ _) vw es
theorem ss_set (i : Nat) {x : Str} {pos' : Pos} (hN : X.N.Nodup) (h : SE T X e f) (hi : X.N[i]? = some x := by rfl) (hx : Loc X.env.scope x := by first | exact Or.inl rfl | exact Or.inr rfl) (hs : swapsWith e (some (.Name x pos')) pos.line X.env = pure false := by rfl)
    (hf : X.fn x = true ∨ X.env.scope.names.lookup x = some .local := by first | exact .inl rfl | exact .inr rfl) : SS T X (.Assign [.Name x pos'] e pos) (mSet i f) := fun E cn => PSi (ps_set hN hi hx (h E cn) hs hf) fun D s H ⟨ps, r, hv, es, vw, gd⟩ => by
  refine ⟨ps, r, hv, es, vw, (good_andS (R := WV) es gd).imp (fun v H1 q => ?_) fun _ _ _ z => z⟩
  obtain ⟨qs, w, h1, st, vw1, wv, es1, g1⟩ := q
  exact g1 qs H1 _ (Step.refl _ _) vw1 (es1.set i wv)
theorem sss_nil : SSs T X [] mNext := fun E cn => PSsi pss_nil fun D s H ⟨ps, r, hv, es, vw, gd⟩ => gd ps H s (Step.refl _ _) vw es
theorem seq_read {E : WX} {D : Ends} {s : St} {H : Hp} (h : tS T E (mSeq a b) D s H) : tSeq (tS T E a) (tS T E b) D s H := by
  obtain ⟨ps, r, hv, es, vw, gd⟩ := h
  refine ⟨ps, r, hv, es, vw, ?_⟩
  unfold mSeq at gd
  cases q : a r hv with
  | nx r1 h1 =>
    rw [q] at gd
    exact fun qs H' s' st vw' es' => ⟨qs, r1, h1, es', vw', GoodS.step gd st⟩
  | rt w h1 => rw [q] at gd; exact gd
  | bk w h1 => rw [q] at gd; exact gd
  | ct w h1 => rw [q] at gd; exact gd
  | exc c d w h1 => rw [q] at gd; exact gd
  | bad => rw [q] at gd; exact gd
theorem sss_cons (h1 : SS T X st a) (h2 : SSs T X rest b) : SSs T X (st :: rest) (mSeq a b) := fun E cn => PSsi (pss_cons (h1 E cn) (h2 E cn)) fun D s H h => seq_read h
theorem sss_one (h1 : SS T X st a) : SSs T X [st] a := fun E cn => pss_one (h1 E cn)
theorem ss_if {c : Expr} {sa sb : List Stmt} (hc : STt T X c t) (ha : SSs T X sa a) (hb : SSs T X sb b) : SS T X (.If c sa sb pos) (mIfS t a b) := fun E cn => PSi (ps_if (hc E cn) (ha E cn) (hb E cn)) fun D s H ⟨ps, r, hv, es, vw, gd⟩ => by
  refine ⟨ps, r, hv, es, vw, (good_andS (R := BEq2) es gd).imp (fun v H1 q => ?_) fun _ _ _ z => z⟩
  obtain ⟨qs, w, h1, st, vw1, wv, es1, g1⟩ := q
  cases wv
  cases v with
  | true => exact iteT ⟨qs, r, h1, es1, vw1, g1⟩
  | false => exact iteF ⟨qs, r, h1, es1, vw1, g1⟩
/-- a, b = x, y -/
def mPar (i j : Nat) (g : Ws → Hv → Res (List W)) : MS := fun r h => (g r h).andS r fun ws h1 => match ws with
  | [v, w] => .nx ((r.set i (some v)).set j (some w)) h1
  | _ => .bad
theorem ss_par (i j : Nat) {x y : Str} {ea eb : Expr} {g : Ws → Hv → Res (List W)} {px py pt : Pos} {kt k2 pt2} (hN : X.N.Nodup) (ha : SA T X [ea, eb] g) (hc : X.calm = true := by rfl) (hi : X.N[i]? = some x := by rfl) (hj : X.N[j]? = some y := by rfl) (hij : i ≠ j := by decide)
    (hx : X.env.scope.names.lookup x = some .local := by rfl) (hy : X.env.scope.names.lookup y = some .local := by rfl)
    (hw : swappedStores [.Tuple [.Name x px, .Name y py] kt pt] (.Tuple [ea, eb] k2 pt2) X.env = pure (some [x, y]) := by rfl)
    (hs : swapsWithSole [.Tuple [.Name x px, .Name y py] kt pt] (.Tuple [ea, eb] k2 pt2) pos.line X.env = pure false := by rfl) :
    SS T X (.Assign [.Tuple [.Name x px, .Name y py] kt pt] (.Tuple [ea, eb] k2 pt2) pos) (mPar i j g) := fun E cn => PSi (ps_par hc hN hi hj hij hx hy (ha E cn) hw hs) fun D s H ⟨ps, r, hv, es, vw, gd⟩ => by
  refine ⟨ps, r, hv, es, vw, (good_andS (R := WVs) es gd).imp (fun v H1 q => ?_) fun _ _ _ z => z⟩
  obtain ⟨qs, w, h1, st, vw1, wv, es1, g1⟩ := q
  try dsimp only at g1
  split at g1
  · obtain ⟨v1, v2, rfl, w1, w2⟩ := pair_of wv
    exact ⟨v1, v2, rfl, g1 qs H1 _ (Step.refl _ _) vw1 ((es1.set i w1).set j w2)⟩
  · exact g1.elim

/-! ### while -/
def whileM (t : Ws → Hv → Res Bool) (b : MS) : Nat → MS
  | 0, _, _ => .bad
  | n + 1, r, h => (t r h).andS r fun c h1 => if c then (match b r h1 with
      | .nx r1 h2 => whileM t b n r1 h2
      | .ct r1 h2 => whileM t b n r1 h2
      | .bk r1 h2 => .nx r1 h2
      | x => x) else .nx r h1
def mWhile (fuel : Ws → Hv → Nat) (t : Ws → Hv → Res Bool) (b : MS) : MS := fun r h => whileM t b (fuel r h) r h
theorem ss_while (fuel : Ws → Hv → Nat) {c : Expr} {body : List Stmt} (hc : STt T X c t) (hb : SSs T X body b) : SS T X (.While c body [] pos) (mWhile fuel t b) := fun E cn => PSi (ps_while cn.po (hc E cn) (hb E cn)) fun D s H ⟨ps, r, hv, es, vw, gd⟩ => by
  refine ⟨fun m s H => ∃ ps r h, ES ps r s ∧ View T ps h H ∧ GoodS T ps H (whileM t b m r h) D E, ⟨fuel r hv, ps, r, hv, es, vw, gd⟩, ?_⟩
  rintro m s H ⟨ps, r, h, es, vw, gd⟩
  cases m with
  | zero => exact gd.elim
  | succ m =>
    refine ⟨ps, r, h, es, vw, (good_andS (R := BEq2) es (by unfold whileM at gd; exact gd)).imp (fun v H1 q => ?_) fun _ _ _ z => z⟩
    obtain ⟨qs, w, h1, st, vw1, wv, es1, g1⟩ := q
    cases wv
    cases v with
    | false => exact iteF (g1 qs H1 s (Step.refl _ _) vw1 es1)
    | true =>
      refine iteT ⟨fun s' H' => ∃ ps r h, ES ps r s' ∧ View T ps h H' ∧ GoodS T ps H' (whileM t b m r h) D E, fun s' H' q => ⟨m, Nat.lt_succ_self m, q⟩, qs, r, h1, es1, vw1, ?_⟩
      try dsimp only at g1
      rw [if_pos rfl] at g1
      cases q : b r h1 with
      | nx r1 h2 =>
        rw [q] at g1
        exact fun rs H' s' st' vw' es' => ⟨rs, r1, h2, es', vw', GoodS.step g1 st'⟩
      | ct r1 h2 =>
        rw [q] at g1
        exact fun rs H' s' st' vw' es' => ⟨rs, r1, h2, es', vw', GoodS.step g1 st'⟩
      | bk r1 h2 => rw [q] at g1; exact g1
      | rt w h2 => rw [q] at g1; exact g1
      | exc c d w h2 => rw [q] at g1; exact g1
      | bad => rw [q] at g1; exact g1
end

/-! ### targets -/
abbrev MG := W → Ws → Hv → ResS
def tG (T : Tx) (E : WX) (g : MG) : TG := fun v s H Q => ∃ ps r h w, ES ps r s ∧ View T ps h H ∧ WV ps w v ∧ GoodS T ps H (g w r h) { nx := Q, rt := fun _ _ => False } E
def tGs (T : Tx) (E : WX) (g : List W → MS) : TGs := fun vs s H Q => ∃ ps r h ws, ES ps r s ∧ View T ps h H ∧ Paired (WV ps) ws vs ∧ GoodS T ps H (g ws r h) { nx := Q, rt := fun _ _ => False } E
def SG (T : Tx) (X : Cx) (e : Expr) (g : MG) : Prop := ∀ E, Cn X E → PG X e (tG T E g)
def SGs (T : Tx) (X : Cx) (es : List Expr) (g : List W → MS) : Prop := ∀ E, Cn X E → PGs X es (tGs T E g)
def mGn (i : Nat) : MG := fun w r h => .nx (r.set i (some w)) h
def mGnil : List W → MS := fun ws r h => match ws with
  | [] => .nx r h
  | _ => .bad
def mGcons (g : MG) (k : List W → MS) : List W → MS := fun ws r h => match ws with
  | w :: ws => mSeq (g w) (k ws) r h
  | [] => .bad
def mGtup (n : Nat) (k : List W → MS) : MG := fun w r h => match w with
  | .ref p => match h[p]? with
    | some (.tup ws) => if ws.length = n then k ws r h else .bad
    | _ => .bad
  | _ => .bad
section
variable {T : Tx} {X : Cx} {e : Expr} {es : List Expr} {g : MG} {k : List W → MS} {pos : Pos}
theorem PGi {t t' : TG} (h : PG X e t) (k : ∀ v s H Q, t' v s H Q → t v s H Q) : PG X e t' := ⟨fun pins s σ H v u Q I r hw => h.run pins s σ H v u Q I r (k _ _ _ _ hw)⟩
theorem PGsi {t t' : TGs} (h : PGs X es t) (k : ∀ v s H Q, t' v s H Q → t v s H Q) : PGs X es t' := ⟨fun pins s σ H v u Q I r hw => h.run pins s σ H v u Q I r (k _ _ _ _ hw)⟩
theorem sg_name (i : Nat) {x : Str} (hN : X.N.Nodup) (hi : X.N[i]? = some x := by rfl) (hx : Loc X.env.scope x := by first | exact Or.inl rfl | exact Or.inr rfl) (hf : X.fn x = true ∨ X.env.scope.names.lookup x = some .local := by first | exact .inl rfl | exact .inr rfl) :
    SG T X (.Name x pos) (mGn i) := fun E cn => PGi (pg_name hN hi hx hf) fun v s H Q ⟨ps, r, h, w, es, vw, wv, gd⟩ => gd ps H _ (Step.refl _ _) vw (es.set i wv)
theorem sgs_nil : SGs T X [] mGnil := fun E cn => PGsi pgs_nil fun v s H Q ⟨ps, r, h, ws, es, vw, wv, gd⟩ => by
  unfold mGnil at gd
  split at gd
  · cases wv
    exact ⟨rfl, gd ps H _ (Step.refl _ _) vw es⟩
  · exact gd.elim
theorem sgs_cons (h1 : SG T X e g) (h2 : SGs T X es k) (hs : (assignEach (e :: es) X.env).map (·.2) = assign e X.env :: (assignEach es X.env).map (·.2) := by rfl) : SGs T X (e :: es) (mGcons g k) := fun E cn => PGsi (pgs_cons (h1 E cn) (h2 E cn) hs) fun v s H Q ⟨ps, r, h, ws, es, vw, wv, gd⟩ => by
  cases wv with
  | nil => exact gd.elim
  | cons wv1 wv2 =>
    refine ⟨_, _, rfl, ps, r, h, _, es, vw, wv1, ?_⟩
    unfold mGcons at gd
    dsimp only at gd
    unfold mSeq at gd
    split at gd
    · rename_i r1 h1 q
      rw [q]
      exact fun qs H' s' st vw' es' => ⟨qs, r1, h1, _, es', vw', WVs.mono st.pre wv2, GoodS.step gd st⟩
    · rename_i x q
      cases z : g _ r h with
      | nx r1 h1 => exact absurd z (q r1 h1)
      | rt w h1 => rw [z] at gd; exact gd
      | bk w h1 => rw [z] at gd; exact gd
      | ct w h1 => rw [z] at gd; exact gd
      | exc c d w h1 => rw [z] at gd; exact gd
      | bad => rw [z] at gd; exact gd
theorem sg_tup {kk n : Nat} (h : SGs T X es k) (hc : X.calm = true := by rfl) (hn : (assignEach es X.env).length = n := by rfl) (hst : (assignEach es X.env).findIdx? (·.1) = none := by rfl) : SG T X (.Tuple es kk pos) (mGtup n k) := fun E cn =>
  PGi (pg_tup hc (h E cn) hn hst) fun v s H Q ⟨ps, r, h, w, es, vw, wv, gd⟩ => by
    unfold mGtup at gd
    split at gd
    · rename_i p
      obtain ⟨a, ea, rfl⟩ := wv
      split at gd
      · rename_i ws e1
        split at gd
        · rename_i hl
          obtain ⟨vs, rr, eH⟩ := vw.ob _ a _ ea e1
          have l1 : ws.length = vs.length := rr.length
          exact ⟨a, vs, rfl, SqT.of eH, by rw [← l1]; exact hl, ps, r, h, ws, es, vw, rr, gd⟩
        · exact gd.elim
      · exact gd.elim
    · exact gd.elim
/-- target = e -/
def mAsg (f : Ws → Hv → Res W) (g : MG) : MS := fun r h => (f r h).andS r fun w h1 => (match g w r h1 with
  | .nx r1 h2 => .nx r1 h2
  | .exc c d r1 h2 => .exc c d r1 h2
  | _ => .bad)
theorem ss_asg {tg : Expr} {f : Ws → Hv → Res W} (he : SE T X e f) (hg : SG T X tg g) (hs : swapsWithSole [tg] e pos.line X.env = pure false := by rfl) (hw : swappedStores [tg] e X.env = pure none := by rfl)
    (h1 : (assignEach [tg] X.env).map (·.2) = [assign tg X.env] := by rfl) : SS T X (.Assign [tg] e pos) (mAsg f g) := fun E cn => PSi (ps_asg (he E cn) (hg E cn) hs hw h1) fun D s H ⟨ps, r, hv, es, vw, gd⟩ => by
  refine ⟨ps, r, hv, es, vw, (good_andS (R := WV) es gd).imp (fun v H1 q => ?_) fun _ _ _ z => z⟩
  obtain ⟨qs, w, h1, st, vw1, wv, es1, g1⟩ := q
  refine ⟨qs, r, h1, w, es1, vw1, wv, ?_⟩
  cases z : g w r h1 with
  | nx r1 h2 => rw [z] at g1; exact g1
  | rt w h2 => rw [z] at g1; exact g1.elim
  | bk w h2 => rw [z] at g1; exact g1.elim
  | ct w h2 => rw [z] at g1; exact g1.elim
  | exc c d w h2 => rw [z] at g1; exact g1
  | bad => rw [z] at g1; exact g1.elim
/-- xs[i] = e -/
def mSub1 (fo fi : Ws → Hv → Res W) : MG := fun w r h => (fo r h).andS r fun o h1 => (fi r h1).andS r fun i h2 => match o, i with
  | .ref p, .int k => match h2[p]? with
    | some (.lst xs) => match ixN xs.length k with
      | some j => .nx r (h2.set p (.lst (xs.set j w)))
      | none => .bad
    | _ => .bad
  | _, _ => .bad
theorem sg_sub {o i : Expr} {fo fi : Ws → Hv → Res W} (ho : SE T X o fo) (hi : SE T X i fi)
    (ha : ∀ y, assign (.Subscript o i pos) X.env y = (do
      let yo ← holding [y] (eval o X.env)
      let yi ← holding [y, yo] (eval i X.env)
      standAt pos
      holding [y, yo, yi] (setItem yo yi y)
      release [y, yo, yi] []) := by intro _; rfl) : SG T X (.Subscript o i pos) (mSub1 fo fi) := fun E cn => PGi (pg_sub (ho E cn) (hi E cn) set_list ha) fun v s H Q ⟨ps, r, h, w, es, vw, wv, gd⟩ => by
  refine ⟨ps, r, h, es, vw, (good_andS (R := WV) es gd).imp (fun vo H1 q => ?_) fun _ _ _ z => z⟩
  obtain ⟨qs, wo, h1, st, vw1, wvo, es1, g1⟩ := q
  refine ⟨qs, r, h1, es1, vw1, (good_andS (R := WV) es1 g1).imp (fun vi H2 q2 => ?_) fun _ _ _ z => z⟩
  obtain ⟨rs, wi, h2, st2, vw2, wvi, es2, g2⟩ := q2
  try dsimp only at g2
  have wvo2 := wvo.mono st2.pre
  split at g2
  · rename_i p k
    obtain ⟨a, ea, rfl⟩ := wvo2
    cases wvi
    split at g2
    · rename_i xs e1
      split at g2
      · rename_i j ej
        obtain ⟨vs, rr, eH⟩ := vw2.ob _ a _ ea e1
        have l1 : xs.length = vs.length := rr.length
        have pz : Paired (WV rs) (xs.set j w) (vs.set j v) := paired_set rr ((wv.mono st.pre).mono st2.pre) j
        obtain ⟨vw3, st3⟩ := vw2.put ea (o := .lst (xs.set j w)) (u := .lst (vs.set j v)) ⟨_, pz, upd_same⟩ (notX eH)
        exact ⟨a, vs, k, j, rfl, rfl, eH, by rw [← l1]; exact ej, g2 _ _ s st3 vw3 es2⟩
      · exact g2.elim
    · exact g2.elim
  · exact g2.elim
end
end VL
end
section
namespace VL
open PySem L2

/-! ### what is walked -/
inductive Nxt where
  | stop | item (w : W) (h : Hv) | bad
structure Src where
  n : Nat
  nx : Nat → Hv → Nxt
def NxOk (T : Tx) (qs : List Addr) (H : Hp) (J : It) (i : Nat) : Nxt → Prop
  | .stop => J.stop i H
  | .item w h => J.go i H ∧ ∀ x H', J.yld i H x H' → ∃ rs, Step qs H rs H' ∧ View T rs h H' ∧ WV rs w x
  | .bad => True
/-- the source S is the iterator J, wherever the places ps stand -/
def SimI (T : Tx) (ps : List Addr) (S : Src) (J : It) : Prop := ∀ qs h H i, ps <+: qs → View T qs h H → NxOk T qs H J i (S.nx i h)
theorem SimI.mono {T : Tx} {ps qs : List Addr} {S : Src} {J : It} (s : SimI T ps S J) (h : ps <+: qs) : SimI T qs S J := fun rs hv H i p => s rs hv H i (h.trans p)
def tI (T : Tx) (E : WX) (f : Ws → Hv → Res Src) : TI := fun s H R => ∃ ps r h, ES ps r s ∧ View T ps h H ∧ Good T (SimI T) ps H (f r h) R (fun c d H' => E c d s H')
def SI (T : Tx) (X : Cx) (tg iter : Expr) (f : Ws → Hv → Res Src) : Prop := ∀ E, Cn X E → PI X tg iter (tI T E f)

def forM (nx : Nat → Hv → Nxt) (g : MG) (b : MS) : Nat → Nat → MS
  | 0, _, _, _ => .bad
  | n + 1, i, r, h => match nx i h with
    | .stop => .nx r h
    | .item w h1 => (match g w r h1 with
      | .nx r1 h2 => (match b r1 h2 with
        | .nx r2 h3 => forM nx g b n (i + 1) r2 h3
        | .ct r2 h3 => forM nx g b n (i + 1) r2 h3
        | .bk r2 h3 => .nx r2 h3
        | x => x)
      | .exc c d r1 h2 => .exc c d r1 h2
      | _ => .bad)
    | .bad => .bad
def mFor (f : Ws → Hv → Res Src) (g : MG) (b : MS) : MS := fun r h => (f r h).andS r fun S h1 => forM S.nx g b S.n 0 r h1
section
variable {T : Tx} {X : Cx} {tg iter : Expr} {f : Ws → Hv → Res Src} {g : MG} {b : MS} {pos : Pos}
theorem for_run {D : Ends} {E : WX} {S : Src} {J : It} {p0 : List Addr} (sim : SimI T p0 S J) {ps : List Addr} {r : Ws} {h : Hv} {s : St} {H : Hp} (hp : p0 <+: ps) (es : ES ps r s) (vw : View T ps h H) (gd : GoodS T ps H (forM S.nx g b S.n 0 r h) D E) :
    ∃ Z : Nat → Nat → St → Hp → Prop, (∃ m, Z 0 m s H) ∧ ∀ i m s H, Z i m s H → (J.stop i H ∧ D.nx s H) ∨ (J.go i H ∧ ∃ N : St → Hp → Prop, (∀ s' H', N s' H' → ∃ m', m' < m ∧ Z (i + 1) m' s' H') ∧
      ∀ x H', J.yld i H x H' → tG T E g x s H' fun s2 H2 => tS T E b { D with nx := N, ct := N, bk := D.nx } s2 H2) := by
  refine ⟨fun i m s H => ∃ ps r h, p0 <+: ps ∧ ES ps r s ∧ View T ps h H ∧ GoodS T ps H (forM S.nx g b m i r h) D E, ⟨S.n, ps, r, h, hp, es, vw, gd⟩, ?_⟩
  rintro i m s H ⟨ps, r, h, hp, es, vw, gd⟩
  cases m with
  | zero => exact gd.elim
  | succ m =>
    have ok := sim ps h H i hp vw
    unfold forM at gd
    cases q : S.nx i h with
    | stop =>
      rw [q] at gd ok
      exact .inl ⟨ok, gd ps H s (Step.refl _ _) vw es⟩
    | bad => rw [q] at gd; exact gd.elim
    | item w h1 =>
      rw [q] at gd ok
      refine .inr ⟨ok.1, fun s' H' => ∃ ps r h, p0 <+: ps ∧ ES ps r s' ∧ View T ps h H' ∧ GoodS T ps H' (forM S.nx g b m (i + 1) r h) D E, fun s' H' z => ⟨m, Nat.lt_succ_self m, z⟩, fun x H' y => ?_⟩
      obtain ⟨qs, st, vw1, wv⟩ := ok.2 x H' y
      refine ⟨qs, r, h1, w, es.mono st.pre, vw1, wv, ?_⟩
      have gd := gd.step st
      dsimp only at gd
      cases z : g w r h1 with
      | rt _ _ => rw [z] at gd; exact gd.elim
      | bk _ _ => rw [z] at gd; exact gd.elim
      | ct _ _ => rw [z] at gd; exact gd.elim
      | bad => rw [z] at gd; exact gd.elim
      | exc c d r1 h2 => rw [z] at gd; exact gd
      | nx r1 h2 =>
        rw [z] at gd
        intro rs H2 s2 st2 vw2 es2
        refine ⟨rs, r1, h2, es2, vw2, ?_⟩
        have gd := gd.step st2
        dsimp only at gd
        have pp : p0 <+: rs := (hp.trans st.pre).trans st2.pre
        cases y2 : b r1 h2 with
        | nx r2 h3 =>
          rw [y2] at gd
          exact fun ts H3 s3 st3 vw3 es3 => ⟨ts, r2, h3, pp.trans st3.pre, es3, vw3, GoodS.step gd st3⟩
        | ct r2 h3 =>
          rw [y2] at gd
          exact fun ts H3 s3 st3 vw3 es3 => ⟨ts, r2, h3, pp.trans st3.pre, es3, vw3, GoodS.step gd st3⟩
        | bk r2 h3 => rw [y2] at gd; exact gd
        | rt r2 h3 => rw [y2] at gd; exact gd
        | exc c d r2 h3 => rw [y2] at gd; exact gd
        | bad => rw [y2] at gd; exact gd
theorem ss_for {body : List Stmt} (hi : SI T X tg iter f) (hg : SG T X tg g) (hb : SSs T X body b) (hc : X.calm = true := by rfl) (hs : ∀ x, foldedSetIterable iter X.env x = pure x := by intro _; rfl) : SS T X (.For tg iter body [] pos) (mFor f g b) := fun E cn =>
  PSi (ps_for cn.po hc (hi E cn) (hg E cn) (hb E cn) hs) fun D s H ⟨ps, r, hv, es, vw, gd⟩ => by
    refine ⟨ps, r, hv, es, vw, (good_andS (R := SimI T) es gd).imp (fun J H1 q => ?_) fun _ _ _ z => z⟩
    obtain ⟨qs, S, h1, st, vw1, sim, es1, g1⟩ := q
    exact for_run sim (List.prefix_refl _) es1 vw1 g1

/-! ### lists and tuples -/
def nxSeq (p : Nat) : Nat → Hv → Nxt := fun i h => match h[p]? with
  | some (.lst xs) => (match xs[i]? with | some w => .item w h | none => .stop)
  | some (.rol xs) => (match xs[i]? with | some w => .item w h | none => .stop)
  | _ => .bad
def nxTup (p : Nat) : Nat → Hv → Nxt := fun i h => match h[p]? with
  | some (.tup xs) => (match xs[i]? with | some w => .item w h | none => .stop)
  | _ => .bad
def srcOf (w : W) (h : Hv) : Res Src := match w with
  | .ref p => (match h[p]? with
    | some (.lst xs) => .val ⟨xs.length + 1, nxSeq p⟩ h
    | some (.rol xs) => .val ⟨xs.length + 1, nxSeq p⟩ h
    | some (.tup xs) => .val ⟨xs.length + 1, nxTup p⟩ h
    | _ => .bad)
  | _ => .bad
def mSrc (f : Ws → Hv → Res W) : Ws → Hv → Res Src := fun r h => (f r h).bind srcOf
theorem paired_none {ps : List Addr} {xs : List W} {vs : List V} (a : Paired (WV ps) xs vs) {i : Nat} (e : xs[i]? = none) : vs.length ≤ i := by
  rw [← a.length]
  exact List.getElem?_eq_none_iff.mp e
theorem sim_list {K : PySem.W.Frag} {ps : List Addr} {p n : Nat} {a : Addr} (ea : ps[p]? = some a) : SimI T ps ⟨n, nxSeq p⟩ (Itl K a) := by
  intro qs h H i pre vw
  have eq := at_pre pre ea
  show NxOk T qs H (Itl K a) i (nxSeq p i h)
  unfold nxSeq
  split
  · rename_i xs e1
    obtain ⟨vs, rr, eH⟩ := vw.ob _ a _ eq e1
    split
    · rename_i w ew
      obtain ⟨v, ev, wv⟩ := paired_get rr ew
      refine ⟨⟨vs, v, SqL.of eH, ev⟩, fun x H' y => ?_⟩
      obtain ⟨rfl, y⟩ := y
      have z := y vs (SqL.of eH)
      rw [ev] at z
      cases z
      exact ⟨qs, Step.refl _ _, vw, wv⟩
    · rename_i ew
      exact ⟨vs, SqL.of eH, paired_none rr ew⟩
  · rename_i xs e1
    obtain ⟨vs, ob, rr, eH⟩ := vw.ob _ a _ eq e1
    split
    · rename_i w ew
      obtain ⟨v, ev, wv⟩ := paired_get rr ew
      refine ⟨⟨vs, v, .inl (.inr ⟨ob, eH⟩), ev⟩, fun x H' y => ?_⟩
      obtain ⟨rfl, y⟩ := y
      have z := y vs (.inl (.inr ⟨ob, eH⟩))
      rw [ev] at z
      cases z
      exact ⟨qs, Step.refl _ _, vw, wv⟩
    · rename_i ew
      exact ⟨vs, .inl (.inr ⟨ob, eH⟩), paired_none rr ew⟩
  · trivial
theorem sim_tup {K : PySem.W.Frag} {ps : List Addr} {p n : Nat} {a : Addr} (ea : ps[p]? = some a) : SimI T ps ⟨n, nxTup p⟩ (Itt K a) := by
  intro qs h H i pre vw
  have eq := at_pre pre ea
  show NxOk T qs H (Itt K a) i (nxTup p i h)
  unfold nxTup
  split
  · rename_i xs e1
    obtain ⟨vs, rr, eH⟩ := vw.ob _ a _ eq e1
    split
    · rename_i w ew
      obtain ⟨v, ev, wv⟩ := paired_get rr ew
      refine ⟨⟨vs, v, SqT.of eH, ev⟩, fun x H' y => ?_⟩
      obtain ⟨rfl, y⟩ := y
      have z := y vs (SqT.of eH)
      rw [ev] at z
      cases z
      exact ⟨qs, Step.refl _ _, vw, wv⟩
    · rename_i ew
      exact ⟨vs, SqT.of eH, paired_none rr ew⟩
  · trivial
/-- for x in e: a list or a tuple -/
theorem si_seq {e : Expr} {fe : Ws → Hv → Res W} (he : SE T X e fe) : SI T X tg e (mSrc fe) := fun E cn => ⟨fun pins s σ H R I h => by
  obtain ⟨ps, r, hv, es, vw, gd⟩ := h
  have key : (iList X.K (tE T E fe) σ H R) ∨ (iTup X.K (tE T E fe) σ H R) := by
    unfold mSrc at gd
    cases q : fe r hv with
    | bad => rw [q] at gd; exact gd.elim
    | exc c d h1 =>
      rw [q] at gd
      exact .inl ⟨ps, r, hv, es, vw, by rw [q]; exact gd⟩
    | val w h1 =>
      rw [q] at gd
      have g1 : Good T (SimI T) ps H (srcOf w h1) R _ := gd
      unfold srcOf at g1
      split at g1
      · rename_i p
        split at g1
        · rename_i xs e1
          refine .inl ⟨ps, r, hv, es, vw, ?_⟩
          rw [q]
          intro qs H' v st vw' wv
          obtain ⟨a, ea, rfl⟩ := wv
          obtain ⟨vs, rr, eH⟩ := vw'.ob _ a _ ea e1
          exact ⟨a, rfl, ⟨vs, SqL.of eH⟩, g1 qs H' _ st vw' (sim_list ea)⟩
        · rename_i xs e1
          refine .inl ⟨ps, r, hv, es, vw, ?_⟩
          rw [q]
          intro qs H' v st vw' wv
          obtain ⟨a, ea, rfl⟩ := wv
          obtain ⟨vs, ob, rr, eH⟩ := vw'.ob _ a _ ea e1
          exact ⟨a, rfl, ⟨vs, .inl (.inr ⟨ob, eH⟩)⟩, g1 qs H' _ st vw' (sim_list ea)⟩
        · rename_i xs e1
          refine .inr ⟨ps, r, hv, es, vw, ?_⟩
          rw [q]
          intro qs H' v st vw' wv
          obtain ⟨a, ea, rfl⟩ := wv
          obtain ⟨vs, rr, eH⟩ := vw'.ob _ a _ ea e1
          exact ⟨a, rfl, ⟨vs, SqT.of eH⟩, g1 qs H' _ st vw' (sim_tup ea)⟩
        · exact g1.elim
      · exact g1.elim
  rcases key with k | k
  · exact (pi_list (he E cn)).run pins s σ H R I k
  · exact (pi_tup (he E cn)).run pins s σ H R I k⟩
/-! ### range -/
def nxR (lo : Int) (n : Nat) : Nat → Hv → Nxt := fun i h => if i < n then .item (.int (lo + i)) h else .stop
theorem sim_range {ps : List Addr} {lo : Int} {n m : Nat} : SimI T ps ⟨m, nxR lo n⟩ (Itr lo n) := by
  intro qs h H i pre vw
  show NxOk T qs H (Itr lo n) i (nxR lo n i h)
  unfold nxR
  split
  · rename_i hi
    refine ⟨hi, fun x H' y => ?_⟩
    obtain ⟨rfl, rfl⟩ := y
    exact ⟨qs, Step.refl _ _, vw, rfl⟩
  · rename_i hi
    exact Nat.le_of_not_lt hi
def rgB (i : Int) : Bool := decide (-4611686018427387904 ≤ i) && decide (i < 4611686018427387904)
def srcR (ws : List W) (h : Hv) : Res Src := match ws with
  | [.int j] => if rgB j then .val ⟨j.toNat + 1, nxR 0 j.toNat⟩ h else .bad
  | [.int i, .int j] => if rgB i && rgB j then .val ⟨(j - i).toNat + 1, nxR i (j - i).toNat⟩ h else .bad
  | _ => .bad
def mRng (g : Ws → Hv → Res (List W)) : Ws → Hv → Res Src := fun r h => (g r h).bind srcR
theorem rgB_ok {i : Int} (h : rgB i = true) : -(2 ^ 62) ≤ i ∧ i < 2 ^ 62 := by
  unfold rgB at h
  rw [Bool.and_eq_true] at h
  have e : (2 : Int) ^ 62 = 4611686018427387904 := by decide
  rw [e]
  exact ⟨of_decide_eq_true h.1, of_decide_eq_true h.2⟩
theorem si_range1 {a : Expr} {fa : Ws → Hv → Res (List W)} {p pos : Pos} (hg : Gl X "range") (hm : X.mg "range" = none) (ha : SA T X [a] fa) (hl : ∀ r h ws h', fa r h = .val ws h' → ws.length = 1) (hs : starEach [a] X.env = [(false, eval a X.env)] := by rfl) :
    SI T X tg (.Call (.Name "range" p) [a] [] pos) (mRng fa) := fun E cn => ⟨fun pins s σ H R I h => (pi_range1 hg hm (ha E cn) hs).run pins s σ H R I (by
  obtain ⟨ps, r, hv, es, vw, gd⟩ := h
  refine ⟨ps, r, hv, es, vw, ?_⟩
  cases q : fa r hv with
  | bad => unfold mRng at gd; rw [q] at gd; exact gd.elim
  | exc c d h1 => unfold mRng at gd; rw [q] at gd; exact gd
  | val ws h1 =>
    unfold mRng at gd
    rw [q] at gd
    have g1 : Good T (SimI T) ps H (srcR ws h1) R _ := gd
    have hw := hl r hv ws h1 q
    intro qs H' vs st vw' wv
    unfold srcR at g1
    split at g1
    · split at g1
      · rename_i j hj
        obtain ⟨v, rfl, e⟩ := one_of wv
        cases e
        obtain ⟨b1, b2⟩ := rgB_ok hj
        exact ⟨j, rfl, b1, b2, g1 qs H' _ st vw' sim_range⟩
      · exact g1.elim
    · simp at hw
    · exact g1.elim)⟩
theorem si_range2 {a b : Expr} {fa : Ws → Hv → Res (List W)} {p pos : Pos} (hg : Gl X "range") (hm : X.mg "range" = none) (ha : SA T X [a, b] fa) (hl : ∀ r h ws h', fa r h = .val ws h' → ws.length = 2) (hs : starEach [a, b] X.env = [(false, eval a X.env), (false, eval b X.env)] := by rfl) (hs2 : starEach [b] X.env = [(false, eval b X.env)] := by rfl) :
    SI T X tg (.Call (.Name "range" p) [a, b] [] pos) (mRng fa) := fun E cn => ⟨fun pins s σ H R I h => (pi_range2 hg hm (ha E cn) hs hs2).run pins s σ H R I (by
  obtain ⟨ps, r, hv, es, vw, gd⟩ := h
  refine ⟨ps, r, hv, es, vw, ?_⟩
  cases q : fa r hv with
  | bad => unfold mRng at gd; rw [q] at gd; exact gd.elim
  | exc c d h1 => unfold mRng at gd; rw [q] at gd; exact gd
  | val ws h1 =>
    unfold mRng at gd
    rw [q] at gd
    have g1 : Good T (SimI T) ps H (srcR ws h1) R _ := gd
    have hw := hl r hv ws h1 q
    intro qs H' vs st vw' wv
    unfold srcR at g1
    split at g1
    · simp at hw
    · split at g1
      · rename_i i j hj
        rw [Bool.and_eq_true] at hj
        obtain ⟨v, v', rfl, e, e'⟩ := pair_of wv
        cases e; cases e'
        obtain ⟨b1, b2⟩ := rgB_ok hj.1
        obtain ⟨b3, b4⟩ := rgB_ok hj.2
        exact ⟨i, j, rfl, ⟨b1, b2, b3, b4⟩, g1 qs H' _ st vw' sim_range⟩
      · exact g1.elim
    · exact g1.elim)⟩
theorem len_cons {f : Ws → Hv → Res W} {g : Ws → Hv → Res (List W)} {n : Nat} (hg : ∀ r h ws h', g r h = .val ws h' → ws.length = n) : ∀ r h ws h', mCons f g r h = .val ws h' → ws.length = n + 1 := by
  intro r h ws h' e
  unfold mCons at e
  cases q : f r h with
  | bad => rw [q] at e; cases e
  | exc c d h1 => rw [q] at e; cases e
  | val w h1 =>
    rw [q] at e
    cases q2 : g r h1 with
    | bad => simp only [Res.bind, q2] at e; cases e
    | exc c d h1 => simp only [Res.bind, q2] at e; cases e
    | val us h2 =>
      simp only [Res.bind, q2] at e
      cases e
      simp [hg _ _ _ _ q2]
theorem len_nil : ∀ (r : Ws) (h : Hv) (ws : List W) (h' : Hv), mNil r h = .val ws h' → ws.length = 0 := fun r h ws h' e => by
  unfold mNil at e
  cases e
  rfl
/-! ### enumerate -/
def nxEnum (p : Nat) : Nat → Hv → Nxt := fun i h => match h[p]? with
  | some (.lst xs) => (match xs[i]? with | some w => .item (.ref h.length) (h ++ [.tup [.int i, w]]) | none => .stop)
  | some (.rol xs) => (match xs[i]? with | some w => .item (.ref h.length) (h ++ [.tup [.int i, w]]) | none => .stop)
  | _ => .bad
theorem sim_enum {K : PySem.W.Frag} {ps : List Addr} {p n : Nat} {a : Addr} (ea : ps[p]? = some a) : SimI T ps ⟨n, nxEnum p⟩ (Ite K a) := by
  intro qs h H i pre vw
  have eq := at_pre pre ea
  show NxOk T qs H (Ite K a) i (nxEnum p i h)
  unfold nxEnum
  have go : ∀ {vs : List V} {xs : List W}, Paired (WV qs) xs vs → SqL K H a vs → NxOk T qs H (Ite K a) i (match xs[i]? with | some w => .item (.ref h.length) (h ++ [.tup [.int i, w]]) | none => .stop) := by
    intro vs xs rr sq
    split
    · rename_i w ew
      obtain ⟨v, ev, wv⟩ := paired_get rr ew
      refine ⟨⟨vs, v, sq, ev⟩, fun x H' y => ?_⟩
      obtain ⟨q, x', rfl, hq, rfl, y⟩ := y
      have z := y vs sq
      rw [ev] at z
      cases z
      obtain ⟨v1, s1, e1⟩ := vw.alloc hq (o := .tup [.int i, w]) (u := .tup [.int (i : Nat), v]) ⟨_, .cons rfl (.cons wv .nil), upd_same⟩
      exact ⟨_, s1, v1, q, e1, rfl⟩
    · rename_i ew
      exact ⟨vs, sq, paired_none rr ew⟩
  split
  · rename_i xs e1
    obtain ⟨vs, rr, eH⟩ := vw.ob _ a _ eq e1
    exact go rr (SqL.of eH)
  · rename_i xs e1
    obtain ⟨vs, ob, rr, eH⟩ := vw.ob _ a _ eq e1
    exact go rr (.inl (.inr ⟨ob, eH⟩))
  · trivial
def srcE (ws : List W) (h : Hv) : Res Src := match ws with
  | [.ref p] => (match h[p]? with
    | some (.lst xs) => .val ⟨xs.length + 1, nxEnum p⟩ h
    | some (.rol xs) => .val ⟨xs.length + 1, nxEnum p⟩ h
    | _ => .bad)
  | _ => .bad
def mEnum (g : Ws → Hv → Res (List W)) : Ws → Hv → Res Src := fun r h => (g r h).bind srcE
theorem si_enum {e : Expr} {fa : Ws → Hv → Res (List W)} {p pos tpos : Pos} {elts : List Expr} {kk : Nat} (hg : Gl X "enumerate") (hm : X.mg "enumerate" = none) (ha : SA T X [e] fa) (hs : starEach [e] X.env = [(false, eval e X.env)] := by rfl) :
    SI T X (.Tuple elts kk tpos) (.Call (.Name "enumerate" p) [e] [] pos) (mEnum fa) := fun E cn => ⟨fun pins s σ H R I h => (pi_enum hg hm (ha E cn) hs).run pins s σ H R I (by
  obtain ⟨ps, r, hv, es, vw, gd⟩ := h
  refine ⟨ps, r, hv, es, vw, ?_⟩
  cases q : fa r hv with
  | bad => unfold mEnum at gd; rw [q] at gd; exact gd.elim
  | exc c d h1 => unfold mEnum at gd; rw [q] at gd; exact gd
  | val ws h1 =>
    unfold mEnum at gd
    rw [q] at gd
    have g1 : Good T (SimI T) ps H (srcE ws h1) R _ := gd
    intro qs H' vs st vw' wv
    unfold srcE at g1
    split at g1
    · obtain ⟨v, rfl, a, ea, rfl⟩ := one_of wv
      split at g1
      · rename_i xs e1
        obtain ⟨vs, rr, eH⟩ := vw'.ob _ a _ ea e1
        exact ⟨a, vs, rfl, SqL.of eH, g1 qs H' _ st vw' (sim_enum ea)⟩
      · rename_i xs e1
        obtain ⟨vs, ob, rr, eH⟩ := vw'.ob _ a _ ea e1
        exact ⟨a, vs, rfl, .inl (.inr ⟨ob, eH⟩), g1 qs H' _ st vw' (sim_enum ea)⟩
      · exact g1.elim
    · exact g1.elim)⟩
end
end VL
end
section
namespace VL
open PySem L2

/-! ### comprehensions: one name, at most one if -/
def noX {α : Type} : Res α → Res α
  | .exc _ _ _ => .bad
  | x => x
theorem good_noX {α β γ δ : Type} {T : Tx} {R : List Addr → α → β → Prop} {S : List Addr → γ → δ → Prop} {ps : List Addr} {H : Hp} {x : Res α} {k : α → Hv → Res γ} {Q : δ → Hp → Prop} {E : XK} (g : Good T S ps H ((noX x).bind k) Q E) :
    Good T R ps H x (Mid T R S ps H k Q E) (fun _ _ _ => False) := by
  cases x with
  | val w h => exact fun qs H' v s vw rv => ⟨qs, w, h, s, vw, rv, Good.step g s⟩
  | exc c d h => exact g.elim
  | bad => exact g
def compM (nx : Nat → Hv → Nxt) (i : Nat) (t : Ws → Hv → Res Bool) (f : Ws → Hv → Res W) (p : Nat) : Nat → Nat → Ws → Hv → Res W
  | 0, _, _, _ => .bad
  | n + 1, k, r, h => match nx k h with
    | .stop => .val (.ref p) h
    | .bad => .bad
    | .item w h1 => (noX (t (r.set i (some w)) h1)).bind fun b h2 => if b then ((noX (f (r.set i (some w)) h2)).bind fun y h3 => match h3[p]? with
        | some (.lst acc) => if acc.length < 100000 then compM nx i t f p n (k + 1) r (h3.set p (.lst (acc ++ [y]))) else .bad
        | _ => .bad) else compM nx i t f p n (k + 1) r h2
def mLc (src : Ws → Hv → Res Src) (i : Nat) (t : Ws → Hv → Res Bool) (f : Ws → Hv → Res W) : Ws → Hv → Res W := fun r h => (src r h).bind fun S h1 => compM S.nx i t f h1.length S.n 0 r (h1 ++ [.lst []])
abbrev No : WX := fun _ _ _ _ => False
theorem cn_no {X : Cx} {s : Shared} {H : Hp} {scope : Scope} {env : Env} {fp : List Addr} : Cn (X.blk s H scope env fp) No := ⟨takes0, PassesOwn.never⟩
section
variable {T : Tx} {X : Cx} {elt iter : Expr} {ifs : List Expr} {scope : Scope} {pos px : Pos} {src : Ws → Hv → Res Src} {t : Ws → Hv → Res Bool} {f : Ws → Hv → Res W} {x : Str}
theorem lc_read (i : Nat) {E : WX} {s : St} {H : Hp} {Q : VK} {tt : TT} (htt : ∀ s H Q, tT T No t s H Q → tt s H Q) (h : tE T E (mLc src i t f) s H Q) : tLc (tI T E src) (gName i) tt (tE T No f) [i] s H Q := by
  obtain ⟨ps, r, hv, es, vw, gd⟩ := h
  refine ⟨ps, r, hv, es, vw, (Good.bind (R := SimI T) (S := WV) gd).imp (fun J H1 q => ?_) fun _ _ _ z => z⟩
  obtain ⟨qs, S, h1, st, vw1, sim, g1⟩ := q
  intro D hD
  obtain ⟨vw2, st2, e2⟩ := vw1.alloc hD (o := .lst []) (u := .lst []) ⟨[], .nil, upd_same⟩
  have pq := st2.pre
  refine ⟨fun k m H => ∃ ps h, (qs ++ [D]) <+: ps ∧ ES ps r s ∧ View T ps h H ∧ Good T WV ps H (compM S.nx i t f h1.length m k r h) Q (fun c d H' => E c d s H'), ⟨S.n, qs ++ [D], _, List.prefix_refl _, (es.mono st.pre).mono pq, vw2, Good.step g1 st2⟩, ?_⟩
  rintro k m H3 ⟨rs, h3, pre, es3, vw3, g3⟩
  cases m with
  | zero => exact g3.elim
  | succ m =>
    have ok := sim rs h3 H3 k (pq.trans pre) vw3
    unfold compM at g3
    have eD := at_pre pre e2
    cases q : S.nx k h3 with
    | bad => rw [q] at g3; exact g3.elim
    | stop =>
      rw [q] at g3 ok
      exact .inl ⟨ok, g3 rs H3 _ (Step.refl _ _) vw3 ⟨D, eD, rfl⟩⟩
    | item w h4 =>
      rw [q] at g3 ok
      refine .inr ⟨ok.1, fun H => ∃ ps h, (qs ++ [D]) <+: ps ∧ ES ps r s ∧ View T ps h H ∧ Good T WV ps H (compM S.nx i t f h1.length m (k + 1) r h) Q (fun c d H' => E c d s H'), fun H' z => ⟨m, Nat.lt_succ_self m, z⟩, fun v H4 y => ?_⟩
      obtain ⟨ts, st4, vw4, wv⟩ := ok.2 v H4 y
      have g4 := g3.step st4
      dsimp only at g4
      have es4 : ES ts (r.set i (some w)) ((wipe s [i]).set i (some v)) := by
        show ES ts (r.set i (some w)) ((s.set i none).set i (some v))
        rw [List.set_set]
        exact (es3.mono st4.pre).set i wv
      refine ⟨?_, htt _ _ _ ⟨ts, r.set i (some w), h4, es4, vw4, (good_noX (R := BEq2) (S := WV) g4).imp (fun b H5 q5 => ?_) fun _ _ _ z => z⟩⟩
      · show (((s.set i none).set i (some v)).set i none) = s.set i none
        rw [List.set_set, List.set_set]
      · obtain ⟨us, b', h5, st5, vw5, eb, g5⟩ := q5
        cases eb
        have es5 := es4.mono st5.pre
        have esr := (es3.mono st4.pre).mono st5.pre
        have pre5 := (pre.trans st4.pre).trans st5.pre
        cases b with
        | false => exact iteF ⟨us, h5, pre5, esr, vw5, g5⟩
        | true =>
          refine iteT ⟨us, r.set i (some w), h5, es5, vw5, (good_noX (R := WV) (S := WV) g5).imp (fun yv H6 q6 => ?_) fun _ _ _ z => z⟩
          obtain ⟨vs, wy, h6, st6, vw6, wvy, g6⟩ := q6
          dsimp only at g6
          split at g6
          · rename_i acc e6
            split at g6
            · rename_i hl
              have eD6 := at_pre (pre5.trans st6.pre) e2
              obtain ⟨av, rr, eH⟩ := vw6.ob _ D _ eD6 e6
              have l1 : acc.length = av.length := rr.length
              obtain ⟨vw7, st7⟩ := vw6.put eD6 (o := .lst (acc ++ [wy])) (u := .lst (av ++ [yv])) ⟨_, paired_app rr (.cons wvy .nil), upd_same⟩ (notX eH)
              exact ⟨av, eH, Nat.lt_of_lt_of_le (l1 ▸ hl) (by decide), vs, _, pre5.trans st6.pre, esr.mono st6.pre, vw7, Good.step g6 st7⟩
            · exact g6.elim
          · exact g6.elim
def mYes : Ws → Hv → Res Bool := fun _ h => .val true h
theorem yes_read {s : St} {H : Hp} {Q : Bool → Hp → Prop} (h : tT T No mYes s H Q) : tYes s H Q := by
  obtain ⟨ps, r, hv, es, vw, gd⟩ := h
  exact Good.now (R := BEq2) gd vw rfl
theorem se_lc (i : Nat) (hN : X.N.Nodup) (hi : SI T X (.Name x px) iter src) (ok : BlkOk X.N X.env.scope scope [(x, i)]) (hx : ∀ (s : Shared) (H : Hp) (C : Addr) (cl : List (Str × Addr)) (fp : List Addr), PG (X.blk s H scope (compEnvC scope cl C X.env) fp) (.Name x px) (gName i))
    (he : ∀ (s : Shared) (H : Hp) (C : Addr) (cl : List (Str × Addr)) (fp : List Addr), SE T (X.blk s H scope (compEnvC scope cl C X.env) fp) elt f) (hc : X.calm = true := by rfl) (hs : ∀ x, foldedSetIterable iter X.env x = pure x := by intro _; rfl) :
    SE T X (.ListComp elt [⟨.Name x px, iter, [], 0⟩] scope pos) (mLc src i mYes f) := fun E cn => PEi (pe_lc (own := [(x, i)]) hc hN (hi E cn) ok hx (fun _ _ _ _ _ => pts_nil) (fun s H C cl fp => he s H C cl fp No cn_no) hs) fun s H Q h => lc_read i (fun _ _ _ z => yes_read z) h
theorem se_lcIf (i : Nat) {c : Expr} (hN : X.N.Nodup) (hi : SI T X (.Name x px) iter src) (ok : BlkOk X.N X.env.scope scope [(x, i)]) (hx : ∀ (s : Shared) (H : Hp) (C : Addr) (cl : List (Str × Addr)) (fp : List Addr), PG (X.blk s H scope (compEnvC scope cl C X.env) fp) (.Name x px) (gName i))
    (ht : ∀ (s : Shared) (H : Hp) (C : Addr) (cl : List (Str × Addr)) (fp : List Addr), STt T (X.blk s H scope (compEnvC scope cl C X.env) fp) c t)
    (he : ∀ (s : Shared) (H : Hp) (C : Addr) (cl : List (Str × Addr)) (fp : List Addr), SE T (X.blk s H scope (compEnvC scope cl C X.env) fp) elt f) (hc : X.calm = true := by rfl) (hs : ∀ x, foldedSetIterable iter X.env x = pure x := by intro _; rfl) :
    SE T X (.ListComp elt [⟨.Name x px, iter, [c], 0⟩] scope pos) (mLc src i t f) := fun E cn => PEi (pe_lc (own := [(x, i)]) hc hN (hi E cn) ok hx (fun s H C cl fp => pts_one (ht s H C cl fp No cn_no)) (fun s H C cl fp => he s H C cl fp No cn_no) hs) fun s H Q h => lc_read i (fun _ _ _ z => z) h
end

/-! ### slices of lists -/
def mPart (o : Option (Ws → Hv → Res W)) : Ws → Hv → Res (Option Int) := match o with
  | none => fun _ h => .val none h
  | some f => fun r h => (f r h).bind fun w h1 => match w with
    | .int i => .val (some i) h1
    | _ => .bad
abbrev OEq2 : List Addr → Option Int → Option Int → Prop := fun _ a b => a = b
def tO (T : Tx) (E : WX) (f : Ws → Hv → Res (Option Int)) : TO := fun s H Q => ∃ ps r h, ES ps r s ∧ View T ps h H ∧ Good T OEq2 ps H (f r h) Q (fun c d H' => E c d s H')
def SO (T : Tx) (X : Cx) (e : Option Expr) (f : Ws → Hv → Res (Option Int)) : Prop := ∀ E, Cn X E → PO X e (tO T E f)
def cutW (xs : List W) (lo hi : Option Int) : List W := (xs.drop (HT.sIx xs.length 0 lo)).take (HT.sIx xs.length xs.length hi - HT.sIx xs.length 0 lo)
def mCut (w : W) (lo hi : Option Int) (h : Hv) : Res W := match w with
  | .ref p => (match h[p]? with
    | some (.lst xs) => mNew (.lst (cutW xs lo hi)) h
    | some (.rol xs) => mNew (.lst (cutW xs lo hi)) h
    | _ => .bad)
  | _ => .bad
def mSl (f : Ws → Hv → Res W) (lo hi : Ws → Hv → Res (Option Int)) : Ws → Hv → Res W := fun r h => (f r h).bind fun w h1 => (lo r h1).bind fun l h2 => (hi r h2).bind fun u h3 => mCut w l u h3
section
variable {T : Tx} {X : Cx} {e : Expr} {f : Ws → Hv → Res W} {lo hi : Option Expr} {fl fh : Ws → Hv → Res (Option Int)} {p2 pos : Pos}
theorem POi {o : Option Expr} {t t' : TO} (h : PO X o t) (k : ∀ s H Q, t' s H Q → t s H Q) : PO X o t' := ⟨fun pins s σ H Q I hw => h.run pins s σ H Q I (k _ _ _ hw)⟩
theorem so_none : SO T X none (mPart none) := fun E cn => POi po_none fun s H Q ⟨ps, r, h, es, vw, g⟩ => Good.now (R := OEq2) g vw rfl
theorem so_some (h : SE T X e f) : SO T X (some e) (mPart (some f)) := fun E cn => POi (po_some (h E cn)) fun s H Q ⟨ps, r, hv, es, vw, gd⟩ => by
  refine ⟨ps, r, hv, es, vw, (Good.bind (R := WV) (S := OEq2) gd).imp (fun v H1 q => ?_) fun _ _ _ z => z⟩
  obtain ⟨qs, w, h1, st, vw1, wv, g1⟩ := q
  dsimp only at g1
  split at g1
  · cases wv
    exact ⟨_, rfl, Good.now (R := OEq2) g1 vw1 rfl⟩
  · exact g1.elim
theorem paired_cut {ps : List Addr} {xs : List W} {vs : List V} (a : Paired (WV ps) xs vs) (lo hi : Option Int) : Paired (WV ps) (cutW xs lo hi) (cutV vs lo hi) := by
  unfold cutW cutV
  rw [a.length]
  exact paired_take (paired_drop a _) _
theorem se_slice (he : SE T X e f) (hl : SO T X lo fl) (hh : SO T X hi fh) : SE T X (.Subscript e (.Slice lo hi none p2) pos) (mSl f fl fh) := fun E cn => PEi (pe_slice sl_list (he E cn) (hl E cn) (hh E cn)) fun s H Q ⟨ps, r, hv, es, vw, gd⟩ => by
  refine ⟨ps, r, hv, es, vw, (Good.bind (R := WV) (S := WV) gd).imp (fun v H1 q => ?_) fun _ _ _ z => z⟩
  obtain ⟨qs, w, h1, st, vw1, wv, g1⟩ := q
  refine ⟨qs, r, h1, es.mono st.pre, vw1, (Good.bind (R := OEq2) (S := WV) g1).imp (fun l H2 q2 => ?_) fun _ _ _ z => z⟩
  obtain ⟨rs, l', h2, st2, vw2, e2, g2⟩ := q2
  cases e2
  refine ⟨rs, r, h2, (es.mono st.pre).mono st2.pre, vw2, (Good.bind (R := OEq2) (S := WV) g2).imp (fun u H3 q3 => ?_) fun _ _ _ z => z⟩
  obtain ⟨ts, u', h3, st3, vw3, e3, g3⟩ := q3
  cases e3
  have wv3 := (wv.mono st2.pre).mono st3.pre
  dsimp only at g3
  unfold mCut at g3
  split at g3
  · obtain ⟨a, ea, rfl⟩ := wv3
    split at g3
    · rename_i xs e1
      obtain ⟨vs, rr, eH⟩ := vw3.ob _ a _ ea e1
      exact ⟨a, vs, rfl, SqL.of eH, fun p hp => good_new vw3 g3 (fun H' p' e => ⟨_, paired_cut rr _ _, e⟩) hp⟩
    · rename_i xs e1
      obtain ⟨vs, ob, rr, eH⟩ := vw3.ob _ a _ ea e1
      exact ⟨a, vs, rfl, .inl (.inr ⟨ob, eH⟩), fun p hp => good_new vw3 g3 (fun H' p' e => ⟨_, paired_cut rr _ _, e⟩) hp⟩
    · exact g3.elim
  · exact g3.elim
end

/-! ### xs.append(e) -/
def mApp (fo fe : Ws → Hv → Res W) : Ws → Hv → Res W := fun r h => (fo r h).bind fun o h1 => match o with
  | .ref p => (match h1[p]? with
    | some (.lst _) => (fe r h1).bind fun w h2 => (match h2[p]? with
      | some (.lst xs) => if xs.length < 100000 then .val .non (h2.set p (.lst (xs ++ [w]))) else .bad
      | _ => .bad)
    | _ => .bad)
  | _ => .bad
section
variable {T : Tx} {X : Cx} {o e : Expr} {fo fe : Ws → Hv → Res W} {pos apos cpos : Pos}
theorem se_append (ho : SE T X o fo) (he : SE T X e fe) (hs : starEach [e] X.env = (false, eval e X.env) :: starEach [] X.env := by rfl)
    (hp : ∀ {to : TE} {t : TA}, PE X o to → PA X [e] t → PE X (.Call (.Attribute o "append" apos) [e] [] cpos) (tBM X.K "list" rAppend to t) := by exact fun a b => pe_bm PySem.F.plainAttrs_list PySem.F.slot_list_append PySem.F.type_list_append mt_append a b) :
    SE T X (.Call (.Attribute o "append" apos) [e] [] cpos) (mApp fo fe) := fun E cn => PEi (hp (ho E cn) (pa_cons (he E cn) pa_nil hs)) fun s H Q ⟨ps, r, hv, es, vw, gd⟩ => by
  refine ⟨ps, r, hv, es, vw, (Good.bind (R := WV) (S := WV) gd).imp (fun v H1 q => ?_) fun _ _ _ z => z⟩
  obtain ⟨qs, w, h1, st, vw1, wv, g1⟩ := q
  dsimp only at g1
  split at g1
  · rename_i p
    obtain ⟨a, ea, rfl⟩ := wv
    split at g1
    · rename_i ys e1
      obtain ⟨vs, rr, eH⟩ := vw1.ob _ a _ ea e1
      refine ⟨.inl ⟨rfl, vs, SqL.of eH⟩, qs, r, h1, es.mono st.pre, vw1, (Good.bind (R := WV) (S := WV) g1).imp (fun y H2 q2 => ?_) fun _ _ _ z => z⟩
      obtain ⟨rs, wy, h2, st2, vw2, wvy, g2⟩ := q2
      dsimp only at g2
      split at g2
      · rename_i xs e2
        split at g2
        · rename_i hl
          have ea2 := at_pre st2.pre ea
          obtain ⟨us, r2, eH2⟩ := vw2.ob _ a _ ea2 e2
          have l1 : xs.length = us.length := r2.length
          obtain ⟨vw3, st3⟩ := vw2.put ea2 (o := .lst (xs ++ [wy])) (u := .lst (us ++ [y])) ⟨_, paired_app r2 (.cons wvy .nil), upd_same⟩ (notX eH2)
          exact ⟨a, us, y, rfl, rfl, eH2, Nat.lt_of_lt_of_le (l1 ▸ hl) (by decide), g2 _ _ _ st3 vw3 rfl⟩
        · exact g2.elim
      · exact g2.elim
    · exact g1.elim
  · exact g1.elim
end
end VL
end
section
namespace VL
open PySem L2 PySem.Spec PyProof.Rows

/-! ### raise of an own error with one field -/
def mRaise (C : String) (f : Str) (g : Ws → Hv → Res (List W)) : MS := fun r h => (g r h).andS r fun ws h1 => match ws with
  | [w] => .exc C (some h1.length) r (h1 ++ [.xd [(f, w)]])
  | _ => .bad
/-- __init__(self, f): self.f = f -/
def spInit (K : PySem.W.Frag) (C : Addr) (f : Str) : Sp := fun vs H Q _ => ∃ (a : Addr) (v : V), vs = [.ref a, v] ∧ H a = some (exo a C none) ∧ ∀ dx, H dx = none → dx ≠ a → Q .non (upd (upd H dx (exd dx [(f, v)])) a (exo a C (some dx)))
/-- what the text says of the error's class -/
structure ErrC (P : Program) (w : World) (K : PySem.W.Frag) (mg : Str → Option Value) (base : Heap) (x f : Str) (C : Addr) : Prop where
  oex : OexC K C
  mgC : mg x = some (.ref C)
  ini : ∃ fI fd, PySem.W.findIn K (.ref C) "__init__" = some (some (.ref fI)) ∧ PySem.W.typeIn K (.ref fI) = some (.type "function") ∧ FnOk P w K mg base CX0 1 fI fd ["self", f] (spInit K C f) ∧ Binds K fd ["self", f] []
section
variable {T : Tx} {X : Cx} {C : Addr} {cn9 : String} {x f : Str} {e : Expr} {g : Ws → Hv → Res (List W)} {p pos pos' : Pos}
theorem ss_raise (Z : ErrC X.prog X.w X.K X.mg X.base x f C) (hcv : T.cv cn9 = .ref C) (hr : Room 2 X.A) (hg : Gl X x) (ha : SA T X [e] g) (hc : X.calm = true := by rfl) (hdb : (x == ("__debug__" : Str)) = false := by decide)
    (he : starEach [e] X.env = (false, eval e X.env) :: starEach [] X.env := by rfl) (hpl : (backTo pos' (starEach [] X.env)).any (·.1) = false := by rfl) : SS T X (.Raise (some (.Call (.Name x p) [e] [] pos')) none pos) (mRaise cn9 f g) := fun E cn => by
  obtain ⟨fI, fd, h1, h2, h3, h4⟩ := Z.ini
  refine PSi (ps_raise hc cn.tk (pmk_oex Z.oex h1 h2 h3 hr h4 .nil pass0 hg Z.mgC (ha E cn) hdb he hpl)) fun D s H ⟨ps, r, hv, es, vw, gd⟩ => ?_
  refine ⟨ps, r, hv, es, vw, (good_andS (R := WVs) es gd).imp (fun vs H1 q => ?_) fun _ _ _ z => z⟩
  obtain ⟨qs, ws, hh, st, vw1, wv, es1, g1⟩ := q
  split at g1
  · rename_i w
    obtain ⟨v, rfl, wv1⟩ := one_of wv
    refine ⟨by simp, fun a na => ⟨a, v, rfl, upd_same, fun dx hd ne => ⟨rfl, dx, [(f, v)], upd_same, by rw [upd_ne ne, upd_same], ?_, ?_⟩⟩⟩
    · rw [upd_ne ne] at hd
      exact hd
    · rw [upd_ne ne] at hd
      have eqH : upd (del (upd (upd (upd H1 a (exo a C none)) dx (exd dx [(f, v)])) a (exo a C (some dx))) a) dx (.xd [(f, v)]) = upd H1 dx (.xd [(f, v)]) := by
        funext b
        by_cases hb : b = dx
        · rw [hb, upd_same, upd_same]
        · rw [upd_ne hb, upd_ne hb]
          by_cases ha : b = a
          · rw [ha, del_same, na]
          · rw [del_ne ha, upd_ne ha, upd_ne hb, upd_ne ha]
      rw [eqH]
      obtain ⟨vw2, st2, e2⟩ := vw1.alloc hd (o := .xd [(f, w)]) (u := .xd [(f, v)]) ⟨_, .cons ⟨rfl, wv1⟩ .nil, upd_same⟩
      rw [← hcv]
      exact g1 _ _ s (some dx) st2 vw2 (es1.mono st2.pre) ⟨dx, e2, rfl⟩
  · exact g1.elim
end

/-! ### try .. except x as n: a suite that returns -/
theorem View.known {T : Tx} {ps : List Addr} {h : Hv} {H : Hp} (v : View T ps h H) {j : Nat} {a : Addr} (e : ps[j]? = some a) : View (T.known j a) ps h H := ⟨v.len, v.nd, v.ob, v.tab, v.fact, e⟩
theorem View.less {T : Tx} {ps : List Addr} {h : Hv} {H : Hp} {j : Nat} {a : Addr} (v : View (T.known j a) ps h H) : View T ps h H := ⟨v.len, v.nd, v.ob, v.tab, v.fact.1⟩
def mTry (i : Nat) (exm : String → Option Bool) (su : Nat → MS) (b : MS) : MS := fun r h => match b r h with
  | .exc c d r1 h1 => (match exm c with
    | some true => (match d with
      | some j => if i < r1.length then (match su j r1 h1 with
        | .rt w h2 => .rt w h2
        | _ => .bad) else .bad
      | none => .bad)
    | some false => .exc c d r1 h1
    | none => .bad)
  | y => y
section
variable {T : Tx} {X : Cx} {x n : Str} {c : Value} {body suite : List Stmt} {b0 : Stmt} {np pos pos' : Pos} {bM : MS} {sM : Addr → Nat → MS} {su : Nat → MS} {exm : String → Option Bool} {okc : Value → Prop}
theorem ss_try (i : Nat) (hN : X.N.Nodup) (hc : Names X x c) (hexm : ∀ v b, exm v = some b → PySem.W.exmOne X.K (T.cv v) c = some b) (hokc : ∀ v, exm v = some true → okc (T.cv v))
    (hb : ∀ (pn : List (Addr × Obj)) (xe : Value → Shared → Prop), SSs T (X.tr pn xe) body bM)
    (hsu : ∀ (a : Addr) (oe : Obj) (cls : Value) (dd : Addr) (pn : List (Addr × Obj)) (j : Nat), okc cls → Zc cls (some dd) oe → (∃ vs, oe.data = .fields vs) → SSs (T.known j dd) (X.suite a ((a, oe) :: pn)) (b0 :: suite) (sM a j))
    (hind : ∀ a j r h w h2, i < r.length → su j r h = .rt w h2 → sM a j (r.set i (some (.fix a))) h = .rt w h2)
    (hs : X.stack = X.env :: X.outer := by rfl) (hf : X.env.frame = some X.env.locals := by rfl) (hi : X.N[i]? = some n := by rfl) (hln : X.env.kindOf n = some .local := by rfl) :
    SS T X (.Try body [.ExceptHandler (some (.Name x np)) (some n) (b0 :: suite) pos'] [] [] pos) (mTry i exm su bM) := fun E cn => by
  let ts : Addr → Value → Option Addr → TS := fun a cls d D s H => okc cls ∧ ∃ j dd, d = some dd ∧ tS (T.known j dd) No (sM a j) D s H
  have base : PS X (.Try body [.ExceptHandler (some (.Name x np)) (some n) (b0 :: suite) pos'] [] [] pos) (fun D s H => tS T (wAs X.K c i ts E D) bM D s H) := ps_try_as (tb := fun W => tS T W bM) (ts := ts) hs hf hN hi hln hc cn.tk (fun W pn xe tk po => hb pn xe W ⟨tk, po⟩) fun a oe cls d pn hz hd => ⟨fun pins s σ H D I h => by
    obtain ⟨hk, j, dd, rfl, h⟩ := h
    exact ((hsu a oe cls dd pn j hk hz hd) No ⟨takes0, PassesOwn.never⟩).run pins s σ H D I h⟩
  refine ⟨fun pins s σ H D I h => base.run pins s σ H D I ?_⟩
  obtain ⟨ps, r, hv, es, vw, gd⟩ := h
  refine ⟨ps, r, hv, es, vw, ?_⟩
  unfold mTry at gd
  cases q : bM r hv with
  | nx r1 h1 => rw [q] at gd; exact gd
  | rt r1 h1 => rw [q] at gd; exact gd
  | bk r1 h1 => rw [q] at gd; exact gd
  | ct r1 h1 => rw [q] at gd; exact gd
  | bad => rw [q] at gd; exact gd
  | exc cv d r1 h1 =>
    rw [q] at gd
    intro qs H' s' e st vw' es' dv
    dsimp only at gd
    cases ex : exm cv with
    | none => rw [ex] at gd; exact gd.elim
    | some b =>
      rw [ex] at gd
      cases b with
      | false => exact ⟨false, hexm _ _ ex, (fun z => by cases z), fun _ => gd qs H' s' e st vw' es' dv⟩
      | true =>
        cases d with
        | none => exact gd.elim
        | some j =>
          obtain ⟨dd, ej, rfl⟩ := dv
          refine ⟨true, hexm _ _ ex, fun _ a ha => ?_, (fun z => by cases z)⟩
          dsimp only at gd
          split at gd
          · rename_i hl
            cases z : su j r1 h1 with
            | nx _ _ => rw [z] at gd; exact gd.elim
            | bk _ _ => rw [z] at gd; exact gd.elim
            | ct _ _ => rw [z] at gd; exact gd.elim
            | exc _ _ _ _ => rw [z] at gd; exact gd.elim
            | bad => rw [z] at gd; exact gd.elim
            | rt w h2 =>
              rw [z] at gd
              refine ⟨hokc _ ex, j, dd, rfl, qs, r1.set i (some (.fix a)), h1, es'.set i rfl, vw'.known ej, ?_⟩
              rw [hind a j r1 h1 _ _ hl z]
              exact fun rs H2 v st2 vw2 wv => gd rs H2 v (st.trans st2) vw2.less wv
          · exact gd.elim
end

/-! ### the caught error's field -/
def mXf (j : Nat) (f : Str) : Ws → Hv → Res W := fun _ h => match h[j]? with
  | some (.xd fs) => ofO (fs.lookup f) h
  | _ => .bad
def mXfA (i : Nat) (a : Addr) (j : Nat) (f : Str) : Ws → Hv → Res W := fun r h => match r[i]? with
  | some (some (.fix b)) => if b = a then mXf j f r h else .bad
  | _ => .bad
theorem paired_lookup {ps : List Addr} {f : Str} : ∀ {fs : List (Str × W)} {vs : List (Str × V)} {w : W}, Paired (PW2 ps) fs vs → fs.lookup f = some w → ∃ v, vs.lookup f = some v ∧ WV ps w v
  | [], _, _, .nil, e => by cases e
  | (k, u) :: fs, (k', u') :: vs, w, .cons r t, e => by
    obtain ⟨rfl, r⟩ := r
    rw [List.lookup_cons] at e ⊢
    cases q : f == k with
    | true => rw [q] at e; cases e; exact ⟨u', by simp, r⟩
    | false =>
      rw [q] at e
      obtain ⟨v, h1, h2⟩ := paired_lookup t e
      exact ⟨v, by simpa [q] using h1, h2⟩
section
variable {T : Tx} {X : Cx}
theorem se_xf (i : Nat) {a dd C : Addr} {oe : Obj} {cls : Value} {pn : List (Addr × Obj)} {j : Nat} {n f : Str} {p pos : Pos} (Z : XfC X.K C) (hno : PySem.W.findIn X.K (.ref C) f = some none) (hz : Zc cls (some dd) oe) (hf : ∃ vs, oe.data = .fields vs) (hcls : cls = .ref C)
    (hN : X.N[i]? = some n := by rfl) (hv : Vis X.env.scope n := by first | exact Or.inl rfl | exact Or.inr (Or.inl rfl) | exact Or.inr (Or.inr rfl)) (hd : (n == ("__debug__" : Str)) = false := by decide) (hcd : (n == ("__classdict__" : Str)) = false := by decide)
    (hb : attributeBase (.Name n p) f X.env (eval (.Name n p) X.env) = eval (.Name n p) X.env := by rfl) :
    SE (T.known j dd) (X.suite a ((a, oe) :: pn)) (.Attribute (.Name n p) f pos) (mXfA i a j f) := fun E cn => PEi (pe_xf Z hno hz hf (pe_var (X := X.suite a ((a, oe) :: pn)) (i := i) hN hv hd hcd) hb) fun s H Q ⟨ps, r, hv, es, vw, gd⟩ => by
  unfold mXfA at gd
  split at gd
  · rename_i b eb
    split at gd
    · rename_i hba
      subst hba
      obtain ⟨v, e1, e2⟩ := es.2 i _ eb
      cases e2
      unfold mXf at gd
      split at gd
      · rename_i fs ej
        obtain ⟨w, ew, g⟩ := ofO_of gd
        have ed : ps[j]? = some dd := vw.fact.2
        obtain ⟨vs, rr, eH⟩ := vw.ob _ dd _ ed ej
        obtain ⟨v, ev, wv⟩ := paired_lookup rr ew
        exact ⟨_, e1, rfl, hcls, dd, vs, v, rfl, eH, ev, Good.now g vw wv⟩
      · exact gd.elim
    · exact gd.elim
  · exact gd.elim
end

/-! ### a def -/
def startW (N : List Str) (ws : List W) : Ws := ws.map some ++ List.replicate (N.length - ws.length) none
def mDef (N : List Str) (b : MS) : MFn := fun ws h => match b (startW N ws) h with
  | .rt w h1 => .val w h1
  | .nx _ h1 => .val .non h1
  | .exc c d _ h1 => .exc c d h1
  | _ => .bad
theorem es_start {N : List Str} {ps : List Addr} {ws : List W} {vs : List V} (h : Paired (WV ps) ws vs) : ES ps (startW N ws) (L2.start N vs) := by
  have hl : ws.length = vs.length := h.length
  refine ⟨by simp [startW, L2.start, hl], fun i w e => ?_⟩
  unfold startW at e
  unfold L2.start
  by_cases hi : i < ws.length
  · rw [List.getElem?_append_left (by simpa using hi)] at e
    rw [List.getElem?_append_left (by simpa [← hl] using hi)]
    rw [List.getElem?_map] at e ⊢
    cases q : ws[i]? with
    | none => simp [q] at e
    | some w' =>
      rw [q] at e
      cases e
      obtain ⟨v, ev, wv⟩ := paired_get h q
      exact ⟨v, by rw [ev]; rfl, wv⟩
  · rw [List.getElem?_append_right (by simpa using Nat.le_of_not_lt hi)] at e
    rw [List.getElem?_replicate] at e
    split at e
    · cases e
    · cases e
section
variable {P : Program} {w : World} {K : PySem.W.Frag} {mg : Str → Option Value} {base : Heap} {T : Tx} {N qs : List Str} {x qual : Str} {st : Stmt} {f : Addr} {fd : FuncData} {k : Nat} {b : MS}
theorem def_read {vs : List V} {H : Hp} {Q : VK} {E : XK} (h : spV T qs.length (mDef N b) vs H Q E) : tS T (fun c d _ H' => E c d H') b { nx := fun _ H' => Q .non H', rt := Q } (L2.start N vs) H := by
  obtain ⟨hl, ps, hv, ws, vw, wv, gd⟩ := h
  refine ⟨ps, startW N ws, hv, es_start wv, vw, ?_⟩
  unfold mDef at gd
  cases q : b (startW N ws) hv with
  | nx r1 h1 => rw [q] at gd; exact fun rs H' s st vw' es => gd rs H' .non st vw' rfl
  | rt w1 h1 => rw [q] at gd; exact gd
  | bk _ _ => rw [q] at gd; exact gd.elim
  | ct _ _ => rw [q] at gd; exact gd.elim
  | exc c d r1 h1 => rw [q] at gd; exact fun rs H' s e st vw' es dv => gd rs H' e st vw' dv
  | bad => rw [q] at gd; exact gd.elim
/-- THE RULE for a def -/
theorem fn_def (F : Fun K x qual st f fd) (S : FnScope N qs (defScope st))
    (hb : ∀ (cdv : Value) (A : Around) (outer : List Env) (s : Shared) (H : Hp) (E : XK), Room k (A.deeper (envOfC qual (defScope st) s.heap.objs.size f cdv)) → SSs T (cxOf (L2.CX P w) P w K mg base N qual (defScope st) f cdv A outer s H E) (defBody st) b) :
    FnOk P w K mg base (L2.CX P w) (k + 1) f fd qs (spV T qs.length (mDef N b)) :=
  F.okX S (fun vs H Q E h => h.1) fun cdv A outer s H vs Q E hr h => ⟨_, hb cdv A outer s H E hr _ ⟨takes_of rfl rfl rfl rfl, passes_of rfl⟩, def_read h⟩
end
end VL
end
section
namespace VL
open PySem L2 PySem.Spec PyProof.Rows

/-! ### defs that are called while no repr runs -/
structure FnG (P : Program) (w : World) (K : PySem.W.Frag) (mg : Str → Option Value) (base : Heap) (T : Tx) (k : Nat) (f : Addr) (n : Nat) (m : MFn) : Prop where
  run : ∀ (A : Around) (outer : List Env) (s : Shared) (H : Hp) (us : List Value) (vs : List V) (Q : VK) (E : XK), Room k A → A.guards = some [] → Env0 P w K mg base A outer s H → Vals vs us → spV T n m vs H Q E →
    codeAny (model P w) A (.call (.ref f) ⟨us, []⟩) (CR (L2.CX P w) outer P w H s Q E) s
theorem can_G {T : Tx} {X : Cx} {k : Nat} {f : Addr} {n : Nat} {m : MFn} (F : FnG X.prog X.w X.K X.mg X.base T k f n m) (hr : Room k X.A) (hg : X.A.guards = some []) : Can T X f n m := fun pins s σ H us vs Q E I r h => F.run X.A X.stack s H us vs Q E hr hg I.env0 r h
section
variable {P : Program} {w : World} {K : PySem.W.Frag} {mg : Str → Option Value} {base : Heap} {T : Tx} {N qs : List Str} {x qual : Str} {st : Stmt} {f : Addr} {fd : FuncData} {k : Nat} {b : MS}
/-- the def st stands at f, its code object is cdv -/
structure FunC (K : PySem.W.Frag) (x qual : Str) (st : Stmt) (f : Addr) (fd : FuncData) (cdv : Value) : Prop where
  ex : ∃ (oc : Value) (od : Option Addr) (kV doc pm : Value) (an : Option Addr) (ct : Value) (osl : Array (Option Value)),
    fd = PySem.W.fnOf x qual (defArgs st) (defBody st) (defScope st)
      .none kV doc pm an cdv ct ∧ K.lookup f = some ⟨oc, od, .func fd, osl⟩ ∧ PySem.W.codeIn K cdv qual = true
  kp : PySem.W.keepIn K (Value.ref f) = true
theorem Fun.code (F : Fun K x qual st f fd) : ∃ cdv, FunC K x qual st f fd cdv := by
  obtain ⟨oc, od, kV, doc, pm, an, cdv, ct, osl, e, l, c⟩ := F.ex
  exact ⟨cdv, ⟨oc, od, kV, doc, pm, an, ct, osl, e, l, c⟩, F.kp⟩
theorem fn_defC {cdv : Value} (F : FunC K x qual st f fd cdv) (S : FnScope N qs (defScope st)) (hbd : Binds K fd qs [])
    (hb : ∀ (A : Around) (outer : List Env) (s : Shared) (H : Hp) (E : XK), Room k (A.deeper (envOfC qual (defScope st) s.heap.objs.size f cdv)) → A.guards = some [] → SSs T (cxOf (L2.CX P w) P w K mg base N qual (defScope st) f cdv A outer s H E) (defBody st) b) :
    FnG P w K mg base T (k + 1) f qs.length (mDef N b) := ⟨fun A outer s H us vs Q E hr hg e0 r h => by
  obtain ⟨oc, od, kV, doc, pm, an, ct, osl, rfl, lk, hcd⟩ := F.ex
  have hl : vs.length = qs.length := h.1
  have kin : K.In s.heap := e0.mod.kin.keeps fun b o e => (e0.bs b o e).1
  have bt := hbd s us kin (by rw [List.append_nil, ← r.length]; exact hl)
  rw [List.append_nil] at bt
  exact LamX.run_ofS (N := N) (ps := qs) lk hcd S hr e0 bt r hl fun hr' => ⟨_, hb A outer s H E hr' hg _ ⟨takes_of rfl rfl rfl rfl, passes_of rfl⟩, def_read h⟩⟩
theorem fn_defG (F : Fun K x qual st f fd) (S : FnScope N qs (defScope st)) (hbd : Binds K fd qs [])
    (hb : ∀ (cdv : Value) (A : Around) (outer : List Env) (s : Shared) (H : Hp) (E : XK), Room k (A.deeper (envOfC qual (defScope st) s.heap.objs.size f cdv)) → A.guards = some [] → SSs T (cxOf (L2.CX P w) P w K mg base N qual (defScope st) f cdv A outer s H E) (defBody st) b) :
    FnG P w K mg base T (k + 1) f qs.length (mDef N b) := by
  obtain ⟨cdv, C⟩ := Fun.code F
  exact fn_defC C S hbd (hb cdv)
end

/-! ### heard(lambda: e): try: return call() / except x as n: a suite that returns -/
def mHeard (exm : String → Option Bool) (su : Nat → MS) (fb : Ws → Hv → Res W) : Ws → Hv → Res W := fun r h => match fb r h with
  | .val w h1 => .val w h1
  | .exc c (some j) h1 => (match exm c with
    | some true => (match su j [none, none] h1 with
      | .rt w h2 => .val w h2
      | _ => .bad)
    | _ => .bad)
  | _ => .bad
section
variable {X : Cx} {T : Tx} {sM : Addr → Nat → MS} {su : Nat → MS} {exm : String → Option Bool} {okc : Value → Prop} {cx : Value}
/-- what the suite is to do with an error of the class cls whose own dict is at d -/
def tSuite (T : Tx) (okc : Value → Prop) (sM : Addr → Nat → MS) : Addr → Value → Option Addr → TS := fun a cls d D s H => okc cls ∧ ∃ j dd, d = some dd ∧ tS (T.known j dd) No (sM a j) D s H
def wHeard (K : PySem.W.Frag) (T : Tx) (cx : Value) (okc : Value → Prop) (sM : Addr → Nat → MS) (Q : VK) : XK := fun cls d H => ∃ b, PySem.W.exmOne K cls cx = some b ∧
  (b = true → ∀ (D : Ends) (s : L2.St) (a : Addr), D.rt = Q → s.length = 2 → H a = none → tSuite T okc sM a cls d D (s.set 1 (some (.ref a))) H) ∧ (b = false → False)
def TTh (K : PySem.W.Frag) (T : Tx) (cx : Value) (okc : Value → Prop) (sM : Addr → Nat → MS) : (XK → Hp → VK → Prop) → Hp → VK → Prop := fun tl H Q => tl (wHeard K T cx okc sM Q) H Q
/-- the context in which heard's body runs -/
abbrev hCx (X : Cx) (Ng : List Str) (x : Str) (sg : Scope) (g : Addr) (cdg : Value) (s : Shared) (H : Hp) : Cx := (cxOf C8.CX0 X.prog X.w X.K X.mg X.base Ng x sg g cdg X.A X.stack s H C8.E0).nox
theorem heard_gives {x a n e q : Str} {sg : Scope} {g : Addr} {cdg : Value} {b0 : Stmt} {suite : List Stmt} {p1 p2 p3 p4 p7 p8 : Pos} (hnd : ([a, n] : List Str).Nodup)
    (hc : ∀ s H, Names (hCx X [a, n] x sg g cdg s H) e cx)
    (hsu : ∀ (s : Shared) (H : Hp) (ad : Addr) (oe : Obj) (cls : Value) (dd : Addr) (pn : List (Addr × Obj)) (j : Nat), okc cls → Zc cls (some dd) oe → (∃ vs, oe.data = .fields vs) → SSs (T.known j dd) ((hCx X [a, n] x sg g cdg s H).suite ad ((ad, oe) :: pn)) (b0 :: suite) (sM ad j))
    (hkn : sg.names.lookup n = some .local) :
    LamX.GivesTo X [a, n] x sg g cdg [.Try [.Return (some (.Call (.Name a p1) [] [] p2)) p3] [.ExceptHandler (some (.Name e p4)) (some n) (b0 :: suite) p7] [] [] p8] a q (TTh X.K T cx okc sM) := by
  intro f c' s H Q tl act hco h
  refine ⟨_, pss_one (ps_try_as (X := hCx X [a, n] x sg g cdg s H) (i := 1) (ts := tSuite T okc sM) (Wout := No)
    (tb := fun Wx D s' H' => ∃ Ec : XK, (∀ cls d (s2 : L2.St) H2, s2.length = 2 → Ec cls d H2 → Wx cls d s2 H2) ∧ s'[0]? = some (some (.ref f)) ∧ H' c' = some (LamX.CodeO c' q) ∧ tl Ec H' D.rt) rfl rfl hnd rfl hkn (hc s H) takes0 (fun Wx pn xe tk _ => ⟨fun pins s1 σ1 H1 D I h1 => ?_⟩)
    fun ad oe cls d pn hz hf => ⟨fun pins s1 σ1 H1 D I h1 => ?_⟩), ?_⟩
  · obtain ⟨Ec, hW, hs, h2, h3⟩ := h1
    have tk2 : Takes ((cxOf C8.CX0 X.prog X.w X.K X.mg X.base [a, n] x sg g cdg X.A X.stack s H C8.E0).tr pn xe) (fun cls d s2 H2 => s2.length = 2 → Wx cls d s2 H2) := fun u s' xx => by
      obtain ⟨ad, B, sI, pins', s3, H3, cls, d, e1, J, e2, e3, e4, e5, e6, e7, wz⟩ := xx
      exact tk u s' ⟨ad, B, sI, pins', s3, H3, cls, d, e1, J, e2, e3, e4, e5, e6, e7, wz J.len⟩
    have hp := act _ pn xe Ec p1 p2 tk2 fun cls d s2 H2 hh hl => hW cls d s2 H2 hl hh
    exact (pss_one (ps_ret (pos := p3) hp)).run pins s1 σ1 H1 D I ⟨hs, h2, h3⟩
  · obtain ⟨hk, j, dd, rfl, h2⟩ := h1
    exact ((hsu s H ad oe cls dd pn j hk hz hf) No ⟨takes0, PassesOwn.never⟩).run pins s1 σ1 H1 D I h2
  · refine ⟨wHeard X.K T cx okc sM Q, fun cls d s2 H2 hl hw => ?_, rfl, hco, h⟩
    obtain ⟨b, e1, e2, e3⟩ := hw
    exact ⟨b, e1, fun hb ad ha => e2 hb _ s2 ad rfl hl ha, fun hb => (e3 hb).elim⟩
theorem View.ext {ps : List Addr} {h : Hv} {H H1 : Hp} (v : View T ps h H) (e : LamX.ExtN H H1) (t : LamX.Tabs T.tb H1) : View T ps h H1 ∧ Step ps H ps H1 := by
  refine ⟨⟨v.len, v.nd, fun i a o h1 h2 => ?_, t, v.fact⟩, ⟨List.prefix_refl _, fun _ _ h n _ => absurd h n, fun a o h1 h2 _ => e a o h1 h2⟩⟩
  have q := v.ob i a o h1 h2
  obtain ⟨u, hu, ht⟩ := q.there
  exact q.put fun u' hu' => by
    rw [hu] at hu'
    cases hu'
    exact e a u hu ht
theorem heard_read {E : WX} {s : L2.St} {H : Hp} {Q : VK} {fb : Ws → Hv → Res W} (hexm : ∀ v b, exm v = some b → PySem.W.exmOne X.K (T.cv v) cx = some b) (hokc : ∀ v, exm v = some true → okc (T.cv v)) (hind : ∀ a j r h w h2, 1 < r.length → su j r h = .rt w h2 → sM a j (r.set 1 (some (.fix a))) h = .rt w h2)
    (h : tE T E (mHeard exm su fb) s H Q) : LamX.tLam T.tb (TTh X.K T cx okc sM) (fun E' => tE T (fun c d _ H' => E' c d H') fb) s H Q := by
  obtain ⟨ps, r, hv, es, vw, gd⟩ := h
  refine ⟨vw.tab, fun H1 eN tN => ?_⟩
  obtain ⟨vw1, st1⟩ := vw.ext eN tN
  have gd := Good.step gd st1
  refine ⟨ps, r, hv, es, vw1, ?_⟩
  unfold mHeard at gd
  cases q : fb r hv with
  | bad => rw [q] at gd; exact gd.elim
  | val w h1 => rw [q] at gd; exact gd
  | exc c d h1 =>
    rw [q] at gd
    cases d with
    | none => exact gd.elim
    | some j =>
      dsimp only at gd
      intro qs H' e st vw' dv
      obtain ⟨dd, ej, rfl⟩ := dv
      cases ex : exm c with
      | none => rw [ex] at gd; exact gd.elim
      | some b =>
        rw [ex] at gd
        cases b with
        | false => exact gd.elim
        | true =>
          dsimp only at gd
          cases z : su j [none, none] h1 with
          | nx _ _ => rw [z] at gd; exact gd.elim
          | bk _ _ => rw [z] at gd; exact gd.elim
          | ct _ _ => rw [z] at gd; exact gd.elim
          | exc _ _ _ _ => rw [z] at gd; exact gd.elim
          | bad => rw [z] at gd; exact gd.elim
          | rt w h2 =>
            rw [z] at gd
            refine ⟨true, hexm _ _ ex, fun _ D s2 a hD hl ha => ⟨hokc _ ex, j, dd, rfl, qs, [none, none].set 1 (some (.fix a)), h1, ?_, vw'.known ej, ?_⟩, fun z => by cases z⟩
            · have e0 : ES qs [none, none] s2 := ⟨by rw [hl]; rfl, fun i w e => by
                match i, e with
                | 0, e => cases e
                | 1, e => cases e
                | i + 2, e => simp at e⟩
              exact e0.set 1 rfl
            · rw [hind a j [none, none] h1 _ _ (by decide) z]
              intro rs H2 v st2 vw2 wv
              rw [hD]
              exact gd rs H2 v (st.trans st2) vw2.less wv
/-- heard(lambda: e) -/
theorem se_heard {k : Nat} {x a n e : Str} {g c P : Addr} {pg : Arguments} {sg : Scope} {dV kV doc pm cdv ct oc : Value} {an od : Option Addr} {osl : Array (Option Value)} {b0 : Stmt} {suite : List Stmt} {p1 p2 p3 p4 p7 p8 : Pos}
    {params : Arguments} {body : Expr} {scope : Scope} {fb : Ws → Hv → Res W} {p lpos pos : Pos}
    (hexm : ∀ v b, exm v = some b → PySem.W.exmOne X.K (T.cv v) cx = some b) (hokc : ∀ v, exm v = some true → okc (T.cv v)) (hind : ∀ a j r h w h2, 1 < r.length → su j r h = .rt w h2 → sM a j (r.set 1 (some (.fix a))) h = .rt w h2)
    (hm : X.mg x = some (.ref g)) (hk : PySem.W.keepIn X.K (.ref g) = true)
    (lk : X.K.lookup g = some ⟨oc, od, .func (PySem.W.fnOf x x pg [.Try [.Return (some (.Call (.Name a p1) [] [] p2)) p3] [.ExceptHandler (some (.Name e p4)) (some n) (b0 :: suite) p7] [] [] p8] sg dV kV doc pm an cdv ct), osl⟩) (hcg : PySem.W.codeIn X.K cdv x = true)
    (hb : L2.Binds X.K (PySem.W.fnOf x x pg [.Try [.Return (some (.Call (.Name a p1) [] [] p2)) p3] [.ExceptHandler (some (.Name e p4)) (some n) (b0 :: suite) p7] [] [] p8] sg dV kV doc pm an cdv ct) [a] []) (Sg : FnScope [a, n] [a] sg) (hva : Vis sg a)
    (hc : ∀ s H, Names (hCx X [a, n] x sg g cdv s H) e cx)
    (hsu : ∀ (s : Shared) (H : Hp) (ad : Addr) (oe : Obj) (cls : Value) (dd : Addr) (pn : List (Addr × Obj)) (j : Nat), okc cls → Zc cls (some dd) oe → (∃ vs, oe.data = .fields vs) → SSs (T.known j dd) ((hCx X [a, n] x sg g cdv s H).suite ad ((ad, oe) :: pn)) (b0 :: suite) (sM ad j))
    (hkn : sg.names.lookup n = some .local)
    (TB : LamX.TabB X.base X.mg c P) (hcode : X.env.code = .ref c) (hmT : (P, X.env.qual ++ "<lambda>") ∈ T.tb) (hu : ∀ p ∈ T.tb, p.1 = P → p.2 = X.env.qual ++ "<lambda>") (hr : Room (k + 2) X.A) (L : LamX.LamS X.env.scope scope) (hdef : defaultsOf params X.env = ([], [])) (hbind : ∀ (q : Str) (cl : List (Str × Addr)) (pm cv ctv : Value), bindArgs (PySem.W.kla_fn "<lambda>" q params body scope cl pm cv ctv) ⟨[], []⟩ = pure [])
    (hbody : ∀ (A : Around) (outer : List Env) (s : Shared) (H : Hp) (E : XK) (f c' : Addr), Room k (A.deeper (LamX.lamEnv X scope s.heap.objs.size f c')) → SE T (LamX.lamCx X A outer s H E scope f c') body fb)
    (hg : Gl X x := by rfl) (hdb : (x == ("__debug__" : Str)) = false := by decide) (hd : (a == ("__debug__" : Str)) = false := by decide) (hcd : (a == ("__classdict__" : Str)) = false := by decide) :
    SE T X (.Call (.Name x p) [.Lambda params body scope lpos] [] pos) (mHeard exm su fb) := fun E cn => by
  refine PEi (LamX.pe_lamcall (T := T.tb) (TT := TTh X.K T cx okc sM) (t := fun E' => tE T (fun c d _ H' => E' c d H') fb) hg hm hk lk hcg hb Sg rfl hva (heard_gives Sg.nd hc hsu hkn) TB hcode hmT hu hr L hdef hbind
    (fun A outer s H E' f c' hr' => hbody A outer s H E' f c' hr' _ ⟨takes_of rfl rfl rfl rfl, passes_of rfl⟩) hdb hd hcd) fun s H Q h => heard_read hexm hokc hind h
end
end VL
end
section
namespace VL
open PySem L2 PySem.Spec PyProof.Rows

/-! ### the end of a law -/
section
variable {P : Program} {w : World} {K : PySem.W.Frag} {mg mb : Str → Option Value} {k : Nat} {fa a : Addr} {cs : List (Addr × Addr)} {s1 : Shared} {vs : List Value} {ns : List Int} {T : Tx} {m : MFn}
theorem mem_lookup2 {l : List (Addr × Obj)} {b : Addr} {o : Obj} (h : l.lookup b = some o) : (b, o) ∈ l := by
  induction l with
  | nil => cases h
  | cons p r ih =>
    obtain ⟨c, u⟩ := p
    rw [List.lookup_cons] at h
    by_cases e : b = c
    · subst e
      simp at h
      rw [h]
      exact List.mem_cons_self
    · have e2 : (b == c) = false := by simpa using e
      rw [e2] at h
      exact .tail _ (ih h)
theorem paired_ints {ps : List Addr} : ∀ l : List Int, Paired (WV ps) (l.map W.int) (l.map V.int)
  | [] => .nil
  | _ :: r => .cons rfl (paired_ints r)
/-- the abstract heap at the law's entry: the script, and the tables of code objects -/
def entryH (a : Addr) (o : Obj) (xs : List V) (ts : List Addr) : Hp := fun b => if b = a then some (.frz o (.lst xs)) else if b ∈ ts then some (.tbl #[]) else none
theorem entry_a {o : Obj} {xs : List V} {ts : List Addr} : entryH a o xs ts a = some (.frz o (.lst xs)) := if_pos rfl
theorem entry_t {o : Obj} {xs : List V} {ts : List Addr} {b : Addr} (hb : b ∈ ts) (hn : b ≠ a) : entryH a o xs ts b = some (.tbl #[]) := (if_neg hn).trans (if_pos hb)
theorem entry_n {o : Obj} {xs : List V} {ts : List Addr} {b : Addr} (hb : b ∉ ts) (hn : b ≠ a) : entryH a o xs ts b = none := (if_neg hn).trans (if_neg hb)
theorem entry_some {o : Obj} {xs : List V} {ts : List Addr} {b : Addr} {u : HO} (h : entryH a o xs ts b = some u) : (b = a ∧ u = .frz o (.lst xs)) ∨ (b ≠ a ∧ b ∈ ts ∧ u = .tbl #[]) := by
  by_cases hb : b = a
  · left
    subst hb
    rw [entry_a] at h
    exact ⟨rfl, (Option.some.inj h).symm⟩
  · right
    by_cases ht : b ∈ ts
    · rw [entry_t ht hb] at h
      exact ⟨hb, ht, (Option.some.inj h).symm⟩
    · rw [entry_n ht hb] at h
      cases h
abbrev scrO (vs : List Value) : Obj := { cls := .type "list", data := .seq vs.toArray }
abbrev tabO : Obj := { cls := .none, data := .fields #[] }
theorem law_callV (KX : K.In s1.heap) (gl : s1.heap.Ns mainGlobals mg) (bl : s1.heap.Ns builtinsNs mb) (blb : ∀ x : Str, x ≠ "__name__" → mb x = bootBuiltins x) (lim : s1.heap.NoLimit) (hgens : s1.gens = #[])
    (tabs : ∀ p ∈ cs, s1.heap.get? p.2 = some tabO) (noK : ∀ p ∈ cs, K.lookup p.2 = none) (heads : ∀ p ∈ cs, PySem.W.CodeHd s1.heap p.1 p.2)
    (bmod : ∃ (bm : Addr) (ob : Obj), mg "__builtins__" = some (.ref bm) ∧ bm ≠ builtinsNs ∧ s1.heap.get? bm = some ob ∧ ob.cls = .type "module" ∧ ob.dict = some builtinsNs ∧ ob.data = .plain)
    (scr : s1.heap.get? a = some (scrO vs)) (nis : IntsAre vs ns) (len : ns.length ≤ sizeLine) (room : Room k callerA) (Kl : K.all (fun p => !(p.2.cls == .type "list")) = true)
    (inT : ∀ p ∈ T.tb, p.1 ∈ cs.map (·.2)) (fact : T.C [a]) (F : ∀ base : Heap, K.In base → base.Ns mainGlobals mg → (∀ p ∈ cs, LamX.TabB base mg p.1 p.2) → FnG P w K mg base T k fa 1 m)
    (mir : ∃ h', m [.ref 0] [.rol (ns.map W.int)] = .val (.bl true) h') :
    codeAny (model P w) callerA (.call (.ref fa) ⟨[.ref a], []⟩) (fun r s' => r = .ok (.ret (.bool true)) ∧ OldK s1.heap s'.heap ∧ s'.os = s1.os ∧ AllBare s'.gens) s1 := by
  have rel := vals_ints nis
  have tabAt : ∀ b ∈ cs.map (·.2), s1.heap.get? b = some tabO := fun b hb => by
    obtain ⟨p, hp, rfl⟩ := List.mem_map.mp hb
    exact tabs p hp
  have neT : ∀ b ∈ cs.map (·.2), b ≠ a := fun b hb z => by
    have q := tabAt b hb
    rw [z, scr] at q
    have q2 := congrArg Obj.data (Option.some.inj q)
    cases q2
  have noKa : K.lookup a = none := by
    cases e : K.lookup a with
    | none => rfl
    | some o =>
      have q := KX a o e
      rw [scr] at q
      have mem := mem_lookup2 e
      have z := List.all_eq_true.mp Kl _ mem
      have c : o.cls = .type "list" := by rw [← Option.some.inj q]
      simp [c] at z
  let H : Hp := entryH a (scrO vs) (ns.map V.int) (cs.map (·.2))
  have hok : HOk P w H s1.heap := fun b u e => by
    rcases entry_some e with ⟨rfl, rfl⟩ | ⟨_, ht, rfl⟩
    · exact ⟨scr, by rw [List.length_map]; exact len, vs, _, rel, scr⟩
    · exact tabAt b ht
  -- what is not the script and no table is not tracked
  have free : ∀ {b : Addr} {o : Obj}, s1.heap.get? b = some o → (∀ z n, o.data ≠ .seq z n) → o.data ≠ .fields #[] → H b = none := fun {b o} e n1 n2 => by
    by_cases hb : b = a
    · subst hb
      rw [scr] at e
      cases e
      exact absurd rfl (n1 vs.toArray _)
    · by_cases ht : b ∈ cs.map (·.2)
      · rw [tabAt b ht] at e
        cases e
        exact absurd rfl n2
      · exact entry_n ht hb
  have nsFree : ∀ {b : Addr} {f : Str → Option Value}, s1.heap.Ns b f → (hidT s1.heap H).Ns b f := fun {b f} ⟨o, es, ep, e, d, r⟩ => by
    refine ⟨o, es, ep, hidT_get e (free e (fun z n q => ?_) fun q => ?_), d, r⟩
    · rw [d] at q; cases q
    · rw [d] at q; cases q
  have KB : K.In (hidT s1.heap H) := fun b o e => by
    have nb : b ≠ a := fun z => by rw [z, noKa] at e; cases e
    have nt : b ∉ cs.map (·.2) := fun z => by
      obtain ⟨p, hp, rfl⟩ := List.mem_map.mp z
      rw [noK p hp] at e; cases e
    exact hidT_get (KX b o e) (entry_n nt nb)
  have MD : L2.Mod K mg (hidT s1.heap H) := by
    obtain ⟨mc, l1, l2⟩ := lim
    exact ⟨KB, nsFree gl, ⟨mb, nsFree bl, blb⟩, mc, nsFree l1, l2⟩
  have TB : ∀ p ∈ cs, LamX.TabB (hidT s1.heap H) mg p.1 p.2 := fun p hp => by
    obtain ⟨og, eg, epg, hg0, dg, rg⟩ := id gl
    have tp := tabs p hp
    refine ⟨?_, ?_, fun z => ?_⟩
    · obtain ⟨o, us, file, tf, flags, tg, inF, text, tt, e1, q1, q2, q3, q4, q5, q6, q7, q8, hne⟩ := heads p hp
      refine ⟨o, us, file, tf, flags, tg, inF, text, tt, hidT_get e1 (free e1 (fun z n q => ?_) fun q => ?_), q1, q2, q3, q4, q5, q6, q7, q8, hne⟩
      · rw [q2] at q; cases q
      · rw [q2] at q; cases q; simp at q3
    · obtain ⟨bm, ob, e1, e2, e3, e4, e5, e6⟩ := bmod
      refine ⟨bm, ob, e1, e2, fun z => ?_, fun z => ?_, hidT_get e3 (free e3 (fun z n q => ?_) fun q => ?_), e4, e5, e6⟩
      · rw [z, hg0] at e3; cases e3; rw [dg] at e6; cases e6
      · rw [z, tp] at e3; cases e3; cases e6
      · rw [e6] at q; cases q
      · rw [e6] at q; cases q
    · rw [z, tp] at hg0; cases hg0; cases dg
  have E0 : Env0 P w K mg (hidT s1.heap H) callerA [] s1 H := ⟨rfl, MD, fun b o e => of_hidT e, Nat.le_of_eq (hidT_size _ _), trivial, (fun b hb => by cases hb), hok, .of_eq hgens⟩
  -- the view at the entry
  have view : View T [a] [.rol (ns.map W.int)] H := by
    refine ⟨rfl, by simp, fun i b o e1 e2 => ?_, fun p hp => ?_, fact⟩
    · match i, e1, e2 with
      | 0, e1, e2 =>
        cases e1; cases e2
        refine ⟨ns.map V.int, scrO vs, ?_, entry_a⟩
        exact paired_ints ns
      | i + 1, e1, e2 => simp at e1
    · exact LamX.TabS.nil (entry_t (inT p hp) (neT _ (inT p hp)))
  obtain ⟨h', em⟩ := mir
  have prom : spV T 1 m [.ref a] H (fun v _ => v = .bl true) (fun _ _ _ => False) := ⟨rfl, [a], _, [.ref 0], view, .cons ⟨a, rfl, rfl⟩ .nil, by
    rw [em]
    exact fun qs H' v _ _ wv => wv⟩
  refine codeAny_mono ((F _ KB (nsFree gl) TB).run callerA [] s1 H [.ref a] [.ref a] _ _ room rfl E0 (.cons rfl .nil) prom) fun fin s' hq => ?_
  match fin, hq with
  | .error e, hq =>
    obtain ⟨_, _, _, _, _, _, _, _, _, _, _, _, z⟩ := hq
    exact z.elim
  | .ok .next, hq => exact hq.elim
  | .ok .brk, hq => exact hq.elim
  | .ok .cont, hq => exact hq.elim
  | .ok (.ret u), hq =>
    obtain ⟨v, H2, e1, e2, un, hok2, rv, q⟩ := hq
    cases q
    cases rv
    have kept : ∀ b o, b ∉ cs.map (·.2) → s1.heap.get? b = some o → s'.heap.get? b = some o := fun b o nt e => by
      by_cases hb : b = a
      · subst hb
        have z2 := hok2 b _ (un.frzs b _ _ entry_a)
        rw [scr] at e
        cases e
        exact z2.1
      · exact un.keep b o e (entry_n nt hb) (fun z => by cases z) (fun z => by cases z)
    have grown : ∀ c ∈ cs, ∃ ys : Array Value, s'.heap.get? c.2 = some { cls := .none, data := .fields ys } := fun c hc => by
      have mc : c.2 ∈ cs.map (·.2) := List.mem_map.mpr ⟨c, hc, rfl⟩
      obtain ⟨ys, z⟩ := un.tbls c.2 #[] (entry_t mc (neT _ mc))
      exact ⟨_, hok2 c.2 _ z⟩
    have part : ∀ b, (∃ c, c ∈ cs ∧ c.2 = b) ∨ b ∉ cs.map (·.2) := fun b => (Classical.em (b ∈ cs.map (·.2))).imp List.mem_map.mp id
    refine ⟨rfl, ⟨fun b o e => ?_, fun b o e => ?_⟩, e1, e2⟩
    · rcases part b with ⟨c, hc, rfl⟩ | nb
      · obtain ⟨ys, hy⟩ := grown c hc
        rw [tabs c hc] at e; cases e
        exact .inr (.inl ⟨((heads c hc).tab (tabs c hc)).isCodeTable, rfl, #[], ys, rfl, by rw [Array.empty_append]; exact hy⟩)
      · exact .inl (kept b o nb e)
    · rcases part b with ⟨c, hc, rfl⟩ | nb
      · obtain ⟨ys, hy⟩ := grown c hc; exact ⟨_, hy⟩
      · exact ⟨o, kept b o nb e⟩
end
end VL
end
section
namespace VL
open PySem L2 PySem.Spec PyProof.Rows

/-! ### {} -/
section
variable {T : Tx} {X : Cx} {pos : Pos}
theorem se_dict0 : SE T X (.Dict [] [] pos) (fun _ h => mNew (.dic []) h) := fun E cn => PEi pe_dnewK fun s H Q ⟨ps, r, h, es, vw, gd⟩ p hp => good_new vw gd (fun H' p' e => ⟨[], .nil, e⟩) hp
/-! ### repr, {} too -/
def mReprE : MFn := fun ws h => match ws with
  | [.ref p] => (match h[p]? with
    | some (.dic []) => .val (.str ("{}" : Str)) h
    | _ => mRepr ws h)
  | _ => mRepr ws h
def rReprE (K : PySem.W.Frag) : List V → Hp → VK → Prop := fun xs H Q => (∃ a, xs = [.ref a] ∧ H a = some (.dK []) ∧ Q (.str ("{}" : Str)) H) ∨ rRepr K xs H Q
theorem rc_reprE : RC T (rReprE X.K) mReprE := by
  intro ps h H ws vs Q E vw wv gd
  unfold mReprE at gd
  split at gd
  · split at gd
    · rename_i e1
      obtain ⟨v, rfl, a, ea, rfl⟩ := one_of wv
      obtain ⟨kv, rr, eH⟩ := vw.ob _ a _ ea e1
      cases rr
      exact .inl ⟨a, rfl, eH, Good.now gd vw rfl⟩
    · exact .inr (rc_repr ps h H _ vs Q E vw wv gd)
  · exact .inr (rc_repr ps h H _ vs Q E vw wv gd)
theorem call_reprE (hg : X.A.guards = some []) (hu : X.A.units + 64 < cLine) : CallR X (.builtin "repr") (rReprE X.K) := by
  intro pins s σ H xs us Q I r h; rcases h with ⟨a, rfl, ea, q⟩ | h
  · obtain ⟨u, rfl, ru⟩ := vals1 r
    cases ru
    have hob : ObjOk X.prog X.w H s.heap a (.dK []) := I.hok a _ ea
    obtain ⟨_, hsm, kv, rkv, o, es, ep, h1, h2, h3, h4, h5, _⟩ := hob
    cases rkv
    have e0 : es.toList = [] := by
      cases q : es.toList with
      | nil => rfl
      | cons a b => rw [q] at h5; cases h5
    have rd : Reads s.heap (.ref a) (.dict []) ([a] ++ [] ++ []) := .dict (kvs := []) h1 h2.1 h3 (by rw [e0]; exact .nil) (by rw [e0]; exact .nil)
    have ns : sysModules ∉ ([a] ++ [] ++ [] : List Addr) := by
      have z : ¬ a = sysModules := by simpa using hsm
      simpa using fun q => z q.symm
    have sh : (PyData.dict []).shown = ("{}" : Str) := by decide +kernel
    have dp : (PyData.dict []).depth ≤ 60 := by decide +kernel
    have un : X.A.units + ((PyData.dict []).depth + 1) < cLine := by omega
    refine repr_of_reads' rd (by decide +kernel) (fun _ => ns) hg un (fun _ _ e => e) (fun h' u tk hk => ?_) (by rw [sh]; decide)
    rw [sh]
    exact ⟨.str _, H, I.kept hk, ⟨_, rfl⟩, q⟩
  · exact call_reprD hg hu pins s σ H xs us Q I r h
end

/-! ### a suite that returns an expression -/
theorem hind_ret {i : Nat} {fA : Addr → Nat → Ws → Hv → Res W} {f : Nat → Ws → Hv → Res W} (hf : ∀ a j r h, i < r.length → fA a j (r.set i (some (.fix a))) h = f j r h) (a : Addr) (j : Nat) (r : Ws) (h : Hv) (w : W) (h2 : Hv) (hl : i < r.length)
    (e : mRet (f j) r h = .rt w h2) : mRet (fA a j) (r.set i (some (.fix a))) h = .rt w h2 := by
  unfold mRet at e ⊢
  rw [hf a j r h hl]
  cases q : f j r h with
  | val w1 h1 => rw [q] at e; exact e
  | exc c d h1 => rw [q] at e; cases e
  | bad => rw [q] at e; cases e
theorem mXfA_at {i : Nat} {a : Addr} {j : Nat} {f : Str} {r : Ws} {h : Hv} (hl : i < r.length) : mXfA i a j f (r.set i (some (.fix a))) h = mXf j f r h := by
  unfold mXfA
  rw [List.getElem?_set_self hl]
  simp [mXf]
/-- the errors of these classes are taken -/
def exmC (cs : List String) : String → Option Bool := fun n => if cs.contains n then some true else none
theorem exmC_ok {K : PySem.W.Frag} {T : Tx} {n : String} {v : Value} (h : PySem.W.exmOne K (T.cv n) v = some true) : ∀ m b, exmC [n] m = some b → PySem.W.exmOne K (T.cv m) v = some b := fun m b e => by
  unfold exmC at e
  split at e
  · rename_i z
    have z2 : m = n := by simpa using z
    subst z2
    cases e
    exact h
  · cases e
theorem exmC_c {n m : String} (e : exmC [n] m = some true) : m = n := by
  unfold exmC at e
  split at e
  · rename_i z
    simpa using z
  · cases e
/-! ### a call that needs nothing of the view, and hands back a plain value -/
def plainW : W → Bool
  | .ref _ => false
  | _ => true
def mFresh (m : MFn) : Ws → Hv → Res W := fun _ h => match m [] [] with
  | .val w _ => if plainW w then .val w h else .bad
  | _ => .bad
theorem plainW_any {w : W} (hp : plainW w = true) {ps qs : List Addr} {v : V} (h : WV ps w v) : WV qs w v := by
  cases w with
  | ref i => cases hp
  | non => exact h
  | bl b => exact h
  | int b => exact h
  | str b => exact h
  | fix b => exact h
  | ty b => exact h
theorem View.nil {T : Tx} {ps : List Addr} {h : Hv} {H : Hp} (v : View T ps h H) (hC : T.C []) : View T [] [] H := ⟨rfl, List.nodup_nil, fun i a o e _ => by simp at e, v.tab, hC⟩
theorem View.over {T : Tx} {ps qs : List Addr} {h h' : Hv} {H H1 : Hp} (v : View T ps h H) (s : Step [] H qs H1) (v1 : View T qs h' H1) : View T ps h H1 ∧ Step ps H ps H1 := by
  have keep : ∀ a o, H a = some o → (∀ z, o ≠ .tbl z) → H1 a = some o := fun a o e ht => s.fr a o e ht (by simp)
  refine ⟨⟨v.len, v.nd, fun i a o e1 e2 => ?_, v1.tab, v.fact⟩, ⟨List.prefix_refl _, fun _ _ h n _ => absurd h n, fun a o e ht _ => keep a o e ht⟩⟩
  have q := v.ob i a o e1 e2
  obtain ⟨u, hu, ht⟩ := q.there
  exact q.put fun u' hu' => by
    rw [hu] at hu'
    cases hu'
    exact keep a u hu ht
section
variable {T : Tx} {X : Cx} {f : Addr} {m : MFn} {x : Str} {p pos : Pos}
theorem se_fresh (C : Can T X f 0 m) (hC : T.C []) (hg : Gl X x) (hm : X.mg x = some (.ref f)) (hk : PySem.W.keepIn X.K (.ref f) = true) (hdb : (x == ("__debug__" : Str)) = false := by decide) : SE T X (.Call (.Name x p) [] [] pos) (mFresh m) := fun E cn => ⟨fun pins s σ H Q I h => by
  refine wpAny_Call_Name_kw (ld_glob (X := X) I hg hm ?_ hdb)
  obtain ⟨ps, r, hv, es, vw, gd⟩ := h
  refine PySem.W.callWith_K0 I.kIn hk (C.wp (us := []) cn I .nil ⟨rfl, [], [], [], vw.nil hC, .nil, ?_⟩)
  unfold mFresh at gd
  cases q : m [] [] with
  | bad => rw [q] at gd; exact gd.elim
  | exc c d h1 => rw [q] at gd; exact gd.elim
  | val w h1 =>
    rw [q] at gd
    dsimp only at gd
    split at gd
    · rename_i hp
      intro qs H' v st vw' wv
      obtain ⟨v2, s2⟩ := vw.over st vw'
      exact gd ps H' v s2 v2 (plainW_any hp wv)
    · exact gd.elim⟩
end

/-! ### the walk -/
/-- what is known of the law at the head's heap h -/
def LawV (l : PySem.W.OpenLaw) (w : World) (K : PySem.W.Frag) (k n : Nat) (mg : Str → Option Value) (fa : Addr) (h : Heap) : Prop :=
  ∃ (cs : List (Addr × Addr)) (T : Tx) (m : MFn), (∀ p ∈ cs, h.get? p.2 = some tabO) ∧ (∀ p ∈ cs, K.lookup p.2 = none) ∧ (∀ p ∈ cs, PySem.W.CodeHd h p.1 p.2) ∧ K.all (fun p => !(p.2.cls == .type "list")) = true ∧ (∀ p ∈ T.tb, p.1 ∈ cs.map (·.2)) ∧ (∀ a, T.C [a]) ∧
    (∀ base : Heap, K.In base → base.Ns mainGlobals mg → (∀ p ∈ cs, LamX.TabB base mg p.1 p.2) → FnG l.prog w K mg base T k fa 1 m) ∧
    ∀ ns : List Int, ns.length ≤ n → (∀ z ∈ ns, Builtin.Int.intBits z ≤ 1048576) → ∃ h', m [.ref 0] [.rol (ns.map W.int)] = .val (.bl true) h'
theorem walk_V {l : PySem.W.OpenLaw} {n k : Nat} {q : Program} {loose : List Str} {XP : (Str → Option Value) → Heap → Prop} {YP : World → Heap → Prop} {d : DefRec} {K : Params → PySem.W.Frag} (hn : l.most = some n) (hn2 : n ≤ sizeLine) (hdf : d.params.defaults = []) (hr : Room k callerA)
    (hY : ∀ (w : World) (h : Heap), YP w h → (K w.params).In h) (F : ∀ (w : World) (mg : Str → Option Value) (fa : Addr) (h : Heap), YP w h → (K w.params).In h → h.Ns mainGlobals mg → mg d.name = some (.ref fa) → LawV l w (K w.params) k n mg fa h) :
    PySem.W.WalkO q loose XP YP l.row.toRowW d [] (fun f vs => PySem.call f vs) := Att.attach_callB hn hdf fun w s0 s1 mg mb fa o pm cd doc a vs ns G Y ho hd hcd hmg hobj hints hlen hbits hg => by
  have KX := hY w _ Y
  obtain ⟨cs, T, m, h1, h2, h3, h4, h5, h6, h7, h8⟩ := F w mg fa _ Y KX G.T.g hmg
  exact law_callV KX G.T.g G.T.b G.T.builtins G.T.nolimit hg h1 h2 h3 G.T.bmain hobj hints (Nat.le_trans hlen hn2) hr h4 h5 (h6 a) h7 (h8 ns hlen hbits)
end VL
end
section
namespace VL
open PySem L2
/-! ### the mirrors' operations on known values -/
section
variable {i j : Int} {h : Hv}
@[simp] theorem mAdd_int : mAdd (.int i) (.int j) h = .val (.int (i + j)) h := rfl
@[simp] theorem mSub_int : mSub (.int i) (.int j) h = .val (.int (i - j)) h := rfl
theorem mMul_int (hb : i.natAbs.log2 + j.natAbs.log2 < 1000000) : mMul (.int i) (.int j) h = .val (.int (i * j)) h := by
  simp [mMul, mulB, hb]
theorem mDiv_int (h1 : j ≠ 0) (h2 : j.natAbs.log2 < 9000) : mDiv (.int i) (.int j) h = .val (.int (i.fdiv j)) h := by
  simp [mDiv, mI, divB, h1, h2]
theorem mMod_int (h1 : j ≠ 0) : mMod (.int i) (.int j) h = .val (.int (i.fmod j)) h := by
  simp [mMod, mI, h1]
theorem mPow_int (h1 : 0 ≤ j) (h2 : j ≤ 1000000) (h3 : i.natAbs < 2 ^ 64) : mPow (.int i) (.int j) h = .val (.int (i ^ j.toNat)) h := by
  have e : powB i j = true := by
    simp only [powB, Bool.and_eq_true, decide_eq_true_eq]
    exact ⟨h1, h2, h3⟩
  simp [mPow, mI, e]
@[simp] theorem mLt_int : mLt (.int i) (.int j) h = .val (.bl (decide (i < j))) h := rfl
@[simp] theorem mLe_int : mLe (.int i) (.int j) h = .val (.bl (decide (i ≤ j))) h := rfl
@[simp] theorem mGt_int : mGt (.int i) (.int j) h = .val (.bl (decide (j < i))) h := rfl
@[simp] theorem mGe_int : mGe (.int i) (.int j) h = .val (.bl (decide (j ≤ i))) h := rfl
@[simp] theorem mNeg_int : mNeg (.int i) h = .val (.int (-i)) h := rfl
@[simp] theorem mAbs_int : mAbs [.int i] h = .val (.int (i.natAbs : Int)) h := by
  have e : (if i < 0 then -i else i) = (i.natAbs : Int) := by split <;> omega
  simp [mAbs, e]
@[simp] theorem mMax_int : mMax [.int i, .int j] h = .val (.int (max i j)) h := by
  have e : (if j > i then j else i) = max i j := by split <;> omega
  simp [mMax, e]
@[simp] theorem mInt_int : mInt [.int i] h = .val (.int i) h := rfl
@[simp] theorem mInt_bl {b : Bool} : mInt [.bl b] h = .val (.int (if b then 1 else 0)) h := rfl
theorem shaped_int (i : Int) : SeqAt.shaped (.int i) = true := by
  simp [SeqAt.shaped, PyData.canLay0, PyData.depth]
theorem shaped_bool (b : Bool) : SeqAt.shaped (.bool b) = true := by
  simp [SeqAt.shaped, PyData.canLay0, PyData.depth]
@[simp] theorem mEq_int : mEq false (.int i) (.int j) h = .val (.bl (decide (i = j))) h := by
  have e1 : toD dF h (.int i) = some (.int i) := rfl
  have e2 : toD dF h (.int j) = some (.int j) := rfl
  simp [mEq, e1, e2, shaped_int, PyData.eqv, Bool.beq_eq_decide_eq]
@[simp] theorem mNe_int : mEq true (.int i) (.int j) h = .val (.bl (decide (i ≠ j))) h := by
  have e1 : toD dF h (.int i) = some (.int i) := rfl
  have e2 : toD dF h (.int j) = some (.int j) := rfl
  simp [mEq, e1, e2, shaped_int, PyData.eqv, Bool.beq_eq_decide_eq]
@[simp] theorem mNe_bl {a b : Bool} : mEq true (.bl a) (.bl b) h = .val (.bl (decide (a ≠ b))) h := by
  have e1 : toD dF h (.bl a) = some (.bool a) := rfl
  have e2 : toD dF h (.bl b) = some (.bool b) := rfl
  cases a <;> cases b <;> simp [mEq, e1, e2, shaped_bool, PyData.eqv]
end
/-! ### and of the pieces -/
section
variable {α β : Type} {a : α} {h : Hv} {k : α → Hv → Res β} {ks : α → Hv → ResS} {r : Ws} {c : String} {d : Option Nat}
@[simp] theorem bind_val : (Res.val a h).bind k = k a h := rfl
@[simp] theorem bind_exc : (Res.exc c d h : Res α).bind k = .exc c d h := rfl
@[simp] theorem andS_val : (Res.val a h).andS r ks = ks a h := rfl
@[simp] theorem andS_exc : (Res.exc c d h : Res α).andS r ks = .exc c d r h := rfl
@[simp] theorem asB_bl {b : Bool} : asB (.bl b) h = .val b h := rfl
@[simp] theorem mC_eq {w : W} : mC w r h = .val w h := rfl
@[simp] theorem mNil_eq : mNil r h = .val [] h := rfl
@[simp] theorem mNext_eq : mNext r h = .nx r h := rfl
@[simp] theorem m2_eq {g : MOp} {fa fb : Ws → Hv → Res W} : m2 g fa fb r h = (fa r h).bind fun x h1 => (fb r h1).bind fun y h2 => g x y h2 := rfl
@[simp] theorem m1_eq {g : W → Hv → Res W} {fa : Ws → Hv → Res W} : m1 g fa r h = (fa r h).bind g := rfl
@[simp] theorem mCons_eq {f : Ws → Hv → Res W} {g : Ws → Hv → Res (List W)} : mCons f g r h = (f r h).bind fun w h1 => (g r h1).bind fun ws h2 => .val (w :: ws) h2 := rfl
@[simp] theorem mB_eq {m : MFn} {g : Ws → Hv → Res (List W)} : mB m g r h = (g r h).bind m := rfl
@[simp] theorem mT_eq {f : Ws → Hv → Res W} : mT f r h = (f r h).bind asB := rfl
@[simp] theorem mNotT_eq {t : Ws → Hv → Res Bool} : mNotT t r h = (t r h).bind fun b h1 => .val (!b) h1 := rfl
@[simp] theorem mAndT_eq {t u : Ws → Hv → Res Bool} : mAndT t u r h = (t r h).bind fun b h1 => if b then u r h1 else .val false h1 := rfl
@[simp] theorem mOrT_eq {t u : Ws → Hv → Res Bool} : mOrT t u r h = (t r h).bind fun b h1 => if b then .val true h1 else u r h1 := rfl
@[simp] theorem mNotV_eq {f : Ws → Hv → Res W} : mNotV f r h = (mT f r h).bind fun b h1 => .val (.bl (!b)) h1 := rfl
@[simp] theorem mAndV_eq {f g : Ws → Hv → Res W} : mAndV f g r h = (mT f r h).bind fun b h1 => if b then g r h1 else .val (.bl false) h1 := rfl
@[simp] theorem mOrV_eq {f g : Ws → Hv → Res W} : mOrV f g r h = (mT f r h).bind fun b h1 => if b then .val (.bl true) h1 else g r h1 := rfl
@[simp] theorem mIf_eq {t : Ws → Hv → Res Bool} {f g : Ws → Hv → Res W} : mIf t f g r h = (t r h).bind fun b h1 => if b then f r h1 else g r h1 := rfl
@[simp] theorem mExpr_eq {f : Ws → Hv → Res W} : mExpr f r h = (f r h).andS r fun _ h1 => .nx r h1 := rfl
@[simp] theorem mRet_eq {f : Ws → Hv → Res W} : mRet f r h = (f r h).andS r fun w h1 => .rt w h1 := rfl
@[simp] theorem mSet_eq {i : Nat} {f : Ws → Hv → Res W} : mSet i f r h = (f r h).andS r fun w h1 => .nx (r.set i (some w)) h1 := rfl
@[simp] theorem mIfS_eq {t : Ws → Hv → Res Bool} {f g : MS} : mIfS t f g r h = (t r h).andS r fun b h1 => if b then f r h1 else g r h1 := rfl
@[simp] theorem mTup_eq {g : Ws → Hv → Res (List W)} : mTup g r h = (g r h).bind fun ws h1 => if ws.length ≤ 100000 then mNew (.tup ws) h1 else .bad := rfl
@[simp] theorem mLst_eq {g : Ws → Hv → Res (List W)} : mLst g r h = (g r h).bind fun ws h1 => if ws.length ≤ 100000 then mNew (.lst ws) h1 else .bad := rfl
@[simp] theorem mCall_eq {n : Nat} {m : MFn} {g : Ws → Hv → Res (List W)} : mCall n m g r h = (g r h).bind fun ws h1 => if ws.length = n then m ws h1 else .bad := rfl
@[simp] theorem mNew_eq {o : O} : mNew o h = .val (.ref h.length) (h ++ [o]) := rfl
@[simp] theorem mGn_eq {i : Nat} {w : W} : mGn i w r h = .nx (r.set i (some w)) h := rfl
/-- one statement behind another -/
def thenS (x : ResS) (g : MS) : ResS := match x with
  | .nx r1 h1 => g r1 h1
  | y => y
@[simp] theorem mSeq_eq {f g : MS} : mSeq f g r h = thenS (f r h) g := rfl
@[simp] theorem thenS_nx {g : MS} : thenS (.nx r h) g = g r h := rfl
@[simp] theorem thenS_rt {g : MS} {w : W} : thenS (.rt w h) g = .rt w h := rfl
@[simp] theorem thenS_exc {g : MS} : thenS (.exc c d r h) g = .exc c d r h := rfl
/-- a def's end -/
def endS (x : ResS) : Res W := match x with
  | .rt w h1 => .val w h1
  | .nx _ h1 => .val .non h1
  | .exc c d _ h1 => .exc c d h1
  | _ => .bad
theorem mDef_eq {N : List Str} {b : MS} {ws : List W} : mDef N b ws h = endS (b (startW N ws) h) := by
  unfold mDef endS
  rfl
@[simp] theorem endS_rt {w : W} : endS (.rt w h) = .val w h := rfl
@[simp] theorem endS_nx : endS (.nx r h) = .val .non h := rfl
@[simp] theorem endS_exc : endS (.exc c d r h) = .exc c d h := rfl
end
@[simp] theorem mVar0 {w : W} {r : Ws} {h : Hv} : mVar 0 (some w :: r) h = .val w h := rfl
@[simp] theorem mVarS {i : Nat} {x : Option W} {r : Ws} {h : Hv} : mVar (i + 1) (x :: r) h = mVar i r h := rfl
/-! ### items -/
theorem mIx_tup {p : Nat} {h : Hv} {xs : List W} {i : Int} {w : W} (e : h[p]? = some (.tup xs)) (ei : atI xs i = some w) : mIx (.ref p) (.int i) h = .val w h := by
  simp [mIx, e, ei, ofO]
theorem mIx_lst {p : Nat} {h : Hv} {xs : List W} {i : Int} {w : W} (e : h[p]? = some (.lst xs)) (ei : atI xs i = some w) : mIx (.ref p) (.int i) h = .val w h := by
  simp [mIx, e, ei, ofO]
@[simp] theorem atI0 {α : Type} {x : α} {xs : List α} : atI (x :: xs) 0 = some x := atI_nat (j := 0) rfl
@[simp] theorem atI1 {α : Type} {x y : α} {xs : List α} : atI (x :: y :: xs) 1 = some y := atI_nat (j := 1) rfl
theorem get_last {h : Hv} {o : O} : (h ++ [o])[h.length]? = some o := by simp
theorem get_old {h : Hv} {t : Hv} {p : Nat} {o : O} (e : h[p]? = some o) : (h ++ t)[p]? = some o := by
  rw [List.getElem?_append_left (List.getElem?_eq_some_iff.mp e).1]
  exact e
end VL
end
section
/-! ### isinstance of a caught error that bears fields -/
namespace VX
open PySem PySem.W PySem.Spec PySem.Calls PyProof.Rows
variable {prog : Program} {w : World} {A : Around} {E : Value → Shared → Prop} {s : Shared} {K : Frag} {x D : Addr} {ox : Obj} {od : Option Obj}
theorem found_cls (Z : L2.ExcC K D) : findObj K D od "__class__" = some (.bind (.builtin "getset_descriptor.__get__") (.builtin "object.__class__")) := by
  obtain ⟨cd, hc, _⟩ := any_some Z.hd
  simp only [findObj, hc, Z.ha, Z.hn, Z.ht, Option.bind_some]
theorem cls_of {Q : Option Value → Shared → Prop} (Z : L2.ExcC K D) (X : K.In s.heap) (I : W.InstAt s.heap x ox D od) (h : Q (some (.ref D)) { s with toks := s.toks + 1 }) : wpAny (model prog w) A (getAttr? (.ref x) "__class__") Q E s := by
  obtain ⟨hp, g, d, t, os⟩ := s
  have T0 := I.type (M := model prog w)
  have T1 := looks_findIn (M := model prog w) X Z.hg
  have T2 := looks_findIn (M := model prog w) X Z.hk
  have T3 := looks_find (M := model prog w) X I (found_cls (od := od) Z)
  have sb : Looks (model prog w) hp (isInstance (.ref x) (.type "BaseException")) true := T0.andThen (looks_subIn X Z.hs)
  have n0 : (false && onTheHeap (Value.builtin "BaseException.__getattribute__")) = false := rfl
  have n2 : (Value.builtin "BaseException.__getattribute__" == Value.builtin "object.__getattribute__") = false := by decide +kernel
  have n1 : (onTheHeap (Value.ref D) && Value.builtin "BaseException.__getattribute__" == Value.builtin "object.__getattribute__") = false := by rw [n2, Bool.and_false]
  unfold getAttr? getAttrBy? getAttrBy; refine wpAny_bind (wpAny_mkText (wpAny_bind (wpAny_attempt (wpAny_holding (wpAny_bind (T0.at (wpAny_bind (T1.at ?_))))))))
  show wpAny _ _ (if (onTheHeap (Value.ref D) && Value.builtin "BaseException.__getattribute__" == Value.builtin "object.__getattribute__") = true then _ else _) _ _ _; rw [n1, if_neg Bool.false_ne_true]
  unfold getAttrByItsOwn hookBefore; refine wpAny_bind ?_
  rw [if_pos (show onTheHeap (Value.ref D) = true from rfl)]; refine T2.at (wpAny_bind (wpAny_attempt (wpAny_holding ?_)))
  unfold callGetattribute; rw [n0, if_neg Bool.false_ne_true]
  unfold boundAndCalled; rw [PySem.F.excAttr_ValueError.ga.bind (.ref x)]
  refine wpAny_bind (wpAny_pure ?_); show wpAny _ _ (call (.builtin "BaseException.__getattribute__") [.ref x, .str "__class__" t]) _ _ _
  refine wpAny_call (codeAny_call_builtin PySem.F.excAttr_ValueError.ga.plain PySem.F.entry_bexc_ga ?_); refine @check_slot (model prog w) _ _ ⟨hp, g, d, t + 1, os⟩ "BaseException.__getattribute__" "BaseException" "__getattribute__" (.ref x) [.str "__class__" t] [] _ (by decide +kernel) (by decide +kernel) sb (PySem.F.args_bexc_ga (.ref x) (.str "__class__" t)) ?_
  unfold Builtin.«object.__getattribute__»; refine wpAny_bind (wpAny_of_eq (a := ((Value.ref x : Value), [Value.str "__class__" t])) (by first | rfl | (simp only [slotArgs]; rfl)) ?_)
  refine wpAny_bind (wpAny_pure (wpAny_bind (T0.at (wpAny_bind (T3.at ?_))))); show wpAny _ _ (holding [Value.builtin "object.__class__"] (call (.builtin "getset_descriptor.__get__") [.builtin "object.__class__", .ref x, .ref D]) >>= ret) _ _ _
  refine wpAny_bind (wpAny_holding (wpAny_call (class_get (s := ⟨hp, g, d, t + 1, os⟩) (ox := ox) (od := od) X I Z.hm ?_))); refine wpAny_pure ?_
  show wpAny _ _ (handedOut (.ref D)) _ _ _; rw [handedOut_of (v := .ref D) rfl]
  first | exact wpAny_pure (wpAny_pure h) | exact wpAny_pure h | exact wpAny_pure (wpAny_bind (wpAny_pure (wpAny_pure h)))
theorem kit_of (Z : L2.ExcC K D) : KitX K (.ref x) (.ref D) (fun h => ∃ od, W.InstAt h x ox D od) where
  ty := fun _ _ _ ⟨_, I⟩ => I.type
  it := fun M h X _ => by
    obtain ⟨cd, hc, _⟩ := any_some Z.hd
    unfold clsIn at hc; split at hc
    · rename_i c1 d1 cd1 sl1 ho; intro A1 Q1 E1 s1 k q; unfold isType loadHead; exact wpAny_bind (wpAny_loadPart (k _ _ (X _ _ ho)) (wpAny_pure q))
    · cases hc
  ne := fun h tp dd its n sl X htp => (W.handS_kitx_exc (x := x) (ox := ox) Z.hg Z.hk Z.hs Z.hd Z.ha Z.hn Z.ht Z.hm).ne h tp dd its n sl X htp
  ca := fun X ⟨od, I⟩ k => cls_of Z X I k
end VX
namespace VL
open PySem L2 PySem.Spec PyProof.Rows
/-- isinstance(e, c), e the caught error, its fields at dd -/
def rIsF (K : PySem.W.Frag) (D a dd : Addr) : List V → Hp → VK → Prop := fun xs H Q => ∃ (c : V) (cv : Value) (b : Bool) (fs : List (Str × V)), xs = [.ref a, c] ∧ (∀ u, RelV c u → u = cv) ∧ PySem.W.kitOne K (.ref D) cv = some b ∧ H dd = some (.xd fs) ∧ Q (.bl b) H
theorem call_isF {X : Cx} {a D dd : Addr} {oe : Obj} {pn : List (Addr × Obj)} (Z : ExcC X.K D) (hz : Zc (.ref D) (some dd) oe) (hf : ∃ vs, oe.data = .fields vs) : CallR (X.suite a ((a, oe) :: pn)) (.builtin "isinstance") (rIsF X.K D a dd) := by
  intro pins s σ H xs us Q I r h; obtain ⟨c, cv, b, fs, rfl, hcv, e, ea, q⟩ := h
  cases r with
  | cons rx rr => cases rr with
    | cons rt rr =>
      cases rr; cases rx; obtain rfl := hcv _ rt
      obtain ⟨hget, _⟩ := I.pin (a, oe) (List.mem_append_left _ List.mem_cons_self)
      obtain ⟨vs, hv⟩ := hf
      have hx : ObjOk X.prog X.w H s.heap dd (.xd fs) := I.hok dd _ ea
      obtain ⟨mA, hns, hr⟩ := hx
      obtain ⟨od, ho, hl⟩ := lookIn_ns hns; have J : PySem.W.InstAt s.heap a oe D (some od) := ⟨hget, hz.1, (by unfold PySem.W.notCls; rw [hv] <;> rfl), (by rw [hz.2]; exact ho)⟩
      exact PySem.W.kia_one (VX.kit_of (x := a) (ox := oe) Z) I.kIn ⟨_, J⟩ e (fun z => nomatch z) fun tk => ⟨.bl b, H, I.kept (t' := tk) fun _ _ z => z, rfl, q⟩
def mIsx (j : Nat) (b : Bool) : Ws → Hv → Res W := fun _ h => match h[j]? with
  | some (.xd _) => .val (.bl b) h
  | _ => .bad
def mIsxA (i : Nat) (a : Addr) (j : Nat) (b : Bool) : Ws → Hv → Res W := fun r h => match r[i]? with
  | some (some (.fix c)) => if c = a then mIsx j b r h else .bad
  | _ => .bad
section
variable {T : Tx} {X : Cx}
theorem mIsxA_at {i : Nat} {a : Addr} {j : Nat} {b : Bool} {r : Ws} {h : Hv} (hl : i < r.length) : mIsxA i a j b (r.set i (some (.fix a))) h = mIsx j b r h := by
  unfold mIsxA
  rw [List.getElem?_set_self hl]
  simp [mIsx]
theorem se_isx (i : Nat) {a dd C : Addr} {oe : Obj} {cls : Value} {pn : List (Addr × Obj)} {j : Nat} {b : Bool} {n : Str} {p pn1 pos : Pos} {ec : Expr} {c : V} {cv : Value} (Z : ExcC X.K C) (hz : Zc cls (some dd) oe) (hf : ∃ vs, oe.data = .fields vs) (hcls : cls = .ref C)
    (hgi : Gl (X.suite a ((a, oe) :: pn)) "isinstance") (hmi : X.mg "isinstance" = none) (hc : PE (X.suite a ((a, oe) :: pn)) ec (tC c)) (hcv : ∀ u, RelV c u → u = cv) (hk : PySem.W.kitOne X.K (.ref C) cv = some b)
    (hN : X.N[i]? = some n := by rfl) (hv : Vis X.env.scope n := by first | exact Or.inl rfl | exact Or.inr (Or.inl rfl) | exact Or.inr (Or.inr rfl)) (hd : (n == ("__debug__" : Str)) = false := by decide) (hcd : (n == ("__classdict__" : Str)) = false := by decide)
    (hs1 : starEach [.Name n pn1, ec] X.env = (false, eval (.Name n pn1) X.env) :: starEach [ec] X.env := by rfl) (hs2 : starEach [ec] X.env = (false, eval ec X.env) :: starEach [] X.env := by rfl) (hpl : (backTo pos (starEach [ec] X.env)).any (·.1) = false := by rfl) :
    SE (T.known j dd) (X.suite a ((a, oe) :: pn)) (.Call (.Name "isinstance" p) [.Name n pn1, ec] [] pos) (mIsxA i a j b) := fun E cn =>
  PEi (pe_callB (call_isF (pn := pn) (dd := dd) Z (hcls ▸ hz) hf) hgi hmi (by decide +kernel) (pa_cons (pe_var (X := X.suite a ((a, oe) :: pn)) (i := i) hN hv hd hcd) (pa_cons hc pa_nil hs2) hs1) (by decide) (by decide) hs1 hpl) fun s H Q ⟨ps, r, hv, es, vw, gd⟩ => by
    unfold mIsxA at gd
    split at gd
    · rename_i b2 eb
      split at gd
      · rename_i hba
        subst hba
        obtain ⟨v, e1, e2⟩ := es.2 i _ eb
        cases e2
        unfold mIsx at gd
        split at gd
        · rename_i fs ej
          have ed : ps[j]? = some dd := vw.fact.2
          obtain ⟨vs, rr, eH⟩ := vw.ob _ dd _ ed ej
          exact ⟨_, e1, c, cv, b, vs, rfl, hcv, hk, eH, Good.now gd vw rfl⟩
        · exact gd.elim
      · exact gd.elim
    · exact gd.elim
end
/-! ### xs[::-1] -/
def mRevO (w : W) (h : Hv) : Res W := match w with
  | .ref p => (match h[p]? with
    | some (.lst xs) => mNew (.lst xs.reverse) h
    | some (.rol xs) => mNew (.lst xs.reverse) h
    | _ => .bad)
  | _ => .bad
def mRev (f : Ws → Hv → Res W) : Ws → Hv → Res W := fun r h => (f r h).bind mRevO
section
variable {T : Tx} {X : Cx} {e : Expr} {f : Ws → Hv → Res W}
theorem paired_rev {ps : List Addr} : ∀ {xs : List W} {ys : List V}, Paired (WV ps) xs ys → Paired (WV ps) xs.reverse ys.reverse
  | _, _, .nil => .nil
  | _, _, .cons r t => by
    simp only [List.reverse_cons]
    exact paired_app (paired_rev t) (.cons r .nil)
theorem se_rev {k : Nat} {p1 p2 p3 pos : Pos} (he : SE T X e f) : SE T X (.Subscript e (.Slice none none (some (.UnaryOp .USub (.Constant (.int 1) k p1) p2)) p3) pos) (mRev f) := fun E cn => PEi (pe_revL (he E cn)) fun s H Q ⟨ps, r, hv, es, vw, gd⟩ => by
  refine ⟨ps, r, hv, es, vw, (Good.bind (R := WV) (S := WV) gd).imp (fun v H1 q => ?_) fun _ _ _ z => z⟩
  obtain ⟨qs, w, h1, st, vw1, wv, g1⟩ := q
  unfold mRevO at g1
  split at g1
  · obtain ⟨a, ea, rfl⟩ := wv
    split at g1
    · rename_i xs e1
      obtain ⟨vs, rr, eH⟩ := vw1.ob _ a _ ea e1
      exact ⟨a, vs, rfl, SqL.of eH, fun p hp => good_new vw1 g1 (fun H' p' e => ⟨_, paired_rev rr, e⟩) hp⟩
    · rename_i xs e1
      obtain ⟨vs, ob, rr, eH⟩ := vw1.ob _ a _ ea e1
      exact ⟨a, vs, rfl, .inl (.inr ⟨ob, eH⟩), fun p hp => good_new vw1 g1 (fun H' p' e => ⟨_, paired_rev rr, e⟩) hp⟩
    · exact g1.elim
  · exact g1.elim
/-! ### str of a whole number -/
def mStrI : MFn := fun ws h => match ws with
  | [.int i] => if i.natAbs.log2 < 1920 then .val (.str (Str.ofString (toString i))) h else .bad
  | _ => .bad
theorem rc_strI : RC T (fun xs H Q => ∃ i, xs = [.int i] ∧ i.natAbs.log2 < 1920 ∧ Q (.str (toString i)) H) mStrI := by
  intro ps h H ws vs Q E vw wv gd
  unfold mStrI at gd
  split at gd
  · split at gd
    · rename_i hc
      obtain ⟨v, rfl, e⟩ := one_of wv
      cases e
      exact ⟨_, rfl, hc, Good.now gd vw rfl⟩
    · exact gd.elim
  · exact gd.elim
end
end VL
end
section
namespace VL
open PySem L2 PySem.Spec PyProof.Rows
/-! ### own error classes over any of Python's errors -/
structure OexG (K : PySem.W.Frag) (C : Addr) : Prop where
  wh : ∃ (B newId initId : String) (bmB : List Value), ExcBaseFacts B newId initId bmB ∧ StoreFacts B bmB "object.__setattr__" "object" ∧ ∃ nm q N bs bm sn sub ab col dd k0 k1 k2 k3 k5,
    K.lookup C = some (excClassObj nm q C N bs bm true sn sub ab col dd k0 k1 k2 k3 k5 newId) ∧ PySem.W.excTail bmB bm = true
  st : PySem.W.findIn K (.ref C) "__setattr__" = some (some (.builtin "object.__setattr__"))
  be : PySem.W.subIn K (.ref C) (.type "BaseException") = some true
  ty : PySem.W.typeIn K (.ref C) = some (.type "type")
  kp : PySem.W.keepIn K (Value.ref C) = true
section
open Builtin Builtin.ObjectAttr PySem.HandSPX
variable {prog : Program} {w : World} {A : Around} {R : Result → Shared → Prop} {hp : Heap} {g : Array GenState} {dr : Drawn} {t : Nat} {os : OsState} {K : PySem.W.Frag}
/-- the first field of an error -/
theorem osaG {name : Str} {tk : Tok} {v : Value} {x C : Addr} {fv : Array Value} {cd : ClassData} {B : String} {bmB : List Value} (SF : StoreFacts B bmB "object.__setattr__" "object") (X : K.In hp) (hx : hp.get? x = some { cls := .ref C, data := .fields fv })
    (hcd : PySem.W.clsIn K C = some cd) (hov : PySem.W.excOver K C bmB = true) (hd : cd.hasDict = true) (hn : PySem.W.findIn K (.ref C) name = some none)
    (hq : ∀ h2 t2 dx, (∀ b o, b ≠ x → hp.get? b = some o → h2.get? b = some o) → hp.objs.size ≤ dx → dx ≠ x → h2.get? x = some { cls := .ref C, dict := some dx, data := .fields fv } → h2.Ns1 dx (fun y => if y = name then some v else none) → R (.ok (.ret .none)) ⟨h2, g, dr, t2, os⟩) :
    codeAny (model prog w) A (.call (.builtin "object.__setattr__") ⟨[.ref x, .str name tk, v], []⟩) R ⟨hp, g, dr, t, os⟩ := by
  refine PySem.W.osa_openX SF X (od := none) (r := none) ⟨hx, rfl, rfl, trivial⟩ hov (by unfold PySem.W.takerIn; rw [hn]; rfl) fun b => ?_
  have xs : x ≠ hp.objs.size := Nat.ne_of_lt (Heap.lt_size hx)
  have lc : PySem.W.Looks (model prog w) hp (classData C) cd := PySem.W.looks_clsIn X hcd
  obtain ⟨nm, bs, mro, ns, qn, hd', sn, sb, ab, col, del⟩ := cd
  obtain rfl : hd' = true := hd
  dsimp only; unfold storeInOwnDict ownDictForStores
  repeat (first | with_reducible refine store_in_new ?_ ?_ | with_reducible refine wpAny_loadPart_at hx ?_ | with_reducible refine lc.at ?_ | wp_step)
  · exact ⟨_, #[], _, (Heap.get?_update_ne _ _ _ _ xs.symm).trans (Heap.get?_push_at rfl rfl), rfl, fun e he => absurd he (by simp), fun _ => rfl⟩
  · intro h2 t2 n2 sb2
    have px : (hp.push { cls := .type "dict", data := .dict #[] }).get? x = some { cls := .ref C, data := .fields fv } := Heap.get?_push_of_some _ hx
    exact hq h2 t2 hp.objs.size (fun b o nb ob => (sb2.2 b (Nat.ne_of_lt (Heap.lt_size ob))).trans ((Heap.get?_update_ne _ _ _ _ nb).trans (Heap.get?_push_of_some _ ob))) (Nat.le_refl _) xs.symm ((sb2.2 x xs).trans (Heap.get?_update_self _ px rfl)) n2
end
section
variable {X : Cx} {pins : List (Addr × Obj)} {z : L2.St} {H : Hp} {s : Shared} {a C : Addr} {f : Str} {y : V} {u : Value} {Q : Unit → Shared → Prop} {E : Value → Shared → Prop} {A : Around}
theorem ostG (T : OexG X.K C) (I : Inv X pins z H s) (e : H a = some (exo a C none)) (hno : PySem.W.findIn X.K (.ref C) f = some none) (ry : RelV y u)
    (k : ∀ dx s2, H dx = none → dx ≠ a → Inv X pins z (upd (upd H dx (exd dx [(f, y)])) a (exo a C (some dx))) s2 → Q () s2) : wpAny (model X.prog X.w) A (setAttr (.ref a) f u) Q E s := by
  obtain ⟨B, newId, initId, bmB, FB, SF, nm, q, N, bs, bm, sn, sub, ab, col, dd, k0, k1, k2, k3, k5, hC, hbm⟩ := T.wh
  have hcl : PySem.W.clsIn X.K C = some ⟨nm, bs, .ref C :: bm, N, q, true, sn, sub, ab, col, false⟩ := by
    unfold PySem.W.clsIn
    rw [hC] <;> rfl
  have hov : PySem.W.excOver X.K C bmB = true := by
    unfold PySem.W.excOver
    rw [hcl]
    simp [hbm]
  obtain ⟨t1, ho⟩ := exo_at I.hok e; obtain ⟨hp, g, d, t, os⟩ := s
  refine PySem.W.set_plain I.kIn (ox := { cls := .ref C, dict := none, data := .fields #[.ref t1, .none, .none, .none, .bool false, .none] }) (od := none) ⟨ho, rfl, rfl, trivial⟩ T.st (osaG SF I.kIn ho hcl hov rfl hno fun h2 t2 dx kk dn dne hx hn => ?_)
  have fr : H dx = none := I.hok.fresh dn
  have nd : ∀ b o, hp.get? b = some o → b ≠ dx := fun b o r => Nat.ne_of_lt (Nat.lt_of_lt_of_le (Heap.lt_size r) dn)
  have na : ∀ b, H b = none → b ≠ a := fun b r c => by rw [c, e] at r; cases r
  have ch : ∀ b o, H b = some o → b ≠ dx := fun b o r c => by rw [c, fr] at r; cases r
  refine k dx _ fr dne (I.un (t' := t2) ⟨fun b o r n _ _ => kk b o (na b n) r, fun b o r n _ _ => ⟨o.slots, kk b o (na b n) r⟩, fun b o r n _ => ?_, fun b o r _ => ?_, fun b xs r => ?_, fun b o v r => ?_, fun b ps r => ⟨#[], ?_⟩⟩ fun b o r => ?_)
  · rw [upd_ne (na b n), upd_ne (nd b o r), n]
  · by_cases c : b = a
    · subst c; exact ⟨_, hx⟩
    · exact ⟨o, kk b o c r⟩
  · rw [upd_ne (at_ne e r exo_tup), upd_ne (ch b _ r), r]
  · rw [upd_ne (at_ne e r exo_frz), upd_ne (ch b _ r), r]
  · rw [upd_ne (at_ne e r exo_tbl), upd_ne (ch b _ r), r]; simp
  · by_cases c : b = a
    · subst c
      rw [upd_same] at r
      cases r
      exact exo_ok hx
    · rw [upd_ne c] at r
      by_cases c2 : b = dx
      · subst c2
        rw [upd_same] at r
        cases r
        exact exd_ok hn (relO_put (fs := []) ry fun _ => trivial)
      · rw [upd_ne c2] at r
        refine (I.hok b o r).stay (fun m v hm z2 => kk m v ?_ z2) (fun m hm => ?_) fun m xs hm => ?_
        · rcases hm with hm | hm
          · exact hm ▸ c
          · exact at_ne e hm exo_own
        · rw [upd_ne (at_ne e hm exo_own), upd_ne (ch m _ hm), hm]
        · rw [upd_ne (at_ne e hm exo_tup), upd_ne (ch m _ hm), hm]
end
/-- self.f = e, of an error that has no field yet -/
def tOstG (K : PySem.W.Frag) (f : Str) (to te : TE) : TS := fun D z H => te z H fun y H1 => to z H1 fun x H2 => ∃ a C : Addr, x = .ref a ∧ OexG K C ∧ PySem.W.findIn K (.ref C) f = some none ∧ H2 a = some (exo a C none) ∧ ∀ dx, H2 dx = none → dx ≠ a → D.nx z (upd (upd H2 dx (exd dx [(f, y)])) a (exo a C (some dx)))
section
variable {X : Cx} {o e : Expr} {es : List Expr} {to te : TE} {ta : TA} {f : Str} {p p' pos : Pos}
theorem ps_ostG (ho : PE X o to) (he : PE X e te) (hs : swapsWith e (some (.Attribute o f p')) pos.line X.env = pure false := by rfl) : PS X (.Assign [.Attribute o f p'] e pos) (tOstG X.K f to te) :=
  ⟨fun pins s z H D I h => plainObj_wpAny_Assign_Attribute (thn (he.run pins s z H _ I h) fun v s1 ⟨y, H1, I1, r1, q1⟩ => thn (ho.run pins s1 z H1 _ I1 q1) fun u s2 ⟨x, H2, I2, r2, a, C, ex, T, hno, ea, q⟩ => by
    subst ex; obtain rfl : u = Value.ref a := r2
    exact ostG T I2 ea hno r1 fun dx s3 n ne J => ⟨z, _, J, q dx n ne⟩) hs⟩
theorem pmk_oexG {CX : CXT} {x : Str} {C fI : Addr} {k : Nat} {fd : FuncData} {ps : List Str} {sp : Sp} {ds : List Value} {dvs : List V} (T : OexG X.K C) (iC : PySem.W.findIn X.K (.ref C) "__init__" = some (some (.ref fI))) (tI : PySem.W.typeIn X.K (.ref fI) = some (.type "function"))
    (hr : Room (k + 1) X.A) (F1 : FnOk X.prog X.w X.K X.mg X.base CX k fI fd ps sp) (hb : Binds X.K fd ps ds) (hd : Vals dvs ds) (hx : Passes CX X (fun _ _ _ => False)) (hg : Gl X x) (hm : X.mg x = some (.ref C)) (ha : PA X (e :: es) ta)
    (hdb : (x == ("__debug__" : Str)) = false := by decide) (he : starEach (e :: es) X.env = (false, eval e X.env) :: starEach es X.env := by rfl) (hpl : (backTo pos (starEach es X.env)).any (·.1) = false := by rfl) : PMk X (.Call (.Name x p) (e :: es) [] pos) (tMkO C sp dvs ta) := fun pins s z H Q I h => by
  obtain ⟨B, newId, initId, bmB, FB, SF, nm, q, N, bs, bm, sn, sub, ab, col, dd, k0, k1, k2, k3, k5, hC, hbm⟩ := T.wh
  refine wpAny_Call_Name_kw (ld_glob I hg hm (PySem.W.callWith_K (h₀ := X.base) I.ok.mod.kin T.kp (thn (ha.run pos pins s z H _ I h) fun us s1 ⟨vs, H1, I1, r1, hz, q1⟩ => ⟨I1.kIn, ?_⟩) he hpl) hdb)
  show wpAny _ _ (call (.ref C) us) _ _ _; obtain ⟨hp, g, dr, tk, os⟩ := s1
  let b := hp.objs.size + 1
  let h2 := (hp.push (PySem.W.kdv_tup us)).push (PySem.HandSPX.excO C hp.objs.size)
  have le : hp.objs.size ≤ b := Nat.le_succ _
  have hq := q1 b (I1.hok.fresh le)
  have kk : ∀ c o, hp.get? c = some o → h2.get? c = some o := fun c o r => Heap.get?_push_of_some _ (Heap.get?_push_of_some _ r)
  have gb : h2.get? b = some (PySem.HandSPX.excO C hp.objs.size) := by
    show ((hp.push (PySem.W.kdv_tup us)).push (PySem.HandSPX.excO C hp.objs.size)).get? (hp.objs.size + 1) = _
    heap_get
  have I2 : Inv X pins z (upd H1 b (exo b C none)) ⟨h2, g, dr, tk, os⟩ := I1.laid (t' := tk) (a := b) (h' := h2) kk le (exo_ok gb)
  have r2 : Vals (V.ref b :: (vs ++ dvs)) (Value.ref b :: (us ++ ds)) := .cons rfl (r1.append hd)
  have ln : (Value.ref b :: us ++ ds).length = ps.length := r2.length.symm.trans (F1.len _ _ _ _ hq)
  have lu : us.length ≤ sizeLine := by rw [← Paired.length r1, sizeLine_eq]; omega
  refine wpAny_call (PySem.HandSPX.call_own FB (fun Y => PySem.W.excTail_contains Y bm hbm) (I1.kIn _ _ hC) (PySem.W.looks_findIn I1.kIn iC) (fun self => PySem.W.bind_fn I1.kIn self tI) lu (codeAny_mono (F1.run _ X.stack _ _ ⟨Value.ref b :: us, []⟩ (Value.ref b :: (us ++ ds)) _ _ (fun _ _ _ => False) (hr.make C us []) (I2.env0.make C us []) (hb _ (Value.ref b :: us) I2.kIn ln) r2 hq) fun r s2 hq2 => ?_))
  cases r with
  | error er => exact hx pins z _ _ er s2 I2 hq2
  | ok fl => cases fl with
    | ret u =>
      obtain ⟨v, H2, o2, br, un2, hok2, rv, ev, d, fs, ea, ed, hd1, q2⟩ := hq2
      subst ev; obtain ⟨h3, g2, d2, t2, o3⟩ := s2
      exact ⟨rv, mk_end (raises_own T.be T.ty) I1 le kk un2 hok2 o2 br ea ed hd1 q2⟩
    | next => exact hq2.elim
    | brk => exact hq2.elim
    | cont => exact hq2.elim
end
/-- what the text says of the error's class -/
structure ErrG (P : Program) (w : World) (K : PySem.W.Frag) (mg : Str → Option Value) (base : Heap) (x f : Str) (C : Addr) : Prop where
  oex : OexG K C
  mgC : mg x = some (.ref C)
  ini : ∃ fI fd, PySem.W.findIn K (.ref C) "__init__" = some (some (.ref fI)) ∧ PySem.W.typeIn K (.ref fI) = some (.type "function") ∧ FnOk P w K mg base CX0 1 fI fd ["self", f] (spInit K C f) ∧ Binds K fd ["self", f] []
section
variable {T : Tx} {X : Cx} {C : Addr} {cn9 : String} {x f : Str} {e : Expr} {g : Ws → Hv → Res (List W)} {p pos pos' : Pos}
theorem ss_raiseG (Z : ErrG X.prog X.w X.K X.mg X.base x f C) (hcv : T.cv cn9 = .ref C) (hr : Room 2 X.A) (hg : Gl X x) (ha : SA T X [e] g) (hc : X.calm = true := by rfl) (hdb : (x == ("__debug__" : Str)) = false := by decide)
    (he : starEach [e] X.env = (false, eval e X.env) :: starEach [] X.env := by rfl) (hpl : (backTo pos' (starEach [] X.env)).any (·.1) = false := by rfl) : SS T X (.Raise (some (.Call (.Name x p) [e] [] pos')) none pos) (mRaise cn9 f g) := fun E cn => by
  obtain ⟨fI, fd, h1, h2, h3, h4⟩ := Z.ini
  refine PSi (ps_raise hc cn.tk (pmk_oexG Z.oex h1 h2 hr h3 h4 .nil pass0 hg Z.mgC (ha E cn) hdb he hpl)) fun D s H ⟨ps, r, hv, es, vw, gd⟩ => ?_
  refine ⟨ps, r, hv, es, vw, (good_andS (R := WVs) es gd).imp (fun vs H1 q => ?_) fun _ _ _ z => z⟩
  obtain ⟨qs, ws, hh, st, vw1, wv, es1, g1⟩ := q
  split at g1
  · rename_i w
    obtain ⟨v, rfl, wv1⟩ := one_of wv
    refine ⟨by simp, fun a na => ⟨a, v, rfl, upd_same, fun dx hd ne => ⟨rfl, dx, [(f, v)], upd_same, by rw [upd_ne ne, upd_same], ?_, ?_⟩⟩⟩
    · rw [upd_ne ne] at hd
      exact hd
    · rw [upd_ne ne] at hd
      have eqH : upd (del (upd (upd (upd H1 a (exo a C none)) dx (exd dx [(f, v)])) a (exo a C (some dx))) a) dx (.xd [(f, v)]) = upd H1 dx (.xd [(f, v)]) := by
        funext b
        by_cases hb : b = dx
        · rw [hb, upd_same, upd_same]
        · rw [upd_ne hb, upd_ne hb]
          by_cases ha : b = a
          · rw [ha, del_same, na]
          · rw [del_ne ha, upd_ne ha, upd_ne hb, upd_ne ha]
      rw [eqH]
      obtain ⟨vw2, st2, e2⟩ := vw1.alloc hd (o := .xd [(f, w)]) (u := .xd [(f, v)]) ⟨_, .cons ⟨rfl, wv1⟩ .nil, upd_same⟩
      rw [← hcv]
      exact g1 _ _ s (some dx) st2 vw2 (es1.mono st2.pre) ⟨dx, e2, rfl⟩
  · exact g1.elim
end
end VL
end
section
namespace VL
open PySem L2 PySem.Spec PyProof.Rows
/-! ### several clauses 'except x as n' -/
abbrev Tsu := Addr → Value → Option Addr → TS
/-- the ends of a suite in which slot i is the error's name -/
abbrev offI (i : Nat) (D : Ends) : Ends := { nx := fun z H => D.nx (z.set i none) H, rt := D.rt, bk := fun z H => D.bk (z.set i none) H, ct := fun z H => D.ct (z.set i none) H }
def wAsM (K : PySem.W.Frag) (i : Nat) (Wo : WX) (D : Ends) : List (Value × Tsu) → WX
  | [] => Wo
  | (c, ts) :: r => fun cls d z H => ∃ b, PySem.W.exmOne K cls c = some b ∧ (b = true → ∀ a, H a = none → ts a cls d (offI i D) (z.set i (some (.ref a))) H) ∧ (b = false → wAsM K i Wo D r cls d z H)
inductive HdA (X : Cx) (n : Str) : List ExceptHandler → List (Value × Tsu) → Prop
  | nil : HdA X n [] []
  | cons {x : Str} {c : Value} {ts : Tsu} {b0 : Stmt} {su : List Stmt} {np p2 : Pos} {hds : List ExceptHandler} {l : List (Value × Tsu)} (hc : Names X x c)
      (hsu : ∀ (a : Addr) (oe : Obj) (cls : Value) (d : Option Addr) (pn : List (Addr × Obj)), Zc cls d oe → (∃ vs, oe.data = .fields vs) → PSs (X.suite a ((a, oe) :: pn)) (b0 :: su) (ts a cls d)) (r : HdA X n hds l) : HdA X n (.ExceptHandler (some (.Name x np)) (some n) (b0 :: su) p2 :: hds) ((c, ts) :: l)
section
variable {X : Cx} {n : Str} {i : Nat} {body : List Stmt} {h0 : ExceptHandler} {hds : List ExceptHandler} {l : List (Value × Tsu)} {pos : Pos} {tb : WX → TS} {Wo : WX}
theorem ps_try_asM (hs : X.stack = X.env :: X.outer) (hf : X.env.frame = some X.env.locals) (hN : X.N.Nodup) (hi : X.N[i]? = some n) (hln : X.env.kindOf n = some .local) (tk : Takes X Wo)
    (hb : ∀ (W : WX) (pn : List (Addr × Obj)) (xe : Value → Shared → Prop), Takes (X.tr pn xe) W → PassesOwn (model X.prog X.w) X.A X.env xe → PSs (X.tr pn xe) body (tb W)) (hh : HdA X n (h0 :: hds) l) :
    PS X (.Try body (h0 :: hds) [] [] pos) (fun D z H => tb (wAsM X.K i Wo D l) D z H) := ⟨fun pins s z H D I h => by
  have ok := I.ok
  have frm : X.A.frames = some (X.env :: X.outer) := ok.frames.trans (by rw [hs])
  refine wpAny_Try_except (wpAny_mono ((hb (wAsM X.K i Wo D l) (X.pn ++ pins) (fun e t1 => wpAny (model X.prog X.w) X.A (noteFrame e X.env) (fun _ t2 => wpAny (model X.prog X.w) X.A (setFlight e none) (fun _ t3 =>
    wpAny (model X.prog X.w) X.A (handleBy e X.env (h0 :: hds)) (SP X pins D) X.xe t3) X.xe t2) X.xe t1) (fun u s' xx => ?_) PassesOwn.looking).run [] s z H D (I.toTry _) h) (fun f s1 hsp => ?_) fun _ _ he => he)
  · obtain ⟨a, B, sI, pins', z', H', cls, d, rfl, J', nb, up, sky, na, os, ag, w⟩ := xx
    have J : Inv X pins z' H' sI := J'.ofTry ok; show wpAny (model X.prog X.w) X.A (noteFrame (.ref a) X.env) _ _ _
    refine Sky.land Zc.steady frm hf (show Sky B (X.env :: X.outer) a (Zc cls d) X.env.locals s'.heap from hs ▸ sky) fun h3 fl3 up3 => ?_
    have J3 : Inv X pins z' H' { s' with heap := h3 } := J.landed nb fl3.1 (up.trans up3) os ag
    obtain ⟨o3, w3, x3, y3, u3⟩ := fl3.there
    have nfr : a ∉ frs (X.env :: X.outer) := fun hm => by
      obtain ⟨_, o', e', hnf⟩ := fl3.2.2.1.mem hm
      cases x3.symm.trans e'; exact hnf _ u3
    have nL : a ≠ X.env.locals := fun c => nfr (List.mem_filterMap.mpr ⟨X.env, List.mem_cons_self, hf.trans (by rw [c])⟩)
    have nF : a ∉ X.fs := fun hm => by obtain ⟨e, he, q⟩ := List.mem_filterMap.mp hm; exact nfr (List.mem_filterMap.mpr ⟨e, List.mem_cons_of_mem _ he, q⟩)
    have S3 := J3.suite x3 u3 na nL nF
    have lt : PySem.W.Looks (model X.prog X.w) h3 (typeOf (.ref a)) cls := fun A Q E s k q => wpAny_typeOf_ref (k _ _ x3) (by rw [y3.1]; exact q)
    have go : ∀ {hs' : List ExceptHandler} {l' : List (Value × Tsu)}, HdA X n hs' l' → wAsM X.K i Wo D l' cls d z' H' → wpAny (model X.prog X.w) X.A (handleBy (.ref a) X.env hs') (SP X pins D) X.xe { s' with heap := h3 } := fun hk => by
      induction hk with
      | nil =>
        intro w
        refine wpAny_handleBy_nil ?_
        obtain ⟨_, _, _, oe, vs, T, oT, ts', he, hz, hd, h1, hr⟩ := id fl3
        have fin : wpAny (model X.prog X.w) X.A (setFlight (.ref a) X.env.frame) (fun _ s4 => wpAny (model X.prog X.w) X.A (throw (.ref a) : Sem Flow) (SP X pins D) X.xe s4) X.xe { s' with heap := h3 } :=
          hf.symm ▸ HandSPX.setFlight_upZ fl3 fun h4 hh4 up4 => wpAny_throw (tk _ _ ⟨a, B, sI, pins, z', H', cls, d, rfl, J, nb, (up.trans up3).trans up4, .inr (.inr (hs.symm ▸ hh4)), na, os, ag, w⟩)
        unfold PySem.passOn; refine wpAny_bind (wpAny_field he hd h1 ?_)
        rw [if_neg (show ¬ (Value.ref T == Value.none) = true from by simp)]
        first | exact wpAny_bind (wpAny_pure (wpAny_bind fin)) | exact wpAny_bind fin
      | @cons x c ts b0 su np p2 hds2 l2 hc hsu r ih =>
        rintro ⟨b, hb1, hyes, hno⟩
        have lm := PySem.W.exm_one (M := model X.prog X.w) J3.kIn lt hb1
        have test : ∀ {Q : Value → Shared → Prop} {E : Value → Shared → Prop}, Q c { s' with heap := h3 } → wpAny (model X.prog X.w) (X.A.mark (some (.ref a))) (eval (.Name x np) X.env) Q E { s' with heap := h3 } := fun q => by
          rcases hc with ⟨hg, hdbg, hm | ⟨hm, hv, hnn⟩⟩
          · exact ld_glob (X := X.suite a ((a, o3) :: (X.pn ++ pins))) S3 hg hm q hdbg
          · exact ld_blt (X := X.suite a ((a, o3) :: (X.pn ++ pins))) S3 hg hm hv q hnn hdbg
        refine wpAny_handleBy_cons (codeAny_handlers_test (test (lm.here ?_))) (fun q => by cases q)
        cases b with
        | true =>
          refine codeAny_handlers_suite_as (HandSPX.lands_againZ fl3 fun h4 fl4 up4 => ?_)
          have J4 : Inv X pins z' H' { s' with heap := h4 } := J.landed nb fl4.1 ((up.trans up3).trans up4) os ag
          obtain ⟨o4, w4, x4, y4, u4⟩ := fl4.there
          refine store_ok (X := X.suite a ((a, o4) :: (X.pn ++ pins))) (v := .ref a) (J4.suite x4 u4 na nL nF) hN hi (.inl hln) rfl (fun s5 S5 => wpAny_mono ((hsu a o4 cls d (X.pn ++ pins) y4 ⟨_, u4⟩).run [] s5 _ H' _ S5 (hyes rfl a na)) (fun f s6 hsp => ?_) fun _ _ q => q.elim) (.inr hln)
          have bye : ∀ {z6 : L2.St} {H6 : Hp} {Q : Shared → Prop}, Inv (X.suite a ((a, o4) :: (X.pn ++ pins))) [] z6 H6 s6 → (∀ s7, Inv X pins (z6.set i none) H6 s7 → Q s7) → wpAny (model X.prog X.w) X.A (do bindName X.env n .none; unbindBehindTheSuite X.env n p2) (fun _ s7 => Q s7) X.xe s6 := fun {z6 H6 Q} S6 hq => gone_ok (S6.unsuite ok) hN hi hln hq
          cases f with
          | ret u =>
            obtain ⟨v6, z6, H6, S6, r6, q6⟩ := hsp; exact bye S6 fun s7 J7 => ⟨_, _, _, J7, r6, q6⟩
          | next =>
            obtain ⟨z6, H6, S6, q6⟩ := hsp; exact bye S6 fun s7 J7 => ⟨_, _, J7, q6⟩
          | brk =>
            obtain ⟨z6, H6, S6, q6⟩ := hsp; exact bye S6 fun s7 J7 => ⟨_, _, J7, q6⟩
          | cont =>
            obtain ⟨z6, H6, S6, q6⟩ := hsp; exact bye S6 fun s7 J7 => ⟨_, _, J7, q6⟩
        | false =>
          show wpAny _ X.A (handleBy (.ref a) X.env hds2) _ _ _; exact ih (hno rfl)
    exact go hh w
  · cases f with
    | ret u => obtain ⟨v, z', H', J', r, q⟩ := hsp; exact ⟨v, z', H', J'.ofTry ok, r, q⟩
    | next => obtain ⟨z', H', J', q⟩ := hsp; exact wpAny_execs_nil ⟨z', H', J'.ofTry ok, q⟩
    | brk => obtain ⟨z', H', J', q⟩ := hsp; exact ⟨z', H', J'.ofTry ok, q⟩
    | cont => obtain ⟨z', H', J', q⟩ := hsp; exact ⟨z', H', J'.ofTry ok, q⟩⟩
end
end VL
end
section
namespace VL
open PySem L2 PySem.Spec PyProof.Rows
/-! ### heard(lambda: e) with several clauses -/
def mHeardM (sel : String → Option (Nat → MS)) (fb : Ws → Hv → Res W) : Ws → Hv → Res W := fun r h => match fb r h with
  | .val w h1 => .val w h1
  | .exc c (some j) h1 => (match sel c with
    | some su => (match su j [none, none] h1 with
      | .rt w h2 => .val w h2
      | _ => .bad)
    | none => .bad)
  | _ => .bad
/-- a clause: its class, the classes it takes, its suite -/
structure Cl where
  cx : Value
  ok : Value → Prop
  sM : Addr → Nat → MS
def Cl.ts (T : Tx) (c : Cl) : Value × Tsu := (c.cx, tSuite T c.ok c.sM)
def wHM (K : PySem.W.Frag) (T : Tx) : List Cl → VK → XK
  | [], _ => fun _ _ _ => False
  | c :: r, Q => fun cls d H => ∃ b, PySem.W.exmOne K cls c.cx = some b ∧ (b = true → ∀ (D : Ends) (s : L2.St) (a : Addr), D.rt = Q → s.length = 2 → H a = none → tSuite T c.ok c.sM a cls d D (s.set 1 (some (.ref a))) H) ∧ (b = false → wHM K T r Q cls d H)
theorem wHM_as {K : PySem.W.Frag} {T : Tx} {D : Ends} : ∀ {l : List Cl} {cls : Value} {d : Option Addr} {s : L2.St} {H : Hp}, s.length = 2 → wHM K T l D.rt cls d H → wAsM K 1 No D (l.map (Cl.ts T)) cls d s H
  | [], _, _, _, _, _, h => h.elim
  | c :: r, cls, d, s, H, hl, ⟨b, e1, e2, e3⟩ => ⟨b, e1, fun hb a ha => e2 hb _ s a rfl hl ha, fun hb => wHM_as hl (e3 hb)⟩
theorem wHM_mem {K : PySem.W.Frag} {T : Tx} {Q : VK} {c : Cl} {post : List Cl} {cls : Value} {d : Option Addr} {H : Hp} (h1 : PySem.W.exmOne K cls c.cx = some true) (h2 : ∀ (D : Ends) (s : L2.St) (a : Addr), D.rt = Q → s.length = 2 → H a = none → tSuite T c.ok c.sM a cls d D (s.set 1 (some (.ref a))) H) :
    ∀ {pre : List Cl}, (∀ p ∈ pre, PySem.W.exmOne K cls p.cx = some false) → wHM K T (pre ++ c :: post) Q cls d H
  | [], _ => ⟨true, h1, fun _ => h2, fun z => by cases z⟩
  | p :: pre, hp => ⟨false, hp p List.mem_cons_self, (fun z => by cases z), fun _ => wHM_mem h1 h2 fun q hq => hp q (List.mem_cons_of_mem _ hq)⟩
section
variable {X : Cx} {T : Tx} {l : List Cl}
abbrev TTm (K : PySem.W.Frag) (T : Tx) (l : List Cl) : (XK → Hp → VK → Prop) → Hp → VK → Prop := fun tl H Q => tl (wHM K T l Q) H Q
theorem hdA_cons {n x : Str} {c : Cl} {b0 : Stmt} {su : List Stmt} {np p2 : Pos} {hds : List ExceptHandler} (hc : Names X x c.cx)
    (hsu : ∀ (ad : Addr) (oe : Obj) (cls : Value) (dd : Addr) (pn : List (Addr × Obj)) (j : Nat), c.ok cls → Zc cls (some dd) oe → (∃ vs, oe.data = .fields vs) → SSs (T.known j dd) (X.suite ad ((ad, oe) :: pn)) (b0 :: su) (c.sM ad j)) (r : HdA X n hds (l.map (Cl.ts T))) :
    HdA X n (.ExceptHandler (some (.Name x np)) (some n) (b0 :: su) p2 :: hds) ((c :: l).map (Cl.ts T)) :=
  .cons hc (fun ad oe cls d pn hz hf => ⟨fun pins s1 z1 H1 D I h1 => by
    obtain ⟨hk, j, dd, rfl, h2⟩ := h1
    exact ((hsu ad oe cls dd pn j hk hz hf) No ⟨takes0, PassesOwn.never⟩).run pins s1 z1 H1 D I h2⟩) r
theorem heard_givesM {x a n q : Str} {sg : Scope} {g : Addr} {cdg : Value} {h0 : ExceptHandler} {hds : List ExceptHandler} {p1 p2 p3 p8 : Pos} (hnd : ([a, n] : List Str).Nodup)
    (hh : ∀ s H, HdA (hCx X [a, n] x sg g cdg s H) n (h0 :: hds) (l.map (Cl.ts T))) (hkn : sg.names.lookup n = some .local) :
    LamX.GivesTo X [a, n] x sg g cdg [.Try [.Return (some (.Call (.Name a p1) [] [] p2)) p3] (h0 :: hds) [] [] p8] a q (TTm X.K T l) := by
  intro f c' s H Q tl act hco h
  refine ⟨_, pss_one (ps_try_asM (X := hCx X [a, n] x sg g cdg s H) (i := 1) (Wo := No)
    (tb := fun Wx D s' H' => ∃ Ec : XK, (∀ cls d (s2 : L2.St) H2, s2.length = 2 → Ec cls d H2 → Wx cls d s2 H2) ∧ s'[0]? = some (some (.ref f)) ∧ H' c' = some (LamX.CodeO c' q) ∧ tl Ec H' D.rt) rfl rfl hnd rfl hkn takes0 (fun Wx pn xe tk _ => ⟨fun pins s1 z1 H1 D I h1 => ?_⟩) (hh s H)), ?_⟩
  · obtain ⟨Ec, hW, hs, h2, h3⟩ := h1
    have tk2 : Takes ((cxOf C8.CX0 X.prog X.w X.K X.mg X.base [a, n] x sg g cdg X.A X.stack s H C8.E0).tr pn xe) (fun cls d s2 H2 => s2.length = 2 → Wx cls d s2 H2) := fun u s' xx => by
      obtain ⟨ad, B, sI, pins', s3, H3, cls, d, e1, J, e2, e3, e4, e5, e6, e7, wz⟩ := xx
      exact tk u s' ⟨ad, B, sI, pins', s3, H3, cls, d, e1, J, e2, e3, e4, e5, e6, e7, wz J.len⟩
    have hp := act _ pn xe Ec p1 p2 tk2 fun cls d s2 H2 hh hl => hW cls d s2 H2 hl hh
    exact (pss_one (ps_ret (pos := p3) hp)).run pins s1 z1 H1 D I ⟨hs, h2, h3⟩
  · exact ⟨wHM X.K T l Q, fun cls d s2 H2 hl hw => wHM_as hl hw, rfl, hco, h⟩
/-- which clause takes the errors of the class c -/
def Sels (K : PySem.W.Frag) (T : Tx) (l : List Cl) (sel : String → Option (Nat → MS)) : Prop := ∀ c su, sel c = some su → ∃ pre cl post, l = pre ++ cl :: post ∧ (∀ p ∈ pre, PySem.W.exmOne K (T.cv c) p.cx = some false) ∧ PySem.W.exmOne K (T.cv c) cl.cx = some true ∧ cl.ok (T.cv c) ∧
  ∀ a j r h w h2, 1 < r.length → su j r h = .rt w h2 → cl.sM a j (r.set 1 (some (.fix a))) h = .rt w h2
theorem heard_readM {sel : String → Option (Nat → MS)} {E : WX} {s : L2.St} {H : Hp} {Q : VK} {fb : Ws → Hv → Res W} (hsel : Sels X.K T l sel)
    (h : tE T E (mHeardM sel fb) s H Q) : LamX.tLam T.tb (TTm X.K T l) (fun E' => tE T (fun c d _ H' => E' c d H') fb) s H Q := by
  obtain ⟨ps, r, hv, es, vw, gd⟩ := h
  refine ⟨vw.tab, fun H1 eN tN => ?_⟩
  obtain ⟨vw1, st1⟩ := vw.ext eN tN
  have gd := Good.step gd st1
  refine ⟨ps, r, hv, es, vw1, ?_⟩
  unfold mHeardM at gd
  cases q : fb r hv with
  | bad => rw [q] at gd; exact gd.elim
  | val w h1 => rw [q] at gd; exact gd
  | exc c d h1 =>
    rw [q] at gd
    cases d with
    | none => exact gd.elim
    | some j =>
      dsimp only at gd
      intro qs H' e st vw' dv
      obtain ⟨dd, ej, rfl⟩ := dv
      cases ex : sel c with
      | none => rw [ex] at gd; exact gd.elim
      | some su =>
        rw [ex] at gd
        dsimp only at gd
        obtain ⟨pre, cl, post, rfl, hp, ht, hok, hind⟩ := hsel c su ex
        cases z : su j [none, none] h1 with
        | nx _ _ => rw [z] at gd; exact gd.elim
        | bk _ _ => rw [z] at gd; exact gd.elim
        | ct _ _ => rw [z] at gd; exact gd.elim
        | exc _ _ _ _ => rw [z] at gd; exact gd.elim
        | bad => rw [z] at gd; exact gd.elim
        | rt w h2 =>
          rw [z] at gd
          refine wHM_mem ht (fun D s2 a hD hl ha => ⟨hok, j, dd, rfl, qs, [none, none].set 1 (some (.fix a)), h1, ?_, vw'.known ej, ?_⟩) hp
          · have e0 : ES qs [none, none] s2 := ⟨by rw [hl]; rfl, fun i w e => by
              match i, e with
              | 0, e => cases e
              | 1, e => cases e
              | i + 2, e => simp at e⟩
            exact e0.set 1 rfl
          · rw [hind a j [none, none] h1 _ _ (by decide) z]
            intro rs H2 v st2 vw2 wv
            rw [hD]
            exact gd rs H2 v (st.trans st2) vw2.less wv
theorem se_heardM {sel : String → Option (Nat → MS)} {k : Nat} {x a n : Str} {g c P : Addr} {pg : Arguments} {sg : Scope} {dV kV doc pm cdv ct oc : Value} {an od : Option Addr} {osl : Array (Option Value)} {h0 : ExceptHandler} {hds : List ExceptHandler} {p1 p2 p3 p8 : Pos}
    {params : Arguments} {body : Expr} {scope : Scope} {fb : Ws → Hv → Res W} {p lpos pos : Pos}
    (hsel : Sels X.K T l sel) (hm : X.mg x = some (.ref g)) (hk : PySem.W.keepIn X.K (.ref g) = true)
    (lk : X.K.lookup g = some ⟨oc, od, .func (PySem.W.fnOf x x pg [.Try [.Return (some (.Call (.Name a p1) [] [] p2)) p3] (h0 :: hds) [] [] p8] sg dV kV doc pm an cdv ct), osl⟩) (hcg : PySem.W.codeIn X.K cdv x = true)
    (hb : L2.Binds X.K (PySem.W.fnOf x x pg [.Try [.Return (some (.Call (.Name a p1) [] [] p2)) p3] (h0 :: hds) [] [] p8] sg dV kV doc pm an cdv ct) [a] []) (Sg : FnScope [a, n] [a] sg) (hva : Vis sg a)
    (hh : ∀ s H, HdA (hCx X [a, n] x sg g cdv s H) n (h0 :: hds) (l.map (Cl.ts T))) (hkn : sg.names.lookup n = some .local)
    (TB : LamX.TabB X.base X.mg c P) (hcode : X.env.code = .ref c) (hmT : (P, X.env.qual ++ "<lambda>") ∈ T.tb) (hu : ∀ p ∈ T.tb, p.1 = P → p.2 = X.env.qual ++ "<lambda>") (hr : Room (k + 2) X.A) (L : LamX.LamS X.env.scope scope) (hdef : defaultsOf params X.env = ([], [])) (hbind : ∀ (q : Str) (cl : List (Str × Addr)) (pm cv ctv : Value), bindArgs (PySem.W.kla_fn "<lambda>" q params body scope cl pm cv ctv) ⟨[], []⟩ = pure [])
    (hbody : ∀ (A : Around) (outer : List Env) (s : Shared) (H : Hp) (E : XK) (f c' : Addr), Room k (A.deeper (LamX.lamEnv X scope s.heap.objs.size f c')) → SE T (LamX.lamCx X A outer s H E scope f c') body fb)
    (hg : Gl X x := by rfl) (hdb : (x == ("__debug__" : Str)) = false := by decide) (hd : (a == ("__debug__" : Str)) = false := by decide) (hcd : (a == ("__classdict__" : Str)) = false := by decide) :
    SE T X (.Call (.Name x p) [.Lambda params body scope lpos] [] pos) (mHeardM sel fb) := fun E cn => by
  refine PEi (LamX.pe_lamcall (T := T.tb) (TT := TTm X.K T l) (t := fun E' => tE T (fun c d _ H' => E' c d H') fb) hg hm hk lk hcg hb Sg rfl hva (heard_givesM Sg.nd hh hkn) TB hcode hmT hu hr L hdef hbind
    (fun A outer s H E' f c' hr' => hbody A outer s H E' f c' hr' _ ⟨takes_of rfl rfl rfl rfl, passes_of rfl⟩) hdb hd hcd) fun s H Q h => heard_readM hsel h
end
end VL
end
section
namespace VL
open PySem L2
/-! ### a, b, .. = a tuple or a list -/
def mGs (n : Nat) (k : List W → MS) : MG := fun w r h => match w with
  | .ref p => match h[p]? with
    | some (.tup ws) => if ws.length = n then k ws r h else .bad
    | some (.lst ws) => if ws.length = n then k ws r h else .bad
    | _ => .bad
  | _ => .bad
section
variable {T : Tx} {X : Cx} {es : List Expr} {k : List W → MS} {pos : Pos}
theorem PG_or {e : Expr} {t u : TG} (a : PG X e t) (b : PG X e u) : PG X e (fun v s H Q => t v s H Q ∨ u v s H Q) := ⟨fun pins s z H v w Q I r h => h.elim (a.run pins s z H v w Q I r) (b.run pins s z H v w Q I r)⟩
theorem sg_seq {kk n : Nat} (h : SGs T X es k) (hc : X.calm = true := by rfl) (hn : (assignEach es X.env).length = n := by rfl) (hst : (assignEach es X.env).findIdx? (·.1) = none := by rfl) : SG T X (.Tuple es kk pos) (mGs n k) := fun E cn =>
  PGi (PG_or (pg_tup hc (h E cn) hn hst) (pg_lst hc (h E cn) hn hst)) fun v s H Q ⟨ps, r, h, w, es, vw, wv, gd⟩ => by
    unfold mGs at gd
    split at gd
    · rename_i p
      obtain ⟨a, ea, rfl⟩ := wv
      split at gd
      · rename_i ws e1
        split at gd
        · rename_i hl
          obtain ⟨vs, rr, eH⟩ := vw.ob _ a _ ea e1
          have l1 : ws.length = vs.length := rr.length
          exact .inl ⟨a, vs, rfl, SqT.of eH, by rw [← l1]; exact hl, ps, r, h, ws, es, vw, rr, gd⟩
        · exact gd.elim
      · rename_i ws e1
        split at gd
        · rename_i hl
          obtain ⟨vs, rr, eH⟩ := vw.ob _ a _ ea e1
          have l1 : ws.length = vs.length := rr.length
          exact .inr ⟨a, vs, rfl, SqL.of eH, by rw [← l1]; exact hl, ps, r, h, ws, es, vw, rr, gd⟩
        · exact gd.elim
      · exact gd.elim
    · exact gd.elim
end
/-! ### sorted of whole numbers -/
def insI (a : Int) : List Int → List Int
  | [] => [a]
  | b :: l => if a ≤ b then a :: b :: l else b :: insI a l
def sortI : List Int → List Int
  | [] => []
  | a :: l => insI a (sortI l)
theorem insI_perm (a : Int) : ∀ l, (insI a l).Perm (a :: l)
  | [] => List.Perm.refl _
  | b :: l => by
    unfold insI
    split
    · exact List.Perm.refl _
    · exact ((insI_perm a l).cons b).trans (List.Perm.swap a b l)
theorem sortI_perm : ∀ l, (sortI l).Perm l
  | [] => List.Perm.refl _
  | a :: l => (insI_perm a (sortI l)).trans ((sortI_perm l).cons a)
theorem insI_sorted (a : Int) : ∀ l : List Int, l.Pairwise (· ≤ ·) → (insI a l).Pairwise (· ≤ ·)
  | [], _ => List.pairwise_singleton _ _
  | b :: l, h => by
    unfold insI
    obtain ⟨hb1, h2⟩ := List.pairwise_cons.mp h; have h1 := hb1
    split
    · rename_i ab
      refine List.pairwise_cons.mpr ⟨fun c hc => ?_, h⟩
      rcases List.mem_cons.mp hc with rfl | q
      · exact ab
      · exact Int.le_trans ab (h1 c q)
    · rename_i ab
      refine List.pairwise_cons.mpr ⟨fun c hc => ?_, insI_sorted a l h2⟩
      rcases List.mem_cons.mp ((insI_perm a l).mem_iff.mp hc) with rfl | q
      · omega
      · exact h1 c q
theorem sortI_sorted : ∀ l : List Int, (sortI l).Pairwise (· ≤ ·)
  | [] => List.Pairwise.nil
  | a :: l => insI_sorted a _ (sortI_sorted l)
theorem sorted_one : ∀ (l m : List Int), l.Perm m → l.Pairwise (· ≤ ·) → m.Pairwise (· ≤ ·) → l = m
  | [], m, p, _, _ => p.nil_eq
  | a :: l, [], p, _, _ => by have := p.length_eq; simp at this
  | a :: l, b :: m, p, hl, hm => by
    obtain ⟨l1, l2⟩ := List.pairwise_cons.mp hl
    obtain ⟨m1, m2⟩ := List.pairwise_cons.mp hm
    have ha : a ∈ b :: m := p.mem_iff.mp List.mem_cons_self
    have hb : b ∈ a :: l := p.mem_iff.mpr List.mem_cons_self
    have e : a = b := by
      rcases List.mem_cons.mp ha with q | q
      · exact q
      · rcases List.mem_cons.mp hb with q2 | q2
        · exact q2.symm
        · have := l1 b q2
          have := m1 a q
          omega
    subst e
    rw [sorted_one l m (List.Perm.cons_inv p) l2 m2]
def intsOf : List W → Option (List Int)
  | [] => some []
  | .int i :: l => (intsOf l).map (i :: ·)
  | _ => none
theorem intsOf_eq : ∀ {l : List W} {ns : List Int}, intsOf l = some ns → l = ns.map W.int
  | [], ns, e => by cases e; rfl
  | .int i :: l, ns, e => by
    unfold intsOf at e
    cases q : intsOf l with
    | none => rw [q] at e; exact nomatch e
    | some ms =>
      rw [q] at e
      cases e
      rw [List.map_cons, ← intsOf_eq q]
  | .non :: l, ns, e => by cases e
  | .bl _ :: l, ns, e => by cases e
  | .str _ :: l, ns, e => by cases e
  | .ref _ :: l, ns, e => by cases e
  | .fix _ :: l, ns, e => by cases e
  | .ty _ :: l, ns, e => by cases e
def mSorted : MFn := fun ws h => match ws with
  | [.ref p] => match h[p]? with
    | some (.lst xs) => match intsOf xs with
      | some ns => if ns.length < 64 then mNew (.lst ((sortI ns).map W.int)) h else .bad
      | none => .bad
    | _ => .bad
  | _ => .bad
theorem pair_ints {ps : List Addr} : ∀ {ns : List Int} {vs : List V}, Paired (WV ps) (ns.map W.int) vs → vs = ns.map V.int
  | [], _, .nil => rfl
  | i :: ns, _, .cons r t => by
    cases r
    rw [List.map_cons, pair_ints t]
theorem ints_pair {ps : List Addr} : ∀ {ns : List Int}, Paired (WV ps) (ns.map W.int) (ns.map V.int)
  | [] => .nil
  | i :: ns => .cons rfl ints_pair
section
variable {T : Tx} {X : Cx}
theorem rc_sorted : RC T (rSorted X.K) mSorted := by
  intro ps h H ws vs Q E vw wv gd
  unfold mSorted at gd
  split at gd
  · obtain ⟨v, rfl, a, ea, rfl⟩ := one_of wv
    split at gd
    · rename_i xs e1
      split at gd
      · rename_i ns en
        split at gd
        · rename_i hl
          obtain ⟨us, rr, eH⟩ := vw.ob _ a _ ea e1
          have el := intsOf_eq en
          subst el
          have eu := pair_ints rr
          subst eu
          refine ⟨a, ns, rfl, SqL.of eH, hl, fun ms p pm st hp => ?_⟩
          have em : ms = sortI ns := sorted_one _ _ (pm.trans (sortI_perm ns).symm) st (sortI_sorted ns)
          subst em
          exact good_new vw gd (fun H' p' e => ⟨_, ints_pair, e⟩) hp
        · exact gd.elim
      · exact gd.elim
    · exact gd.elim
  · exact gd.elim
end
end VL
end
section
/-! ### KeyError: stores -/
namespace VX
open PySem PySem.F
abbrev keyM : List Value := [.type "KeyError", .type "LookupError", .type "Exception", .type "BaseException", .type "object"]
theorem keyStore : StoreFacts "KeyError" keyM "object.__setattr__" "object" := {
  mro := by kernel_rfl, entry := entry_object_sa, kind := by decide +kernel, split := by decide +kernel, hasOwner := by decide +kernel, args := fun a b c => by { unfold argsOk; kernel_rfl }, passes := fun self => by kernel_rfl,
  slot := .of (owner := "object") (n := "__setattr__") (by rw [typeLookup_type, builtinLookup_eq_fast]; kernel_rfl) (by decide +kernel) (by decide +kernel) (by decide +kernel) (by first | exact .inl (by decide +kernel) | exact .inr (by decide +kernel)) (by rw [isSubtype_type]; kernel_rfl) }
end VX
/-! ### an own error class called, with keywords or without -/
namespace PySem.HandSPX
open PyProof.Rows PySem.Spec PySem
section
variable {prog : Program} {w : World} {A : Around} {E : Value → Shared → Prop} {R : Result → Shared → Prop} {hp : Heap} {g : Array GenState} {dr : Drawn} {tk : Nat} {os : OsState}
variable {nm q : Str} {C N : Addr} {bs bm bmB : List Value} {hdct : Bool} {sn : List Str} {sub : List Value} {ab : Bool} {col : Option Bool} {dd : Option Addr} {k0 k1 k2 k3 k5 : Option Value} {B newId initId : String} {kw : List (Str × Value)} {rest : List Value}
theorem check_newK (FB : ExcBaseFacts B newId initId bmB) (c0 : bm.contains (.type B) = true) {Q : Unit → Shared → Prop} (hC : hp.get? C = some (excClassObj nm q C N bs bm hdct sn sub ab col dd k0 k1 k2 k3 k5 newId)) (hq : Q () ⟨hp, g, dr, tk, os⟩) :
    wpAny (model prog w) A (checkBuiltinCall newId ⟨.ref C :: rest, kw⟩) Q E ⟨hp, g, dr, tk, os⟩ := by
  have c1 : (Value.ref C :: bm).contains (.type B) = true := by rw [List.contains_cons, c0, Bool.or_true]
  have st := FB.noStar
  simp only [checkBuiltinCall, FB.newKind, FB.newSplit, FB.newRow]
  repeat (first | refine wpAny_loadPart_at hC ?_ | (refine wpAny_isSubtype_exc hC ?_; rw [c1]) | refine wpAny_staticBase_exc hC ?_ | refine wpAny_madeBy_exc hC ?_ | simp only [bne_self_eq_false, Bool.false_eq_true, if_false] | wp_step)
  exact hq
theorem newK (FB : ExcBaseFacts B newId initId bmB) (c0 : bm.contains (.type B) = true) (cA : bm.contains (.type "AttributeError") = false) (cN : bm.contains (.type "NameError") = false) (hC : hp.get? C = some (excClassObj nm q C N bs bm hdct sn sub ab col dd k0 k1 k2 k3 k5 newId))
    (hq : R (.ok (.ret (.ref (hp.objs.size + 1)))) ⟨(hp.push (W.kdv_tup rest)).push (excO C hp.objs.size), g, dr, tk, os⟩) (hrest : rest.length ≤ sizeLine) : codeAny (model prog w) A (.builtin newId ⟨.ref C :: rest, kw⟩) R ⟨hp, g, dr, tk, os⟩ := by
  have en := FB.ends
  have c1 : (Value.ref C :: bm).contains (.type B) = true := by rw [List.contains_cons, c0, Bool.or_true]
  have c2 : (Value.ref C :: bm).contains (.type "AttributeError") = false := by rw [List.contains_cons, cA]; rfl
  have c3 : (Value.ref C :: bm).contains (.type "NameError") = false := by rw [List.contains_cons, cN]; rfl
  refine codeAny_builtinAt FB.entry ?_
  unfold Builtin.«BaseException.__new__»; refine wpAt_bind ?_; show wpAt _ _ _ (stack >>= _) _ _ _
  refine wpAt_bind (wpAt_stack fun p9 below9 => wpAt_of_wpAny ?_); wp_walk
  refine wpAt_of_wpAny ?_
  rw [FB.owner]
  repeat (first | with_reducible refine wpAny_madeHere_exc FB.canon hC ?_ | with_reducible refine wpAny_loadPart_at hC ?_ | (with_reducible refine wpAny_isSubtype_exc hC ?_; first | rw [c1] | rw [c2] | rw [c3]) | wp_step)
  show R _ _; rw [Heap.size_push]
  exact hq
theorem type_callK (FB : ExcBaseFacts B newId initId bmB) (c0 : bm.contains (.type B) = true) (cA : bm.contains (.type "AttributeError") = false) (cN : bm.contains (.type "NameError") = false) {fI : Addr} {Q : Fin → Shared → Prop} (hC : hp.get? C = some (excClassObj nm q C N bs bm hdct sn sub ab col dd k0 k1 k2 k3 k5 newId))
    (hi : W.Looks (model prog w) hp (typeLookup (.ref C) "__init__") (some (.ref fI))) (hb : ∀ self, W.Looks (model prog w) hp (bindSpecial (.ref fI) self) (.ref fI, [self])) (hrest : rest.length ≤ sizeLine)
    (hq : codeAny (model prog w) A (.call (.ref fI) ⟨.ref (hp.objs.size + 1) :: rest, kw⟩) (fun r s' => match r with | .ok (.ret v) => v = .none ∧ Q (.done (.ret (.ref (hp.objs.size + 1)))) s' | .ok _ => False | .error e => E e s') ⟨(hp.push (W.kdv_tup rest)).push (excO C hp.objs.size), g, dr, tk, os⟩) :
    wpAny (model prog w) A (Builtin.«type.__call__» ⟨.ref C :: rest, kw⟩) Q E ⟨hp, g, dr, tk, os⟩ := by
  (repeat (first | with_reducible refine wpAny_loadPart_at hC ?_ | with_reducible refine wpAny_madeBy_exc hC ?_ | wp_step)); refine codeAny_call_builtin_code (Code.quiet_builtin _ FB.quiet) (check_newK FB c0 hC ?_); refine newK FB c0 cA cN hC ?_ hrest
  show wpAny _ _ _ _ _ _
  have kk : ∀ b o, hp.get? b = some o → ((hp.push (W.kdv_tup rest)).push (excO C hp.objs.size)).get? b = some o := fun b o e => Heap.get?_push_of_some _ (Heap.get?_push_of_some _ e)
  have gC := kk _ _ hC
  have ge : ((hp.push (W.kdv_tup rest)).push (excO C hp.objs.size)).get? (hp.objs.size + 1) = some (excO C hp.objs.size) := by heap_get
  have cC : (Value.ref C :: bm).contains (.ref C) = true := by simp
  have i1 := hi.keeps kk
  have b1 := (hb (.ref (hp.objs.size + 1))).keeps kk
  unfold isInstance; repeat (first | with_reducible refine wpAny_loadPart_at ge ?_ | (with_reducible refine wpAny_isSubtype_exc gC ?_; rw [cC]) | wp_step)
  show wpAny _ _ (typeLookup (.ref C) _) _ _ _; refine i1.at ?_
  refine wpAny_holding (wpAny_bind (b1.at ?_)); refine wpAny_bind (wpAny_call (codeAny_mono hq fun r s' z => ?_))
  rcases r with e9 | (v9 | _ | _ | _) <;> first | exact z | exact z.elim | skip
  obtain ⟨rfl, z⟩ := z
  first | exact wpAny_pure (wpAny_pure z) | (wp_walk; exact z)
theorem call_ownK (FB : ExcBaseFacts B newId initId bmB) (c0 : bm.contains (.type B) = true) (cA : bm.contains (.type "AttributeError") = false) (cN : bm.contains (.type "NameError") = false) {fI : Addr} (hC : hp.get? C = some (excClassObj nm q C N bs bm hdct sn sub ab col dd k0 k1 k2 k3 k5 newId))
    (hi : W.Looks (model prog w) hp (typeLookup (.ref C) "__init__") (some (.ref fI))) (hb : ∀ self, W.Looks (model prog w) hp (bindSpecial (.ref fI) self) (.ref fI, [self])) (hrest : rest.length ≤ sizeLine)
    (hq : codeAny (model prog w) (A.under (.builtin "type.__call__" ⟨.ref C :: rest, kw⟩)) (.call (.ref fI) ⟨.ref (hp.objs.size + 1) :: rest, kw⟩) (W.InitBack (hp.objs.size + 1) R) ⟨(hp.push (W.kdv_tup rest)).push (excO C hp.objs.size), g, dr, tk, os⟩) :
    codeAny (model prog w) A (.call (.ref C) ⟨rest, kw⟩) R ⟨hp, g, dr, tk, os⟩ := by
  have f1 := tc_lookup
  have f2 := tc_bind (.ref C)
  have hTy : (⟨hp, g, dr, tk, os⟩ : Shared).TypeIs (.ref C) "type" := ⟨_, hC, rfl⟩
  refine codeAny_of_tree ?_; show wpAny _ _ (callAny (.ref C) _) _ _ _
  (repeat (any_goals (first | assumption | with_reducible refine wpAny_loadPart_at hC ?_ | wp_step))); refine ⟨rfl, ?_⟩; refine codeAny_call_builtin_at (Code.quiet_builtin _ (by decide +kernel)) entry_typeCall ?_
  refine wpAny_check_type_call_sub hC (type_callK FB c0 cA cN hC hi hb hrest ?_)
  refine codeAny_mono hq fun r9 s9 z => ?_
  rcases r9 with e9 | (v9 | _ | _ | _) <;> exact z
end
end PySem.HandSPX
end
section
namespace VL
open PySem L2 PySem.Spec PyProof.Rows
/-! ### own error classes over any of Python's errors, KeyError too: the class that makes and the class that stores may differ -/
structure OexH (K : PySem.W.Frag) (C : Addr) : Prop where
  wh : ∃ (B newId initId : String) (bmN : List Value) (B2 : String) (bmS : List Value), ExcBaseFacts B newId initId bmN ∧ StoreFacts B2 bmS "object.__setattr__" "object" ∧ ∃ nm q N bs bm sn sub ab col dd k0 k1 k2 k3 k5,
    K.lookup C = some (excClassObj nm q C N bs bm true sn sub ab col dd k0 k1 k2 k3 k5 newId) ∧ PySem.W.excTail bmS bm = true ∧ bm.contains (.type B) = true ∧ bm.contains (.type "AttributeError") = false ∧ bm.contains (.type "NameError") = false
  st : PySem.W.findIn K (.ref C) "__setattr__" = some (some (.builtin "object.__setattr__"))
  be : PySem.W.subIn K (.ref C) (.type "BaseException") = some true
  ty : PySem.W.typeIn K (.ref C) = some (.type "type")
  kp : PySem.W.keepIn K (Value.ref C) = true
section
variable {X : Cx} {pins : List (Addr × Obj)} {z : L2.St} {H : Hp} {s : Shared} {a C : Addr} {f : Str} {y : V} {u : Value} {Q : Unit → Shared → Prop} {E : Value → Shared → Prop} {A : Around}
theorem ostH (T : OexH X.K C) (I : Inv X pins z H s) (e : H a = some (exo a C none)) (hno : PySem.W.findIn X.K (.ref C) f = some none) (ry : RelV y u)
    (k : ∀ dx s2, H dx = none → dx ≠ a → Inv X pins z (upd (upd H dx (exd dx [(f, y)])) a (exo a C (some dx))) s2 → Q () s2) : wpAny (model X.prog X.w) A (setAttr (.ref a) f u) Q E s := by
  obtain ⟨B, newId, initId, bmB0, B2, bmB, FB, SF, nm, q, N, bs, bm, sn, sub, ab, col, dd, k0, k1, k2, k3, k5, hC, hbm, c0, cA, cN⟩ := T.wh
  have hcl : PySem.W.clsIn X.K C = some ⟨nm, bs, .ref C :: bm, N, q, true, sn, sub, ab, col, false⟩ := by
    unfold PySem.W.clsIn
    rw [hC] <;> rfl
  have hov : PySem.W.excOver X.K C bmB = true := by
    unfold PySem.W.excOver
    rw [hcl]
    simp [hbm]
  obtain ⟨t1, ho⟩ := exo_at I.hok e; obtain ⟨hp, g, d, t, os⟩ := s
  refine PySem.W.set_plain I.kIn (ox := { cls := .ref C, dict := none, data := .fields #[.ref t1, .none, .none, .none, .bool false, .none] }) (od := none) ⟨ho, rfl, rfl, trivial⟩ T.st (osaG SF I.kIn ho hcl hov rfl hno fun h2 t2 dx kk dn dne hx hn => ?_)
  have fr : H dx = none := I.hok.fresh dn
  have nd : ∀ b o, hp.get? b = some o → b ≠ dx := fun b o r => Nat.ne_of_lt (Nat.lt_of_lt_of_le (Heap.lt_size r) dn)
  have na : ∀ b, H b = none → b ≠ a := fun b r c => by rw [c, e] at r; cases r
  have ch : ∀ b o, H b = some o → b ≠ dx := fun b o r c => by rw [c, fr] at r; cases r
  refine k dx _ fr dne (I.un (t' := t2) ⟨fun b o r n _ _ => kk b o (na b n) r, fun b o r n _ _ => ⟨o.slots, kk b o (na b n) r⟩, fun b o r n _ => ?_, fun b o r _ => ?_, fun b xs r => ?_, fun b o v r => ?_, fun b ps r => ⟨#[], ?_⟩⟩ fun b o r => ?_)
  · rw [upd_ne (na b n), upd_ne (nd b o r), n]
  · by_cases c : b = a
    · subst c; exact ⟨_, hx⟩
    · exact ⟨o, kk b o c r⟩
  · rw [upd_ne (at_ne e r exo_tup), upd_ne (ch b _ r), r]
  · rw [upd_ne (at_ne e r exo_frz), upd_ne (ch b _ r), r]
  · rw [upd_ne (at_ne e r exo_tbl), upd_ne (ch b _ r), r]; simp
  · by_cases c : b = a
    · subst c
      rw [upd_same] at r
      cases r
      exact exo_ok hx
    · rw [upd_ne c] at r
      by_cases c2 : b = dx
      · subst c2
        rw [upd_same] at r
        cases r
        exact exd_ok hn (relO_put (fs := []) ry fun _ => trivial)
      · rw [upd_ne c2] at r
        refine (I.hok b o r).stay (fun m v hm z2 => kk m v ?_ z2) (fun m hm => ?_) fun m xs hm => ?_
        · rcases hm with hm | hm
          · exact hm ▸ c
          · exact at_ne e hm exo_own
        · rw [upd_ne (at_ne e hm exo_own), upd_ne (ch m _ hm), hm]
        · rw [upd_ne (at_ne e hm exo_tup), upd_ne (ch m _ hm), hm]
end
/-- self.f = e, of an error that has no field yet -/
def tOstH (K : PySem.W.Frag) (f : Str) (to te : TE) : TS := fun D z H => te z H fun y H1 => to z H1 fun x H2 => ∃ a C : Addr, x = .ref a ∧ OexH K C ∧ PySem.W.findIn K (.ref C) f = some none ∧ H2 a = some (exo a C none) ∧ ∀ dx, H2 dx = none → dx ≠ a → D.nx z (upd (upd H2 dx (exd dx [(f, y)])) a (exo a C (some dx)))
section
variable {X : Cx} {o e : Expr} {es : List Expr} {to te : TE} {ta : TA} {f : Str} {p p' pos : Pos}
theorem ps_ostH (ho : PE X o to) (he : PE X e te) (hs : swapsWith e (some (.Attribute o f p')) pos.line X.env = pure false := by rfl) : PS X (.Assign [.Attribute o f p'] e pos) (tOstH X.K f to te) :=
  ⟨fun pins s z H D I h => plainObj_wpAny_Assign_Attribute (thn (he.run pins s z H _ I h) fun v s1 ⟨y, H1, I1, r1, q1⟩ => thn (ho.run pins s1 z H1 _ I1 q1) fun u s2 ⟨x, H2, I2, r2, a, C, ex, T, hno, ea, q⟩ => by
    subst ex; obtain rfl : u = Value.ref a := r2
    exact ostH T I2 ea hno r1 fun dx s3 n ne J => ⟨z, _, J, q dx n ne⟩) hs⟩
theorem pmk_oexH {CX : CXT} {x : Str} {C fI : Addr} {k : Nat} {fd : FuncData} {ps : List Str} {sp : Sp} {ds : List Value} {dvs : List V} (T : OexH X.K C) (iC : PySem.W.findIn X.K (.ref C) "__init__" = some (some (.ref fI))) (tI : PySem.W.typeIn X.K (.ref fI) = some (.type "function"))
    (hr : Room (k + 1) X.A) (F1 : FnOk X.prog X.w X.K X.mg X.base CX k fI fd ps sp) (hb : Binds X.K fd ps ds) (hd : Vals dvs ds) (hx : Passes CX X (fun _ _ _ => False)) (hg : Gl X x) (hm : X.mg x = some (.ref C)) (ha : PA X (e :: es) ta)
    (hdb : (x == ("__debug__" : Str)) = false := by decide) (he : starEach (e :: es) X.env = (false, eval e X.env) :: starEach es X.env := by rfl) (hpl : (backTo pos (starEach es X.env)).any (·.1) = false := by rfl) : PMk X (.Call (.Name x p) (e :: es) [] pos) (tMkO C sp dvs ta) := fun pins s z H Q I h => by
  obtain ⟨B, newId, initId, bmB0, B2, bmB, FB, SF, nm, q, N, bs, bm, sn, sub, ab, col, dd, k0, k1, k2, k3, k5, hC, hbm, c0, cA, cN⟩ := T.wh
  refine wpAny_Call_Name_kw (ld_glob I hg hm (PySem.W.callWith_K (h₀ := X.base) I.ok.mod.kin T.kp (thn (ha.run pos pins s z H _ I h) fun us s1 ⟨vs, H1, I1, r1, hz, q1⟩ => ⟨I1.kIn, ?_⟩) he hpl) hdb)
  show wpAny _ _ (call (.ref C) us) _ _ _; obtain ⟨hp, g, dr, tk, os⟩ := s1
  let b := hp.objs.size + 1
  let h2 := (hp.push (PySem.W.kdv_tup us)).push (PySem.HandSPX.excO C hp.objs.size)
  have le : hp.objs.size ≤ b := Nat.le_succ _
  have hq := q1 b (I1.hok.fresh le)
  have kk : ∀ c o, hp.get? c = some o → h2.get? c = some o := fun c o r => Heap.get?_push_of_some _ (Heap.get?_push_of_some _ r)
  have gb : h2.get? b = some (PySem.HandSPX.excO C hp.objs.size) := by
    show ((hp.push (PySem.W.kdv_tup us)).push (PySem.HandSPX.excO C hp.objs.size)).get? (hp.objs.size + 1) = _
    heap_get
  have I2 : Inv X pins z (upd H1 b (exo b C none)) ⟨h2, g, dr, tk, os⟩ := I1.laid (t' := tk) (a := b) (h' := h2) kk le (exo_ok gb)
  have r2 : Vals (V.ref b :: (vs ++ dvs)) (Value.ref b :: (us ++ ds)) := .cons rfl (r1.append hd)
  have ln : (Value.ref b :: us ++ ds).length = ps.length := r2.length.symm.trans (F1.len _ _ _ _ hq)
  have lu : us.length ≤ sizeLine := by rw [← Paired.length r1, sizeLine_eq]; omega
  refine wpAny_call (PySem.HandSPX.call_ownK FB c0 cA cN (I1.kIn _ _ hC) (PySem.W.looks_findIn I1.kIn iC) (fun self => PySem.W.bind_fn I1.kIn self tI) lu (codeAny_mono (F1.run _ X.stack _ _ ⟨Value.ref b :: us, []⟩ (Value.ref b :: (us ++ ds)) _ _ (fun _ _ _ => False) (hr.make C us []) (I2.env0.make C us []) (hb _ (Value.ref b :: us) I2.kIn ln) r2 hq) fun r s2 hq2 => ?_))
  cases r with
  | error er => exact hx pins z _ _ er s2 I2 hq2
  | ok fl => cases fl with
    | ret u =>
      obtain ⟨v, H2, o2, br, un2, hok2, rv, ev, d, fs, ea, ed, hd1, q2⟩ := hq2
      subst ev; obtain ⟨h3, g2, d2, t2, o3⟩ := s2
      exact ⟨rv, mk_end (raises_own T.be T.ty) I1 le kk un2 hok2 o2 br ea ed hd1 q2⟩
    | next => exact hq2.elim
    | brk => exact hq2.elim
    | cont => exact hq2.elim
end
/-- what the text says of the error's class -/
structure ErrH (P : Program) (w : World) (K : PySem.W.Frag) (mg : Str → Option Value) (base : Heap) (x f : Str) (C : Addr) : Prop where
  oex : OexH K C
  mgC : mg x = some (.ref C)
  ini : ∃ fI fd, PySem.W.findIn K (.ref C) "__init__" = some (some (.ref fI)) ∧ PySem.W.typeIn K (.ref fI) = some (.type "function") ∧ FnOk P w K mg base CX0 1 fI fd ["self", f] (spInit K C f) ∧ Binds K fd ["self", f] [] ∧ ∀ (s : Shared) (y u : Value), BindsTo s fd ⟨[y], [(f, u)]⟩ ((["self", f] : List Str).zip [y, u])
section
variable {T : Tx} {X : Cx} {C : Addr} {cn9 : String} {x f : Str} {e : Expr} {g : Ws → Hv → Res (List W)} {p pos pos' : Pos}
theorem ss_raiseH (Z : ErrH X.prog X.w X.K X.mg X.base x f C) (hcv : T.cv cn9 = .ref C) (hr : Room 2 X.A) (hg : Gl X x) (ha : SA T X [e] g) (hc : X.calm = true := by rfl) (hdb : (x == ("__debug__" : Str)) = false := by decide)
    (he : starEach [e] X.env = (false, eval e X.env) :: starEach [] X.env := by rfl) (hpl : (backTo pos' (starEach [] X.env)).any (·.1) = false := by rfl) : SS T X (.Raise (some (.Call (.Name x p) [e] [] pos')) none pos) (mRaise cn9 f g) := fun E cn => by
  obtain ⟨fI, fd, h1, h2, h3, h4, _⟩ := Z.ini
  refine PSi (ps_raise hc cn.tk (pmk_oexH Z.oex h1 h2 hr h3 h4 .nil pass0 hg Z.mgC (ha E cn) hdb he hpl)) fun D s H ⟨ps, r, hv, es, vw, gd⟩ => ?_
  refine ⟨ps, r, hv, es, vw, (good_andS (R := WVs) es gd).imp (fun vs H1 q => ?_) fun _ _ _ z => z⟩
  obtain ⟨qs, ws, hh, st, vw1, wv, es1, g1⟩ := q
  split at g1
  · rename_i w
    obtain ⟨v, rfl, wv1⟩ := one_of wv
    refine ⟨by simp, fun a na => ⟨a, v, rfl, upd_same, fun dx hd ne => ⟨rfl, dx, [(f, v)], upd_same, by rw [upd_ne ne, upd_same], ?_, ?_⟩⟩⟩
    · rw [upd_ne ne] at hd
      exact hd
    · rw [upd_ne ne] at hd
      have eqH : upd (del (upd (upd (upd H1 a (exo a C none)) dx (exd dx [(f, v)])) a (exo a C (some dx))) a) dx (.xd [(f, v)]) = upd H1 dx (.xd [(f, v)]) := by
        funext b
        by_cases hb : b = dx
        · rw [hb, upd_same, upd_same]
        · rw [upd_ne hb, upd_ne hb]
          by_cases ha : b = a
          · rw [ha, del_same, na]
          · rw [del_ne ha, upd_ne ha, upd_ne hb, upd_ne ha]
      rw [eqH]
      obtain ⟨vw2, st2, e2⟩ := vw1.alloc hd (o := .xd [(f, w)]) (u := .xd [(f, v)]) ⟨_, .cons ⟨rfl, wv1⟩ .nil, upd_same⟩
      rw [← hcv]
      exact g1 _ _ s (some dx) st2 vw2 (es1.mono st2.pre) ⟨dx, e2, rfl⟩
  · exact g1.elim
end

/-! ### an error as a value -/
theorem kbind1 {K : PySem.W.Frag} {x qual fl : Str} {st : Stmt} {f : Addr} {fd : FuncData} {ps : List Str} (F : Fun K x qual st f fd)
    (h : ∀ (kV doc pm : Value) (an : Option Addr) (cdv ct u v : Value), bindArgs (PySem.W.fnOf x qual (defArgs st) (defBody st) (defScope st) .none kV doc pm an cdv ct) ⟨[u], [(fl, v)]⟩ = pure (ps.zip [u, v])) (s : Shared) (u v : Value) : BindsTo s fd ⟨[u], [(fl, v)]⟩ (ps.zip [u, v]) := by
  obtain ⟨oc, od, kV, doc, pm, an, cdv, ct, osl, e, l, c⟩ := F.ex
  subst e
  exact .of_eq (h kV doc pm an cdv ct u v)
section
variable {X : Cx} {C : Addr} {f x : Str} {e : Expr} {ta : TA} {p pos : Pos}
theorem run_mkV (Z : ErrH X.prog X.w X.K X.mg X.base x f C) (hr : Room 2 X.A) {pins : List (Addr × Obj)} {z : L2.St} {H1 : Hp} {s1 : Shared} {Q : VK} {v : V} {u : Value} {rest : List Value} {kw : List (Str × Value)} (hrk : (rest = [u] ∧ kw = []) ∨ (rest = [] ∧ kw = [(f, u)])) (I1 : Inv X pins z H1 s1) (ru : RelV v u)
    (h : ∀ a dx, H1 a = none → H1 dx = none → dx ≠ a → Q (.ref a) (upd (upd H1 dx (exd dx [(f, v)])) a (exo a C (some dx)))) : wpAny (model X.prog X.w) X.A (call (.ref C) rest kw) (EP X pins z Q) X.xe s1 := by
  obtain ⟨fI, fd, iC, tI, F1, b1, b2⟩ := Z.ini
  obtain ⟨B, newId, initId, bmB0, B2, bmB, FB, SF, nm, q, N, bs, bm, sn, sub, ab, col, dd, k0, k1, k2, k3, k5, hC, hbm, c0, cA, cN⟩ := Z.oex.wh
  rcases s1 with ⟨hp, g, dr, tk, os⟩
  let b := hp.objs.size + 1
  let h2 := (hp.push (PySem.W.kdv_tup rest)).push (PySem.HandSPX.excO C hp.objs.size)
  have le : hp.objs.size ≤ b := Nat.le_succ _
  have nb : H1 b = none := I1.hok.fresh le
  have kk : ∀ c o, hp.get? c = some o → h2.get? c = some o := fun c o r => Heap.get?_push_of_some _ (Heap.get?_push_of_some _ r)
  have gb : h2.get? b = some (PySem.HandSPX.excO C hp.objs.size) := by
    show ((hp.push (PySem.W.kdv_tup rest)).push (PySem.HandSPX.excO C hp.objs.size)).get? (hp.objs.size + 1) = _
    heap_get
  have I2 : Inv X pins z (upd H1 b (exo b C none)) ⟨h2, g, dr, tk, os⟩ := I1.laid (t' := tk) (a := b) (h' := h2) kk le (exo_ok gb)
  have hq : spInit X.K C f [.ref b, v] (upd H1 b (exo b C none)) (fun y H' => y = .non ∧ Q (.ref b) H') (fun _ _ _ => False) := ⟨b, v, rfl, upd_same, fun dx hd ne => ⟨rfl, by
    rw [upd_ne ne] at hd
    have eqH : upd (upd (upd H1 b (exo b C none)) dx (exd dx [(f, v)])) b (exo b C (some dx)) = upd (upd H1 dx (exd dx [(f, v)])) b (exo b C (some dx)) := by
      funext c
      by_cases hb : c = b
      · rw [hb, upd_same, upd_same]
      · rw [upd_ne hb, upd_ne hb]
        by_cases hd2 : c = dx
        · rw [hd2, upd_same, upd_same]
        · rw [upd_ne hd2, upd_ne hd2, upd_ne hb]
    rw [eqH]
    exact h b dx nb hd ne⟩⟩
  have bt : BindsTo (⟨h2, g, dr, tk, os⟩ : Shared) fd ⟨.ref b :: rest, kw⟩ ((["self", f] : List Str).zip [.ref b, u]) := by
    rcases hrk with ⟨rfl, rfl⟩ | ⟨rfl, rfl⟩
    · exact b1 _ [.ref b, u] I2.kIn rfl
    · exact b2 _ _ _
  have lr : rest.length ≤ sizeLine := by
    rcases hrk with ⟨rfl, rfl⟩ | ⟨rfl, rfl⟩ <;> simp [sizeLine_eq]
  refine wpAny_call (PySem.HandSPX.call_ownK FB c0 cA cN (I1.kIn _ _ hC) (PySem.W.looks_findIn I1.kIn iC) (fun self => PySem.W.bind_fn I1.kIn self tI) lr (codeAny_mono (F1.run _ X.stack _ _ ⟨.ref b :: rest, kw⟩ [.ref b, u] [.ref b, v] _ (fun _ _ _ => False) (hr.make C rest kw) (I2.env0.make C rest kw) bt (.cons rfl (.cons ru .nil)) hq) fun r s2 hq2 => ?_))
  cases r with
  | error er => exact pass0 pins z _ _ er s2 I2 hq2
  | ok fl => cases fl with
    | ret w =>
      obtain ⟨y, H', I3, rv, ev, q3⟩ := I2.after hq2
      subst ev
      exact ⟨rv, .ref b, H', I3, rfl, q3⟩
    | next => exact hq2.elim
    | brk => exact hq2.elim
    | cont => exact hq2.elim
def tMkV (C : Addr) (f : Str) (ta : TA) : TE := fun z H Q => ta z H fun vs H1 => ∃ v, vs = [v] ∧ ∀ a dx, H1 a = none → H1 dx = none → dx ≠ a → Q (.ref a) (upd (upd H1 dx (exd dx [(f, v)])) a (exo a C (some dx)))
theorem pe_mkV (Z : ErrH X.prog X.w X.K X.mg X.base x f C) (hr : Room 2 X.A) (hg : Gl X x) (ha : PA X [e] ta) (hdb : (x == ("__debug__" : Str)) = false := by decide)
    (he : starEach [e] X.env = (false, eval e X.env) :: starEach [] X.env := by rfl) (hpl : (backTo pos (starEach [] X.env)).any (·.1) = false := by rfl) : PE X (.Call (.Name x p) [e] [] pos) (tMkV C f ta) := ⟨fun pins s z H Q I h => by
  refine wpAny_Call_Name_kw (ld_glob I hg Z.mgC (PySem.W.callWith_K (h₀ := X.base) I.ok.mod.kin Z.oex.kp (thn (ha.run pos pins s z H _ I h) fun us s1 ⟨vs, H1, I1, r1, v, ev, q1⟩ => ⟨I1.kIn, ?_⟩) he hpl) hdb)
  subst ev
  obtain ⟨u9, rfl, ru⟩ := vals1 r1
  exact run_mkV Z hr (.inl ⟨rfl, rfl⟩) I1 ru q1⟩
theorem pe_mkVK {kws : List Keyword} (Z : ErrH X.prog X.w X.K X.mg X.base x f C) (hr : Room 2 X.A) (hg : Gl X x) (hkw : PK X kws ta) (hall : (backToKw pos (keywordEach kws X.env)).all (·.1.isSome) = true := by rfl) (hks : (backToKw pos (keywordEach kws X.env)).filterMap (·.1) = [f] := by rfl)
    (hdb : (x == ("__debug__" : Str)) = false := by decide) (hpl : ((backTo pos (starEach [] X.env)).any (·.1) || (backToKw pos (keywordEach kws X.env)).any (·.1.isNone)) = false := by rfl) : PE X (.Call (.Name x p) [] kws pos) (tMkV C f ta) := ⟨fun pins s z H Q I h => by
  refine wpAny_Call_Name_kw (ld_glob I hg Z.mgC (PySem.W.callWith_KW0 (h₀ := X.base) I.ok.mod.kin Z.oex.kp hall (thn (hkw.run pos pins s z H _ I h) fun us s1 ⟨vs, H1, I1, r1, v, ev, q1⟩ => ⟨I1.kIn, ?_⟩) hpl) hdb)
  subst ev
  obtain ⟨u9, rfl, ru⟩ := vals1 r1
  rw [hks]
  exact run_mkV Z hr (.inr ⟨rfl, rfl⟩) I1 ru q1⟩
/-- e.n, e an error -/
theorem pe_erf {te : TE} {n : Str} (Y : XfC X.K C) (hno : PySem.W.findIn X.K (.ref C) n = some none) (he : PE X e te) (hb : attributeBase e n X.env (eval e X.env) = eval e X.env := by rfl) :
    PE X (.Attribute e n pos) (fun z H Q => te z H fun y H1 => ∃ a dd fs v, y = .ref a ∧ H1 a = some (exo a C (some dd)) ∧ H1 dd = some (exd dd fs) ∧ fs.lookup n = some v ∧ Q v H1) := ⟨fun pins s z H Q I h => attr_of hb (thn (he.run pins s z H _ I h) fun u s1 hh => by
  obtain ⟨y, H1, I1, rx, a, dd, fs, v, ex, ea, ed, l, q⟩ := hh
  subst ex
  have eu : u = Value.ref a := rx
  subst eu
  obtain ⟨t1, ho⟩ := exo_at I1.hok ea
  obtain ⟨mA, hns, hr⟩ := exd_at I1.hok ed
  obtain ⟨od, hod, hl⟩ := lookIn_ns hns
  obtain ⟨u9, hu, ru⟩ := RelO.some_of (v := v) (o := mA n) (by rw [← l]; exact hr n)
  exact HandSPX.exc_get I1.kIn (ox := { cls := .ref C, dict := some dd, data := .fields #[.ref t1, .none, .none, .none, .bool false, .none] }) (od := some od) ⟨ho, rfl, rfl, hod⟩ Y.ga Y.gg Y.exC (PySem.W.findObj_own Y.hdC hno rfl (by rw [hl, hu])) (handed_of ru) ⟨v, H1, I1.tok _, ru, q⟩)⟩
/-- isinstance(e, c), e an error -/
def rIsV (K : PySem.W.Frag) (cv : Value) : List V → Hp → VK → Prop := fun xs H Q => ∃ (a D dd : Addr) (fs : List (Str × V)) (c : V) (b : Bool), xs = [.ref a, c] ∧ ExcC K D ∧ H a = some (exo a D (some dd)) ∧ H dd = some (exd dd fs) ∧ (∀ u, RelV c u → u = cv) ∧ PySem.W.kitOne K (.ref D) cv = some b ∧ Q (.bl b) H
theorem call_isV {cv : Value} : CallR X (.builtin "isinstance") (rIsV X.K cv) := by
  intro pins s σ H xs us Q I r h; obtain ⟨a, D, dd, fs, c, b, rfl, Z, ea, ed, hcv, e, q⟩ := h
  cases r with
  | cons rx rr => cases rr with
    | cons rt rr =>
      cases rr; cases rx; obtain rfl := hcv _ rt
      obtain ⟨t1, ho⟩ := exo_at I.hok ea
      obtain ⟨mA, hns, hr⟩ := exd_at I.hok ed
      obtain ⟨od, hod, hl⟩ := lookIn_ns hns
      exact PySem.W.kia_one (VX.kit_of (x := a) (ox := { cls := .ref D, dict := some dd, data := .fields #[.ref t1, .none, .none, .none, .bool false, .none] }) Z) I.kIn ⟨some od, ho, rfl, rfl, hod⟩ e (fun z => nomatch z) fun tk => ⟨.bl b, H, I.kept (t' := tk) fun _ _ z => z, rfl, q⟩
end
/-! ### the mirrors -/
def mMkO (c : String) (f : Str) (ws : List W) (h : Hv) : Res W := match ws with
  | [w] => .val (.ref (h.length + 1)) (h ++ [.xdd [(f, w)]] ++ [.err c h.length])
  | _ => .bad
def mMkV (c : String) (f : Str) (g : Ws → Hv → Res (List W)) : Ws → Hv → Res W := fun r h => (g r h).bind (mMkO c f)
def mErO (c : String) (f : Str) (w : W) (h : Hv) : Res W := match w with
  | .ref p => (match h[p]? with
    | some (.err d j) => if d = c then (match h[j]? with
      | some (.xdd fs) => ofO (fs.lookup f) h
      | _ => .bad) else .bad
    | _ => .bad)
  | _ => .bad
def mEr (c : String) (f : Str) (g : Ws → Hv → Res W) : Ws → Hv → Res W := fun r h => (g r h).bind (mErO c f)
def mIvO (tb : List (String × Bool)) (w : W) (h : Hv) : Res W := match w with
  | .ref p => (match h[p]? with
    | some (.err d j) => (match h[j]?, tb.lookup d with
      | some (.xdd _), some b => .val (.bl b) h
      | _, _ => .bad)
    | _ => .bad)
  | _ => .bad
def mIv (tb : List (String × Bool)) (g : Ws → Hv → Res W) : Ws → Hv → Res W := fun r h => (g r h).bind (mIvO tb)
section
variable {T : Tx} {X : Cx} {C : Addr} {cn9 : String} {x f : Str} {e : Expr} {g : Ws → Hv → Res (List W)} {fe : Ws → Hv → Res W} {p pos : Pos}
theorem mk_read {ta : TA} {E : WX} (hcv : T.cv cn9 = .ref C) {s : L2.St} {H : Hp} {Q : VK} (h : tE T E (mMkV cn9 f g) s H Q) : tMkV C f (tA T E g) s H Q := by
  obtain ⟨ps, r, hv, es, vw, gd⟩ := h
  refine ⟨ps, r, hv, es, vw, (Good.bind (R := WVs) (S := WV) gd).imp (fun v H1 q => ?_) fun _ _ _ z => z⟩
  obtain ⟨qs, ws, h1, st, vw1, wv, g1⟩ := q
  unfold mMkO at g1
  split at g1
  · rename_i w
    obtain ⟨v, rfl, wv1⟩ := one_of wv
    refine ⟨v, rfl, fun a dx na nd ne => ?_⟩
    obtain ⟨vw2, st2, e2⟩ := vw1.alloc nd (o := .xdd [(f, w)]) (u := exd dx [(f, v)]) ⟨_, .cons ⟨rfl, wv1⟩ .nil, upd_same⟩
    have na2 : upd H1 dx (exd dx [(f, v)]) a = none := by rw [upd_ne (Ne.symm ne)]; exact na
    obtain ⟨vw3, st3, e3⟩ := vw2.alloc na2 (o := .err cn9 h1.length) (u := exo a C (some dx)) ⟨C, dx, hcv, e2, upd_same⟩
    have ln : (h1 ++ [O.xdd [(f, w)]]).length = h1.length + 1 := by simp
    rw [ln] at e3
    exact g1 _ _ _ (st2.trans st3) vw3 ⟨a, e3, rfl⟩
  · exact g1.elim
theorem se_mkV (Z : ErrH X.prog X.w X.K X.mg X.base x f C) (hcv : T.cv cn9 = .ref C) (hr : Room 2 X.A) (hg : Gl X x) (ha : SA T X [e] g) (hdb : (x == ("__debug__" : Str)) = false := by decide)
    (he : starEach [e] X.env = (false, eval e X.env) :: starEach [] X.env := by rfl) (hpl : (backTo pos (starEach [] X.env)).any (·.1) = false := by rfl) : SE T X (.Call (.Name x p) [e] [] pos) (mMkV cn9 f g) := fun E cn => PEi (pe_mkV Z hr hg (ha E cn) hdb he hpl) fun s H Q h => mk_read (ta := tA T E g) hcv h
theorem kw_read {E : WX} {s : L2.St} {H : Hp} {Q : List V → Hp → Prop} (h : tA T E (mCons fe mNil) s H Q) : tCons (tE T E fe) tNil s H Q := by
  obtain ⟨ps, r, hv, es, vw, gd⟩ := h
  refine ⟨ps, r, hv, es, vw, (Good.bind (R := WV) (S := WVs) gd).imp (fun v H1 q => ?_) fun _ _ _ z => z⟩
  obtain ⟨qs, w, h1, st, vw1, wv, g1⟩ := q
  exact Good.now (R := WVs) g1 vw1 (.cons wv .nil)
theorem PKi {kws : List Keyword} {t t' : TA} (h : PK X kws t) (k : ∀ s H Q, t' s H Q → t s H Q) : PK X kws t' := ⟨fun pos pins s σ H Q I hw => h.run pos pins s σ H Q I (k _ _ _ hw)⟩
theorem se_mkVK {nm : Option Str} {kpos : Pos} (Z : ErrH X.prog X.w X.K X.mg X.base x f C) (hcv : T.cv cn9 = .ref C) (hr : Room 2 X.A) (hg : Gl X x) (he : SE T X e fe) (hall : (backToKw pos (keywordEach [⟨nm, e, kpos⟩] X.env)).all (·.1.isSome) = true := by rfl) (hks : (backToKw pos (keywordEach [⟨nm, e, kpos⟩] X.env)).filterMap (·.1) = [f] := by rfl)
    (hdb : (x == ("__debug__" : Str)) = false := by decide) (hpl : ((backTo pos (starEach [] X.env)).any (·.1) || (backToKw pos (keywordEach [⟨nm, e, kpos⟩] X.env)).any (·.1.isNone)) = false := by rfl) : SE T X (.Call (.Name x p) [] [⟨nm, e, kpos⟩] pos) (mMkV cn9 f (mCons fe mNil)) := fun E cn =>
  PEi (pe_mkVK Z hr hg (PKi (pk_cons (he E cn) pk_nil) fun s H Q h => kw_read h) hall hks hdb hpl) fun s H Q h => mk_read (ta := tA T E (mCons fe mNil)) hcv h
theorem se_er {n : Str} (Y : XfC X.K C) (hno : PySem.W.findIn X.K (.ref C) n = some none) (hcv : T.cv cn9 = .ref C) (he : SE T X e fe) (hb : attributeBase e n X.env (eval e X.env) = eval e X.env := by rfl) : SE T X (.Attribute e n pos) (mEr cn9 n fe) := fun E cn => PEi (pe_erf Y hno (he E cn) hb) fun s H Q ⟨ps, r, hv, es, vw, gd⟩ => by
  refine ⟨ps, r, hv, es, vw, (Good.bind (R := WV) (S := WV) gd).imp (fun v H1 q => ?_) fun _ _ _ z => z⟩
  obtain ⟨qs, w, h1, st, vw1, wv, g1⟩ := q
  unfold mErO at g1
  split at g1
  · obtain ⟨a, ea, rfl⟩ := wv
    split at g1
    · rename_i d j e1
      split at g1
      · rename_i hd
        subst hd
        split at g1
        · rename_i fs e2
          obtain ⟨w, ew, g2⟩ := ofO_of g1
          obtain ⟨C', dx, hc, ej, eH⟩ := vw1.ob _ a _ ea e1
          rw [hcv] at hc
          cases hc
          obtain ⟨vs, rr, eX⟩ := vw1.ob _ dx _ ej e2
          obtain ⟨v, ev, wv⟩ := paired_lookup rr ew
          exact ⟨a, dx, vs, v, rfl, eH, eX, ev, Good.now g2 vw1 wv⟩
        · exact g1.elim
      · exact g1.elim
    · exact g1.elim
  · exact g1.elim
theorem se_iv {ec : Expr} {c : V} {cv : Value} {tb : List (String × Bool)} (htb : ∀ d b, tb.lookup d = some b → ∃ D, T.cv d = .ref D ∧ ExcC X.K D ∧ PySem.W.kitOne X.K (.ref D) cv = some b) (hgi : Gl X "isinstance") (hmi : X.mg "isinstance" = none) (he : SE T X e fe) (hc : PE X ec (tC c)) (hcv : ∀ u, RelV c u → u = cv)
    (hs1 : starEach [e, ec] X.env = (false, eval e X.env) :: starEach [ec] X.env := by rfl) (hs2 : starEach [ec] X.env = (false, eval ec X.env) :: starEach [] X.env := by rfl) (hpl : (backTo pos (starEach [ec] X.env)).any (·.1) = false := by rfl) :
    SE T X (.Call (.Name "isinstance" p) [e, ec] [] pos) (mIv tb fe) := fun E cn =>
  PEi (pe_callB (call_isV (cv := cv)) hgi hmi (by decide +kernel) (pa_cons (he E cn) (pa_cons hc pa_nil hs2) hs1) (by decide) (by decide) hs1 hpl) fun s H Q ⟨ps, r, hv, es, vw, gd⟩ => by
    refine ⟨ps, r, hv, es, vw, (Good.bind (R := WV) (S := WV) gd).imp (fun v H1 q => ?_) fun _ _ _ z => z⟩
    obtain ⟨qs, w, h1, st, vw1, wv, g1⟩ := q
    unfold mIvO at g1
    split at g1
    · obtain ⟨a, ea, rfl⟩ := wv
      split at g1
      · rename_i d j e1
        split at g1
        · rename_i fs b e2 e3
          obtain ⟨C', dx, hc', ej, eH⟩ := vw1.ob _ a _ ea e1
          obtain ⟨D, h2, h3, h4⟩ := htb d b e3
          rw [hc'] at h2
          cases h2
          obtain ⟨vs, rr, eX⟩ := vw1.ob _ dx _ ej e2
          exact ⟨a, C', dx, vs, c, b, rfl, h3, eH, eX, hcv, h4, Good.now g1 vw1 rfl⟩
        · exact g1.elim
      · exact g1.elim
    · exact g1.elim
end
end VL
end
section
namespace VL
open PySem L2 PySem.Spec PyProof.Rows
/-! ### a piece that needs little of the view: some plain names, and at most one flat object -/
def plainO : Option W → Option W
  | some w => if plainW w then some w else none
  | none => none
def keepR (ks : List Nat) : Nat → Ws → Ws
  | _, [] => []
  | i, o :: r => (if ks.contains i then plainO o else none) :: keepR ks (i + 1) r
def offR (r : Ws) : Ws := r.map fun _ => none
theorem keepR_len {ks : List Nat} : ∀ (i : Nat) (r : Ws), (keepR ks i r).length = r.length
  | _, [] => rfl
  | i, o :: r => by simp [keepR, keepR_len (i + 1) r]
theorem keepR_at {ks : List Nat} : ∀ (i : Nat) (r : Ws) (j : Nat) (w : W), (keepR ks i r)[j]? = some (some w) → r[j]? = some (some w) ∧ plainW w = true
  | _, [], j, w, h => by simp [keepR] at h
  | i, o :: r, 0, w, h => by
    simp only [keepR, List.getElem?_cons_zero, Option.some.injEq] at h
    split at h
    · cases o with
      | none => cases h
      | some u =>
        simp only [plainO] at h
        split at h
        · rename_i hp
          cases h
          exact ⟨rfl, hp⟩
        · cases h
    · cases h
  | i, o :: r, j + 1, w, h => by
    simp only [keepR, List.getElem?_cons_succ] at h ⊢
    exact keepR_at (i + 1) r j w h
theorem es_keep {ps qs : List Addr} {ks : List Nat} {r : Ws} {s : L2.St} (e : ES ps r s) : ES qs (keepR ks 0 r) s := ⟨by rw [keepR_len]; exact e.1, fun i w h => by
  obtain ⟨h1, h2⟩ := keepR_at 0 r i w h
  obtain ⟨v, a, b⟩ := e.2 i w h1
  exact ⟨v, a, plainW_any h2 b⟩⟩
theorem es_off {ps qs : List Addr} {r : Ws} {s : L2.St} (e : ES ps r s) : ES qs (offR r) s := ⟨by simp [offR, e.1], fun i w h => by
  unfold offR at h
  rw [List.getElem?_map] at h
  cases q : r[i]? with
  | none => rw [q] at h; cases h
  | some o => rw [q] at h; cases h⟩
def mLocal (ks : List Nat) (b : MS) : MS := fun r h => match b (keepR ks 0 r) [] with
  | .nx r1 _ => .nx (offR r1) h
  | .rt w _ => if plainW w then .rt w h else .bad
  | _ => .bad
theorem sss_local_read {T : Tx} {ks : List Nat} {b : MS} {E : WX} {D : Ends} {s : L2.St} {H : Hp} (hC : T.C []) (h : tS T E (mLocal ks b) D s H) : tS T E b D s H := by
  obtain ⟨ps, r, hv, es, vw, gd⟩ := h
  refine ⟨[], keepR ks 0 r, [], es_keep es, vw.nil hC, ?_⟩
  unfold mLocal at gd
  cases q : b (keepR ks 0 r) [] with
  | nx r1 h1 =>
    rw [q] at gd
    intro qs H' s' st vw' es'
    obtain ⟨v2, s2⟩ := vw.over st vw'
    exact gd ps H' s' s2 v2 (es_off es')
  | rt w h1 =>
    rw [q] at gd
    dsimp only at gd
    split at gd
    · rename_i hp
      intro qs H' v st vw' wv
      obtain ⟨v2, s2⟩ := vw.over st vw'
      exact gd ps H' v s2 v2 (plainW_any hp wv)
    · exact gd.elim
  | bk r1 h1 => rw [q] at gd; exact gd.elim
  | ct r1 h1 => rw [q] at gd; exact gd.elim
  | exc c d r1 h1 => rw [q] at gd; exact gd.elim
  | bad => rw [q] at gd; exact gd.elim
theorem sss_local {T : Tx} {X : Cx} {sts : List Stmt} {b : MS} (ks : List Nat) (hC : T.C []) (h : SSs T X sts b) : SSs T X sts (mLocal ks b) := fun E cn => PSsi (h E cn) fun D s H h9 => sss_local_read hC h9
/-- a flat object: its items are plain -/
def flatO : O → Bool
  | .lst xs => xs.all plainW
  | .tup xs => xs.all plainW
  | _ => false
def sameO : Option O → O → Bool
  | some (.lst xs), .lst ys => decide (xs = ys)
  | some (.tup xs), .tup ys => decide (xs = ys)
  | _, _ => false
theorem flat_pair {ps qs : List Addr} : ∀ {xs : List W} {vs : List V}, xs.all plainW = true → Paired (WV ps) xs vs → Paired (WV qs) xs vs
  | [], _, _, .nil => .nil
  | x :: xs, _, h, .cons r t => by
    simp only [Bool.and_eq_true, List.all_cons] at h
    exact .cons (plainW_any h.1 r) (flat_pair h.2 t)
theorem flat_at {T : Tx} {ps qs : List Addr} {H : Hp} {a : Addr} : ∀ {o : O}, flatO o = true → OAt T ps H a o → OAt T qs H a o
  | .lst xs, h, ⟨vs, r, e⟩ => ⟨vs, flat_pair h r, e⟩
  | .tup xs, h, ⟨vs, r, e⟩ => ⟨vs, flat_pair h r, e⟩
theorem same_eq : ∀ {u : Option O} {o : O}, sameO u o = true → u = some o
  | some (.lst xs), .lst ys, h => by rw [of_decide_eq_true h]
  | some (.tup xs), .tup ys, h => by rw [of_decide_eq_true h]
def mLocal1 (i : Nat) (ks : List Nat) (b : MS) : MS := fun r h => match r[i]? with
  | some (some (.ref p)) => (match h[p]? with
    | some o => if flatO o then (match b ((keepR ks 0 r).set i (some (.ref 0))) [o] with
      | .nx r1 h1 => if sameO h1[0]? o then .nx (offR r1) h else .bad
      | .rt w h1 => if sameO h1[0]? o && plainW w then .rt w h else .bad
      | _ => .bad) else .bad
    | none => .bad)
  | _ => mLocal ks b r h
theorem View.over1 {T : Tx} {ps qs : List Addr} {h h' : Hv} {H H1 : Hp} {p : Nat} {a : Addr} {o : O} (v : View T ps h H) (ea : ps[p]? = some a) (eo : h[p]? = some o) (fo : flatO o = true) (s : Step [a] H qs H1) (v1 : View T qs h' H1) (e0 : h'[0]? = some o) : View T ps h H1 ∧ Step ps H ps H1 := by
  have q0 : qs[0]? = some a := at_pre s.pre rfl
  have keep : ∀ b u, H b = some u → (∀ z, u ≠ .tbl z) → b ≠ a → H1 b = some u := fun b u e ht n => s.fr b u e ht (by simpa using n)
  refine ⟨⟨v.len, v.nd, fun i b o' e1 e2 => ?_, v1.tab, v.fact⟩, ⟨List.prefix_refl _, fun _ _ h n _ => absurd h n, fun b u e ht n => keep b u e ht fun z => n (by rw [z]; exact List.mem_of_getElem? ea)⟩⟩
  by_cases hb : b = a
  · have hi : i = p := by
      have h1 := List.getElem?_eq_some_iff.mp ea
      have h2 := List.getElem?_eq_some_iff.mp e1
      exact (List.getElem_inj v.nd).mp (h2.2.trans (hb.trans h1.2.symm))
    subst hi
    rw [eo] at e2
    cases e2
    subst hb
    exact flat_at fo (v1.ob 0 b o q0 e0)
  · have q := v.ob i b o' e1 e2
    obtain ⟨u, hu, ht⟩ := q.there
    exact q.put fun u' hu' => by
      rw [hu] at hu'
      cases hu'
      exact keep b u hu ht hb
theorem View.one {T : Tx} {ps : List Addr} {h : Hv} {H : Hp} {p : Nat} {a : Addr} {o : O} (v : View T ps h H) (ea : ps[p]? = some a) (eo : h[p]? = some o) (fo : flatO o = true) (hC : T.C [a]) : View T [a] [o] H := ⟨rfl, by simp, fun i b u e1 e2 => by
  match i, e1, e2 with
  | 0, e1, e2 =>
    cases e1; cases e2
    exact flat_at fo (v.ob p a o ea eo)
  | i + 1, e1, e2 => simp at e1, v.tab, hC⟩
theorem sss_local1 {T : Tx} {X : Cx} {sts : List Stmt} {b : MS} (i : Nat) (ks : List Nat) (hC : T.C []) (hC1 : ∀ a, T.C [a]) (h : SSs T X sts b) : SSs T X sts (mLocal1 i ks b) := fun E cn => PSsi (h E cn) fun D s H h9 => by
  obtain ⟨ps, r, hv, es, vw, gd⟩ := h9
  unfold mLocal1 at gd
  split at gd
  · rename_i p er
    split at gd
    · rename_i o eo
      split at gd
      · rename_i fo
        obtain ⟨v, sv, a, ea, rfl⟩ := es.2 i _ er
        have hl : i < s.length := (List.getElem?_eq_some_iff.mp sv).1
        have es2 : ES [a] ((keepR ks 0 r).set i (some (.ref 0))) s := by
          have z := (es_keep (qs := [a]) (ks := ks) es).set i (w := .ref 0) (v := .ref a) ⟨a, rfl, rfl⟩
          have e : s.set i (some (.ref a)) = s := by
            apply List.ext_getElem?
            intro j
            by_cases hj : j = i
            · subst hj
              rw [List.getElem?_set_self hl, sv]
            · rw [List.getElem?_set_ne (Ne.symm hj)]
          rw [e] at z
          exact z
        refine ⟨[a], _, [o], es2, vw.one ea eo fo (hC1 a), ?_⟩
        cases q : b ((keepR ks 0 r).set i (some (.ref 0))) [o] with
        | nx r1 h1 =>
          rw [q] at gd
          dsimp only at gd
          split at gd
          · rename_i hs
            intro qs H' s' st vw' es'
            obtain ⟨v2, s2⟩ := vw.over1 ea eo fo st vw' (same_eq hs)
            exact gd ps H' s' s2 v2 (es_off es')
          · exact gd.elim
        | rt w h1 =>
          rw [q] at gd
          dsimp only at gd
          split at gd
          · rename_i hs
            rw [Bool.and_eq_true] at hs
            intro qs H' v st vw' wv
            obtain ⟨v2, s2⟩ := vw.over1 ea eo fo st vw' (same_eq hs.1)
            exact gd ps H' v s2 v2 (plainW_any hs.2 wv)
          · exact gd.elim
        | bk r1 h1 => rw [q] at gd; exact gd.elim
        | ct r1 h1 => rw [q] at gd; exact gd.elim
        | exc c d r1 h1 => rw [q] at gd; exact gd.elim
        | bad => rw [q] at gd; exact gd.elim
      · exact gd.elim
    · exact gd.elim
  · exact (sss_local_read hC ⟨ps, r, hv, es, vw, gd⟩)
/-! ### what a piece has made is let go -/
def refLt (n : Nat) : W → Bool
  | .ref i => decide (i < n)
  | _ => true
def closedO (n : Nat) : O → Bool
  | .lst xs => xs.all (refLt n)
  | .tup xs => xs.all (refLt n)
  | .rol xs => xs.all (refLt n)
  | .dic kvs => kvs.all fun p => refLt n p.2
  | .ins _ fs => fs.all fun p => refLt n p.2
  | .xd fs => fs.all fun p => refLt n p.2
  | .err _ j => decide (j < n)
  | .xdd fs => fs.all fun p => refLt n p.2
def dropR (n : Nat) (r : Ws) : Ws := r.map fun o => match o with
  | some w => if refLt n w then some w else none
  | none => none
def mGc (b : MS) : MS := fun r h => match b r h with
  | .nx r1 h1 => if (h1.take h.length).all (closedO h.length) then .nx (dropR h.length r1) (h1.take h.length) else .bad
  | x => x
section
variable {T : Tx} {ps qs : List Addr} {n : Nat}
theorem pre_at (hp : ps <+: qs) {i : Nat} {a : Addr} (hi : i < ps.length) (e : qs[i]? = some a) : ps[i]? = some a := by
  obtain ⟨r, rfl⟩ := hp
  rw [List.getElem?_append_left hi] at e
  exact e
theorem wv_cut (hp : ps <+: qs) (hn : ps.length = n) : ∀ {w : W} {v : V}, refLt n w = true → WV qs w v → WV ps w v
  | .non, _, _, e => e
  | .bl _, _, _, e => e
  | .int _, _, _, e => e
  | .str _, _, _, e => e
  | .ty _, _, _, e => e
  | .fix _, _, _, e => e
  | .ref i, _, h, ⟨a, e1, e2⟩ => ⟨a, pre_at hp (by rw [hn]; exact of_decide_eq_true h) e1, e2⟩
theorem pair_cut (hp : ps <+: qs) (hn : ps.length = n) : ∀ {xs : List W} {vs : List V}, xs.all (refLt n) = true → Paired (WV qs) xs vs → Paired (WV ps) xs vs
  | [], _, _, .nil => .nil
  | x :: xs, _, h, .cons r t => by
    simp only [Bool.and_eq_true, List.all_cons] at h
    exact .cons (wv_cut hp hn h.1 r) (pair_cut hp hn h.2 t)
theorem pair2_cut {k : Type} (hp : ps <+: qs) (hn : ps.length = n) : ∀ {xs : List (k × W)} {vs : List (k × V)}, (xs.all fun p => refLt n p.2) = true → Paired (PW2 qs) xs vs → Paired (PW2 ps) xs vs
  | [], _, _, .nil => .nil
  | x :: xs, _, h, .cons r t => by
    simp only [Bool.and_eq_true, List.all_cons] at h
    exact .cons ⟨r.1, wv_cut hp hn h.1 r.2⟩ (pair2_cut hp hn h.2 t)
theorem oat_cut {H : Hp} {a : Addr} (hp : ps <+: qs) (hn : ps.length = n) : ∀ {o : O}, closedO n o = true → OAt T qs H a o → OAt T ps H a o
  | .lst _, h, ⟨vs, r, e⟩ => ⟨vs, pair_cut hp hn h r, e⟩
  | .tup _, h, ⟨vs, r, e⟩ => ⟨vs, pair_cut hp hn h r, e⟩
  | .rol _, h, ⟨vs, ob, r, e⟩ => ⟨vs, ob, pair_cut hp hn h r, e⟩
  | .dic _, h, ⟨vs, r, e⟩ => ⟨vs, pair2_cut hp hn h r, e⟩
  | .ins _ _, h, ⟨vs, dx, r, e⟩ => ⟨vs, dx, pair2_cut hp hn h r, e⟩
  | .xd _, h, ⟨vs, r, e⟩ => ⟨vs, pair2_cut hp hn h r, e⟩
  | .err _ j, h, ⟨C, dx, e1, e2, e3⟩ => ⟨C, dx, e1, pre_at hp (by rw [hn]; exact of_decide_eq_true h) e2, e3⟩
  | .xdd _, h, ⟨vs, r, e⟩ => ⟨vs, pair2_cut hp hn h r, e⟩
theorem es_cut {r : Ws} {s : L2.St} (hp : ps <+: qs) (hn : ps.length = n) (e : ES qs r s) : ES ps (dropR n r) s := ⟨by simp [dropR, e.1], fun i w h => by
  unfold dropR at h
  rw [List.getElem?_map] at h
  cases q : r[i]? with
  | none => rw [q] at h; cases h
  | some o =>
    rw [q] at h
    cases o with
    | none => cases h
    | some u =>
      simp only [Option.map] at h
      split at h
      · rename_i hl
        cases h
        obtain ⟨v, a, b⟩ := e.2 i _ q
        exact ⟨v, a, wv_cut hp hn hl b⟩
      · cases h⟩
theorem gc_read {b : MS} {E : WX} {D : Ends} {s : L2.St} {H : Hp} (h9 : tS T E (mGc b) D s H) : tS T E b D s H := by
  obtain ⟨ps, r, hv, es, vw, gd⟩ := h9
  refine ⟨ps, r, hv, es, vw, ?_⟩
  unfold mGc at gd
  cases q : b r hv with
  | nx r1 h1 =>
    rw [q] at gd
    dsimp only at gd
    split at gd
    · rename_i hc
      intro qs H' s' st vw' es'
      have hn : ps.length = hv.length := vw.len
      have hle : ps.length ≤ qs.length := st.pre.length_le
      have hl1 : h1.length = qs.length := vw'.len.symm
      refine gd ps H' s' ⟨List.prefix_refl _, fun _ _ z n _ => absurd z n, st.fr⟩ ⟨?_, vw.nd, fun i a o e1 e2 => ?_, vw'.tab, vw.fact⟩ (es_cut st.pre hn es')
      · rw [List.length_take]; omega
      · have hi : i < ps.length := (List.getElem?_eq_some_iff.mp e1).1
        have e3 : h1[i]? = some o := by
          rw [List.getElem?_take_of_lt (by omega)] at e2
          exact e2
        have co : closedO hv.length o = true := List.all_eq_true.mp hc o (List.mem_of_getElem? e2)
        exact oat_cut st.pre hn co (vw'.ob i a o (at_pre st.pre e1) e3)
    · exact gd.elim
  | rt w h1 => rw [q] at gd; exact gd
  | bk r1 h1 => rw [q] at gd; exact gd
  | ct r1 h1 => rw [q] at gd; exact gd
  | exc c d r1 h1 => rw [q] at gd; exact gd
  | bad => rw [q] at gd; exact gd
theorem sss_gc {X : Cx} {sts : List Stmt} {b : MS} (h : SSs T X sts b) : SSs T X sts (mGc b) := fun E cn => PSsi (h E cn) fun D s H h9 => gc_read h9
theorem ss_gc {X : Cx} {st : Stmt} {b : MS} (h : SS T X st b) : SS T X st (mGc b) := fun E cn => PSi (h E cn) fun D s H h9 => gc_read h9
end
end VL
end
section
namespace K01
open PySem L2 VL
def top (i : Nat) : Stmt := PySem.Challenge.pw_whatiftimes_k01_error_classes.main.body.getD i (.Pass ⟨0, 0, 0, 0⟩)
structure Cs where
  InvalidProgram : Addr
  InvalidSetting : Addr
  InvalidRange : Addr
  InvalidShape : Addr
  InvalidJournal : Addr
  InvalidSighting : Addr
  InvalidText : Addr
  InvalidCommand : Addr
  InvalidNumber : Addr
  LimitExceeded : Addr
  UnknownName : Addr
  Stuck : Addr
  TooLate : Addr
  NothingToUndo : Addr
def tab_InvalidProgram : List (String × Bool) := [("a", true), ("b", false), ("c", false), ("d", false), ("e", false), ("f", false), ("g", false), ("h", false), ("i", false), ("j", false), ("k", false), ("l", false), ("m", false), ("n", false)]
def tab_InvalidSetting : List (String × Bool) := [("a", false), ("b", true), ("c", false), ("d", false), ("e", false), ("f", false), ("g", false), ("h", false), ("i", false), ("j", false), ("k", false), ("l", false), ("m", false), ("n", false)]
def tab_InvalidRange : List (String × Bool) := [("a", false), ("b", false), ("c", true), ("d", false), ("e", false), ("f", false), ("g", false), ("h", false), ("i", false), ("j", false), ("k", false), ("l", false), ("m", false), ("n", false)]
def tab_InvalidShape : List (String × Bool) := [("a", false), ("b", false), ("c", false), ("d", true), ("e", false), ("f", false), ("g", false), ("h", false), ("i", false), ("j", false), ("k", false), ("l", false), ("m", false), ("n", false)]
def tab_InvalidJournal : List (String × Bool) := [("a", false), ("b", false), ("c", false), ("d", false), ("e", true), ("f", false), ("g", false), ("h", false), ("i", false), ("j", false), ("k", false), ("l", false), ("m", false), ("n", false)]
def tab_InvalidSighting : List (String × Bool) := [("a", false), ("b", false), ("c", false), ("d", false), ("e", false), ("f", true), ("g", false), ("h", false), ("i", false), ("j", false), ("k", false), ("l", false), ("m", false), ("n", false)]
def tab_InvalidText : List (String × Bool) := [("a", false), ("b", false), ("c", false), ("d", false), ("e", false), ("f", false), ("g", true), ("h", false), ("i", false), ("j", false), ("k", false), ("l", false), ("m", false), ("n", false)]
def tab_InvalidCommand : List (String × Bool) := [("a", false), ("b", false), ("c", false), ("d", false), ("e", false), ("f", false), ("g", false), ("h", true), ("i", false), ("j", false), ("k", false), ("l", false), ("m", false), ("n", false)]
def tab_InvalidNumber : List (String × Bool) := [("a", false), ("b", false), ("c", false), ("d", false), ("e", false), ("f", false), ("g", false), ("h", false), ("i", true), ("j", false), ("k", false), ("l", false), ("m", false), ("n", false)]
def tab_LimitExceeded : List (String × Bool) := [("a", false), ("b", false), ("c", false), ("d", false), ("e", false), ("f", false), ("g", false), ("h", false), ("i", false), ("j", true), ("k", false), ("l", false), ("m", false), ("n", false)]
def tab_UnknownName : List (String × Bool) := [("a", false), ("b", false), ("c", false), ("d", false), ("e", false), ("f", false), ("g", false), ("h", false), ("i", false), ("j", false), ("k", true), ("l", false), ("m", false), ("n", false)]
def tab_Stuck : List (String × Bool) := [("a", false), ("b", false), ("c", false), ("d", false), ("e", false), ("f", false), ("g", false), ("h", false), ("i", false), ("j", false), ("k", false), ("l", true), ("m", false), ("n", false)]
def tab_TooLate : List (String × Bool) := [("a", false), ("b", false), ("c", false), ("d", false), ("e", false), ("f", false), ("g", false), ("h", false), ("i", false), ("j", false), ("k", false), ("l", false), ("m", true), ("n", false)]
def tab_NothingToUndo : List (String × Bool) := [("a", false), ("b", false), ("c", false), ("d", false), ("e", false), ("f", false), ("g", false), ("h", false), ("i", false), ("j", false), ("k", false), ("l", false), ("m", false), ("n", true)]
def tab_TimesError : List (String × Bool) := [("a", true), ("b", true), ("c", true), ("d", true), ("e", true), ("f", true), ("g", true), ("h", true), ("i", false), ("j", false), ("k", false), ("l", false), ("m", false), ("n", false)]
def tab_ValueError : List (String × Bool) := [("a", false), ("b", false), ("c", false), ("d", false), ("e", false), ("f", false), ("g", false), ("h", false), ("i", true), ("j", false), ("k", false), ("l", false), ("m", false), ("n", false)]
def tab_OverflowError : List (String × Bool) := [("a", false), ("b", false), ("c", false), ("d", false), ("e", false), ("f", false), ("g", false), ("h", false), ("i", false), ("j", true), ("k", false), ("l", false), ("m", false), ("n", false)]
def tab_KeyError : List (String × Bool) := [("a", false), ("b", false), ("c", false), ("d", false), ("e", false), ("f", false), ("g", false), ("h", false), ("i", false), ("j", false), ("k", true), ("l", false), ("m", false), ("n", false)]
def tab_RuntimeError : List (String × Bool) := [("a", false), ("b", false), ("c", false), ("d", false), ("e", false), ("f", false), ("g", false), ("h", false), ("i", false), ("j", false), ("k", false), ("l", true), ("m", true), ("n", true)]
abbrev s__law_numbers : Stmt := top 17
theorem sc__law_numbers : FnScope ["_law_cell", "_law_salt", "_law_sizes", "_law_whole", "_law_left", "_law_result", "_law_k", "_law_one"] ["_law_cell", "_law_salt", "_law_sizes"] (defScope s__law_numbers) := ⟨rfl, rfl, rfl, by decide +kernel, rfl, by decide +kernel, by decide +kernel⟩
def m__law_numbers : MFn := mDef ["_law_cell", "_law_salt", "_law_sizes", "_law_whole", "_law_left", "_law_result", "_law_k", "_law_one"] ((mSeq (mSet 3 (mB mMax (mCons (mVar 0) (mCons (m2 mSub (m1 mNeg (mC (.int 1))) (mVar 0)) mNil))))
    (mSeq (mSet 4 (mVar 3))
    (mSeq (mSet 5 (mLst mNil))
    (mSeq (mFor (mRng (mCons (mB mLen (mCons (mVar 2) mNil)) mNil)) (mGn 6) (mIfS (mAndT (mT (m2 mGe (mVar 3) (m2 mPow (mC (.int 10)) (mC (.int 18))))) (mT (m2 mGt (mVar 4) (mC (.int 0))))) (mSeq (mExpr (mApp (mVar 5) (m2 mMod (mVar 4) (m2 mIx (mVar 2) (mVar 6)))))
    (mSet 4 (m2 mDiv (mVar 4) (m2 mIx (mVar 2) (mVar 6))))) (mSeq (mSet 7 (m2 mMod (m2 mPow (m2 mAdd (m2 mAdd (m2 mMod (mVar 3) (mC (.int 2147483629))) (m2 mMul (mC (.int 7919)) (mVar 1))) (mC (.int 1))) (mC (.int 3))) (mC (.int 2147483647))))
    (mSeq (mSet 7 (m2 mMod (m2 mMul (m2 mAdd (mVar 7) (m2 mMul (mC (.int 104729)) (m2 mAdd (mVar 6) (mC (.int 1))))) (m2 mAdd (mVar 6) (mC (.int 3)))) (mC (.int 2147483629))))
    (mSeq (mSet 7 (m2 mMod (m2 mMul (m2 mMod (m2 mPow (mVar 7) (mC (.int 5))) (mC (.int 2147483647))) (mC (.int 48271))) (mC (.int 2147483629))))
    (mExpr (mApp (mVar 5) (m2 mMod (m2 mDiv (mVar 7) (mC (.int 16))) (m2 mIx (mVar 2) (mVar 6))))))))))
    (mRet (mVar 5)))))))
abbrev s__law_draw : Stmt := top 18
theorem sc__law_draw : FnScope ["_law_state", "_law_many", "_law_at"] ["_law_state", "_law_many"] (defScope s__law_draw) := ⟨rfl, rfl, rfl, by decide +kernel, rfl, by decide +kernel, by decide +kernel⟩
def m__law_draw : MFn := mDef ["_law_state", "_law_many", "_law_at"] ((mSeq (mSet 2 (m2 mIx (mVar 0) (mC (.int 1))))
    (mSeq (mAsg (m2 mAdd (mVar 2) (mC (.int 1))) (mSub1 (mVar 0) (mC (.int 1))))
    (mRet (mIf (mT (m2 mLt (mVar 2) (mB mLen (mCons (m2 mIx (mVar 0) (mC (.int 0))) mNil)))) (m2 mMod (mB mInt (mCons (m2 mIx (m2 mIx (mVar 0) (mC (.int 0))) (mVar 2)) mNil)) (mVar 1)) (mC (.int 0)))))))
abbrev s__law_kinds : Stmt := top 19
theorem sc__law_kinds : FnScope ["_law_e", "_law_some"] ["_law_e"] (defScope s__law_kinds) := ⟨rfl, rfl, rfl, by decide +kernel, rfl, by decide +kernel, by decide +kernel⟩
def m__law_kinds : MFn := mDef ["_law_e", "_law_some"] ((mSeq (mSet 1 (mLst (mCons (mIv tab_InvalidProgram (mVar 0)) (mCons (mIv tab_InvalidSetting (mVar 0)) (mCons (mIv tab_InvalidRange (mVar 0)) mNil)))))
    (mSeq (mSet 1 (m2 mAdd (mVar 1) (mLst (mCons (mIv tab_InvalidShape (mVar 0)) (mCons (mIv tab_InvalidJournal (mVar 0)) (mCons (mIv tab_InvalidSighting (mVar 0)) mNil))))))
    (mSeq (mSet 1 (m2 mAdd (mVar 1) (mLst (mCons (mIv tab_InvalidText (mVar 0)) (mCons (mIv tab_InvalidCommand (mVar 0)) (mCons (mIv tab_InvalidNumber (mVar 0)) mNil))))))
    (mSeq (mSet 1 (m2 mAdd (mVar 1) (mLst (mCons (mIv tab_LimitExceeded (mVar 0)) (mCons (mIv tab_UnknownName (mVar 0)) (mCons (mIv tab_Stuck (mVar 0)) mNil))))))
    (mRet (m2 mAdd (mVar 1) (mLst (mCons (mIv tab_TooLate (mVar 0)) (mCons (mIv tab_NothingToUndo (mVar 0)) mNil))))))))))
abbrev s__law_bases : Stmt := top 20
theorem sc__law_bases : FnScope ["_law_e", "_law_some"] ["_law_e"] (defScope s__law_bases) := ⟨rfl, rfl, rfl, by decide +kernel, rfl, by decide +kernel, by decide +kernel⟩
def m__law_bases : MFn := mDef ["_law_e", "_law_some"] ((mSeq (mSet 1 (mLst (mCons (mIv tab_TimesError (mVar 0)) (mCons (mIv tab_ValueError (mVar 0)) (mCons (mIv tab_OverflowError (mVar 0)) mNil)))))
    (mRet (m2 mAdd (mVar 1) (mLst (mCons (mIv tab_KeyError (mVar 0)) (mCons (mIv tab_RuntimeError (mVar 0)) mNil)))))))
abbrev s__law_made : Stmt := top 21
theorem sc__law_made : FnScope ["_law_one", "_law_some"] ["_law_one"] (defScope s__law_made) := ⟨rfl, rfl, rfl, by decide +kernel, rfl, by decide +kernel, by decide +kernel⟩
def m__law_made : MFn := mDef ["_law_one", "_law_some"] ((mSeq (mSet 1 (mLst (mCons (mMkV "a" "place" (mCons (mVar 0) mNil)) (mCons (mMkV "b" "value" (mCons (mVar 0) mNil)) (mCons (mMkV "c" "value" (mCons (mVar 0) mNil)) (mCons (mMkV "d" "value" (mCons (mVar 0) mNil)) (mCons (mMkV "e" "index" (mCons (mVar 0) mNil)) mNil)))))))
    (mSeq (mSet 1 (m2 mAdd (mVar 1) (mLst (mCons (mMkV "f" "index" (mCons (mVar 0) mNil)) (mCons (mMkV "g" "place" (mCons (mVar 0) mNil)) (mCons (mMkV "h" "word" (mCons (mVar 0) mNil)) (mCons (mMkV "i" "value" (mCons (mVar 0) mNil)) mNil)))))))
    (mRet (m2 mAdd (mVar 1) (mLst (mCons (mMkV "j" "limit" (mCons (mVar 0) mNil)) (mCons (mMkV "k" "name" (mCons (mVar 0) mNil)) (mCons (mMkV "l" "blocked" (mCons (mVar 0) mNil)) (mCons (mMkV "m" "place" (mCons (mVar 0) mNil)) (mCons (mMkV "n" "name" (mCons (mVar 0) mNil)) mNil)))))))))))
abbrev s__law_named : Stmt := top 22
theorem sc__law_named : FnScope ["_law_one", "_law_some"] ["_law_one"] (defScope s__law_named) := ⟨rfl, rfl, rfl, by decide +kernel, rfl, by decide +kernel, by decide +kernel⟩
def m__law_named : MFn := mDef ["_law_one", "_law_some"] ((mSeq (mSet 1 (mLst (mCons (mMkV "a" "place" (mCons (mVar 0) mNil)) (mCons (mMkV "b" "value" (mCons (mVar 0) mNil)) (mCons (mMkV "c" "value" (mCons (mVar 0) mNil)) (mCons (mMkV "d" "value" (mCons (mVar 0) mNil)) mNil))))))
    (mSeq (mSet 1 (m2 mAdd (mVar 1) (mLst (mCons (mMkV "e" "index" (mCons (mVar 0) mNil)) (mCons (mMkV "f" "index" (mCons (mVar 0) mNil)) (mCons (mMkV "g" "place" (mCons (mVar 0) mNil)) mNil))))))
    (mSeq (mSet 1 (m2 mAdd (mVar 1) (mLst (mCons (mMkV "h" "word" (mCons (mVar 0) mNil)) (mCons (mMkV "i" "value" (mCons (mVar 0) mNil)) (mCons (mMkV "j" "limit" (mCons (mVar 0) mNil)) mNil))))))
    (mRet (m2 mAdd (mVar 1) (mLst (mCons (mMkV "k" "name" (mCons (mVar 0) mNil)) (mCons (mMkV "l" "blocked" (mCons (mVar 0) mNil)) (mCons (mMkV "m" "place" (mCons (mVar 0) mNil)) (mCons (mMkV "n" "name" (mCons (mVar 0) mNil)) mNil)))))))))))
abbrev s__law_fields : Stmt := top 23
theorem sc__law_fields : FnScope ["_law_some", "_law_shown"] ["_law_some"] (defScope s__law_fields) := ⟨rfl, rfl, rfl, by decide +kernel, rfl, by decide +kernel, by decide +kernel⟩
def m__law_fields : MFn := mDef ["_law_some", "_law_shown"] ((mSeq (mSet 1 (mLst (mCons (mEr "a" "place" (m2 mIx (mVar 0) (mC (.int 0)))) (mCons (mEr "b" "value" (m2 mIx (mVar 0) (mC (.int 1)))) (mCons (mEr "c" "value" (m2 mIx (mVar 0) (mC (.int 2)))) (mCons (mEr "d" "value" (m2 mIx (mVar 0) (mC (.int 3)))) (mCons (mEr "e" "index" (m2 mIx (mVar 0) (mC (.int 4)))) (mCons (mEr "f" "index" (m2 mIx (mVar 0) (mC (.int 5)))) (mCons (mEr "g" "place" (m2 mIx (mVar 0) (mC (.int 6)))) mNil)))))))))
    (mSeq (mSet 1 (m2 mAdd (mVar 1) (mLst (mCons (mEr "h" "word" (m2 mIx (mVar 0) (mC (.int 7)))) (mCons (mEr "i" "value" (m2 mIx (mVar 0) (mC (.int 8)))) (mCons (mEr "j" "limit" (m2 mIx (mVar 0) (mC (.int 9)))) (mCons (mEr "k" "name" (m2 mIx (mVar 0) (mC (.int 10)))) (mCons (mEr "l" "blocked" (m2 mIx (mVar 0) (mC (.int 11)))) (mCons (mEr "m" "place" (m2 mIx (mVar 0) (mC (.int 12)))) mNil)))))))))
    (mRet (m2 mAdd (mVar 1) (mLst (mCons (mEr "n" "name" (m2 mIx (mVar 0) (mC (.int 13)))) mNil)))))))
def suA__law_raised (ad : Addr) (j : Nat) : Ws → Hv → Res W := (mB mReprE (mCons (mXfA 1 ad j "value") mNil))
def su0__law_raised (j : Nat) : Ws → Hv → Res W := (mB mReprE (mCons (mXf j "value") mNil))
theorem suI__law_raised (a : Addr) (j : Nat) (r : Ws) (h : Hv) (hl : 1 < r.length) : suA__law_raised a j (r.set 1 (some (.fix a))) h = su0__law_raised j r h := by
  simp only [suA__law_raised, su0__law_raised, mLst, mCons, mC, mB, mNil, Res.bind, mXfA_at hl]
abbrev s__law_raised : Stmt := top 24
theorem sc__law_raised : FnScope ["_law_one", "_law_e"] ["_law_one"] (defScope s__law_raised) := ⟨rfl, rfl, rfl, by decide +kernel, rfl, by decide +kernel, by decide +kernel⟩
def m__law_raised : MFn := mDef ["_law_one", "_law_e"] ((mTry 1 (exmC ["c"]) (fun j => mRet (su0__law_raised j)) (mRaise "c" "value" (mCons (mVar 0) mNil))))
def lS0 : MS := (mSet 3 (mLst (mCons (mCall 3 m__law_numbers (mCons (mVar 2) (mCons (m2 mAdd (mC (.int 100)) (mVar 1)) (mCons (m2 mMul (mLst (mCons (mC (.int 420)) mNil)) (mC (.int 3))) mNil)))) (mCons (mC (.int 0)) mNil))))
def lS1 : MS := (mSet 4 (m2 mIx (mLst (mCons (mC .non) (mCons (m2 mPow (mCall 2 m__law_draw (mCons (mVar 3) (mCons (mC (.int 420)) mNil))) (mC (.int 20))) (mCons (mC (.str ("a" : Str))) (mCons (mTup (mCons (mC (.str ("a" : Str))) (mCons (mC (.int 1)) mNil))) (mCons (mLst (mCons (mC (.int 1)) mNil)) (mCons (m1 mNeg (mC (.int 1))) (mCons (mC (.str ("" : Str))) (mCons (mC (.bl true)) mNil))))))))) (mCall 2 m__law_draw (mCons (mVar 3) (mCons (mC (.int 8)) mNil)))))
def lT0 : MS := (mSet 5 (mCall 1 m__law_made (mCons (mVar 4) mNil)))
def lT1 : MS := (mGc (mFor (mEnum (mCons (mVar 5) mNil)) (mGs 2 (mGcons (mGn 6) (mGcons (mGn 7) mGnil))) (mGc (mSeq (mIfS (mT (m2 (mEq true) (mCall 1 m__law_kinds (mCons (mVar 7) mNil)) (mLc (mRng (mCons (mC (.int 14)) mNil)) 8 mYes (m2 (mEq false) (mVar 6) (mVar 8))))) (mRet (mC (.bl false))) mNext)
    (mIfS (mT (m2 (mEq true) (mCall 1 m__law_bases (mCons (mVar 7) mNil)) (mLst (mCons (m2 mLt (mVar 6) (mC (.int 8))) (mCons (m2 (mEq false) (mVar 6) (mC (.int 8))) (mCons (m2 (mEq false) (mVar 6) (mC (.int 9))) (mCons (m2 (mEq false) (mVar 6) (mC (.int 10))) (mCons (m2 mGt (mVar 6) (mC (.int 10))) mNil)))))))) (mRet (mC (.bl false))) mNext)))))
def lT2 : MS := (mGc (mIfS (mT (m2 (mEq true) (mLc (mSrc (m2 mAdd (mCall 1 m__law_fields (mCons (mVar 5) mNil)) (mCall 1 m__law_fields (mCons (mCall 1 m__law_named (mCons (mVar 4) mNil)) mNil)))) 9 mYes (mB mReprE (mCons (mVar 9) mNil))) (m2 mMul (mLst (mCons (mB mReprE (mCons (mVar 4) mNil)) mNil)) (mC (.int 28))))) (mRet (mC (.bl false))) mNext))
def lT3 : MS := (mIfS (mT (m2 (mEq true) (mCall 1 m__law_raised (mCons (mVar 4) mNil)) (mB mReprE (mCons (mVar 4) mNil)))) (mRet (mC (.bl false))) mNext)
def lT4 : MS := (mSet 10 (mLst (mCons (mVar 4) mNil)))
def lT5 : MS := (mSet 11 (mLst (mCons (mMkV "b" "value" (mCons (mVar 10) mNil)) (mCons (mMkV "m" "place" (mCons (mVar 10) mNil)) mNil))))
def lT6 : MS := (mExpr (mApp (mVar 10) (mC (.int 5))))
def lT7 : MS := (mIfS (mT (m2 (mEq true) (mLst (mCons (mEr "b" "value" (m2 mIx (mVar 11) (mC (.int 0)))) (mCons (mEr "m" "place" (m2 mIx (mVar 11) (mC (.int 1)))) mNil))) (mLst (mCons (mVar 10) (mCons (mVar 10) mNil))))) (mRet (mC (.bl false))) mNext)
def lTail : MS := (mSeq lT0 (mSeq lT1 (mSeq lT2 (mSeq lT3 (mSeq lT4 (mSeq lT5 (mSeq lT6 lT7)))))))
def lBody : MS := (mSeq lS0 (mSeq lS1 (mLocal1 4 [4] lTail)))
abbrev s_law : Stmt := top 25
theorem sc_law : FnScope ["_law_script", "_law_k", "_law_cell", "_law_state", "_law_one", "_law_some", "_law_at", "_law_error", "_law_other", "_law_field", "_law_rows", "_law_kept"] ["_law_script"] (defScope s_law) := ⟨rfl, rfl, rfl, by decide +kernel, rfl, by decide +kernel, by decide +kernel⟩
def m_law : MFn := mDef ["_law_script", "_law_k", "_law_cell", "_law_state", "_law_one", "_law_some", "_law_at", "_law_error", "_law_other", "_law_field", "_law_rows", "_law_kept"] ((mSeq (mFor (mEnum (mCons (m2 mAdd (mSl (mVar 0) (mPart none) (mPart (some (mC (.int 6))))) (m2 mMul (mLst (mCons (mC (.int 7)) mNil)) (mB mInt (mCons (m2 (mEq false) (mVar 0) (mLst mNil)) mNil)))) mNil)) (mGs 2 (mGcons (mGn 1) (mGcons (mGn 2) mGnil))) (mLocal [1, 2] lBody))
    (mRet (mC (.bl true)))))
structure Gx (P : Program) (w : World) (K : PySem.W.Frag) (mg : Str → Option Value) (base : Heap) where
  c : Cs
  f__law_numbers : Addr
  d__law_numbers : FuncData
  F__law_numbers : Fun K "_law_numbers" "_law_numbers" s__law_numbers f__law_numbers d__law_numbers
  g__law_numbers : mg "_law_numbers" = some (.ref f__law_numbers)
  n__law_numbers : Binds K d__law_numbers ["_law_cell", "_law_salt", "_law_sizes"] []
  k__law_numbers : PySem.W.keepIn K (.ref f__law_numbers) = true
  f__law_draw : Addr
  d__law_draw : FuncData
  F__law_draw : Fun K "_law_draw" "_law_draw" s__law_draw f__law_draw d__law_draw
  g__law_draw : mg "_law_draw" = some (.ref f__law_draw)
  n__law_draw : Binds K d__law_draw ["_law_state", "_law_many"] []
  k__law_draw : PySem.W.keepIn K (.ref f__law_draw) = true
  f__law_kinds : Addr
  d__law_kinds : FuncData
  F__law_kinds : Fun K "_law_kinds" "_law_kinds" s__law_kinds f__law_kinds d__law_kinds
  g__law_kinds : mg "_law_kinds" = some (.ref f__law_kinds)
  n__law_kinds : Binds K d__law_kinds ["_law_e"] []
  k__law_kinds : PySem.W.keepIn K (.ref f__law_kinds) = true
  f__law_bases : Addr
  d__law_bases : FuncData
  F__law_bases : Fun K "_law_bases" "_law_bases" s__law_bases f__law_bases d__law_bases
  g__law_bases : mg "_law_bases" = some (.ref f__law_bases)
  n__law_bases : Binds K d__law_bases ["_law_e"] []
  k__law_bases : PySem.W.keepIn K (.ref f__law_bases) = true
  f__law_made : Addr
  d__law_made : FuncData
  F__law_made : Fun K "_law_made" "_law_made" s__law_made f__law_made d__law_made
  g__law_made : mg "_law_made" = some (.ref f__law_made)
  n__law_made : Binds K d__law_made ["_law_one"] []
  k__law_made : PySem.W.keepIn K (.ref f__law_made) = true
  f__law_named : Addr
  d__law_named : FuncData
  F__law_named : Fun K "_law_named" "_law_named" s__law_named f__law_named d__law_named
  g__law_named : mg "_law_named" = some (.ref f__law_named)
  n__law_named : Binds K d__law_named ["_law_one"] []
  k__law_named : PySem.W.keepIn K (.ref f__law_named) = true
  f__law_fields : Addr
  d__law_fields : FuncData
  F__law_fields : Fun K "_law_fields" "_law_fields" s__law_fields f__law_fields d__law_fields
  g__law_fields : mg "_law_fields" = some (.ref f__law_fields)
  n__law_fields : Binds K d__law_fields ["_law_some"] []
  k__law_fields : PySem.W.keepIn K (.ref f__law_fields) = true
  f__law_raised : Addr
  d__law_raised : FuncData
  F__law_raised : Fun K "_law_raised" "_law_raised" s__law_raised f__law_raised d__law_raised
  g__law_raised : mg "_law_raised" = some (.ref f__law_raised)
  n__law_raised : Binds K d__law_raised ["_law_one"] []
  k__law_raised : PySem.W.keepIn K (.ref f__law_raised) = true
  f_law : Addr
  d_law : FuncData
  F_law : Fun K "law" "law" s_law f_law d_law
  g_law : mg "law" = some (.ref f_law)
  n_law : Binds K d_law ["_law_script"] []
  k_law : PySem.W.keepIn K (.ref f_law) = true
  b_KeyError : mg "KeyError" = none
  b_OverflowError : mg "OverflowError" = none
  b_RuntimeError : mg "RuntimeError" = none
  b_ValueError : mg "ValueError" = none
  b_enumerate : mg "enumerate" = none
  b_int : mg "int" = none
  b_isinstance : mg "isinstance" = none
  b_len : mg "len" = none
  b_max : mg "max" = none
  b_range : mg "range" = none
  b_repr : mg "repr" = none
  e_InvalidProgram : ErrH P w K mg base "InvalidProgram" "place" c.InvalidProgram
  xf_InvalidProgram : XfC K c.InvalidProgram
  no_InvalidProgram : PySem.W.findIn K (.ref c.InvalidProgram) "place" = some none
  xc_InvalidProgram : ExcC K c.InvalidProgram
  e_InvalidSetting : ErrH P w K mg base "InvalidSetting" "value" c.InvalidSetting
  xf_InvalidSetting : XfC K c.InvalidSetting
  no_InvalidSetting : PySem.W.findIn K (.ref c.InvalidSetting) "value" = some none
  xc_InvalidSetting : ExcC K c.InvalidSetting
  e_InvalidRange : ErrH P w K mg base "InvalidRange" "value" c.InvalidRange
  xf_InvalidRange : XfC K c.InvalidRange
  no_InvalidRange : PySem.W.findIn K (.ref c.InvalidRange) "value" = some none
  xc_InvalidRange : ExcC K c.InvalidRange
  e_InvalidShape : ErrH P w K mg base "InvalidShape" "value" c.InvalidShape
  xf_InvalidShape : XfC K c.InvalidShape
  no_InvalidShape : PySem.W.findIn K (.ref c.InvalidShape) "value" = some none
  xc_InvalidShape : ExcC K c.InvalidShape
  e_InvalidJournal : ErrH P w K mg base "InvalidJournal" "index" c.InvalidJournal
  xf_InvalidJournal : XfC K c.InvalidJournal
  no_InvalidJournal : PySem.W.findIn K (.ref c.InvalidJournal) "index" = some none
  xc_InvalidJournal : ExcC K c.InvalidJournal
  e_InvalidSighting : ErrH P w K mg base "InvalidSighting" "index" c.InvalidSighting
  xf_InvalidSighting : XfC K c.InvalidSighting
  no_InvalidSighting : PySem.W.findIn K (.ref c.InvalidSighting) "index" = some none
  xc_InvalidSighting : ExcC K c.InvalidSighting
  e_InvalidText : ErrH P w K mg base "InvalidText" "place" c.InvalidText
  xf_InvalidText : XfC K c.InvalidText
  no_InvalidText : PySem.W.findIn K (.ref c.InvalidText) "place" = some none
  xc_InvalidText : ExcC K c.InvalidText
  e_InvalidCommand : ErrH P w K mg base "InvalidCommand" "word" c.InvalidCommand
  xf_InvalidCommand : XfC K c.InvalidCommand
  no_InvalidCommand : PySem.W.findIn K (.ref c.InvalidCommand) "word" = some none
  xc_InvalidCommand : ExcC K c.InvalidCommand
  e_InvalidNumber : ErrH P w K mg base "InvalidNumber" "value" c.InvalidNumber
  xf_InvalidNumber : XfC K c.InvalidNumber
  no_InvalidNumber : PySem.W.findIn K (.ref c.InvalidNumber) "value" = some none
  xc_InvalidNumber : ExcC K c.InvalidNumber
  e_LimitExceeded : ErrH P w K mg base "LimitExceeded" "limit" c.LimitExceeded
  xf_LimitExceeded : XfC K c.LimitExceeded
  no_LimitExceeded : PySem.W.findIn K (.ref c.LimitExceeded) "limit" = some none
  xc_LimitExceeded : ExcC K c.LimitExceeded
  e_UnknownName : ErrH P w K mg base "UnknownName" "name" c.UnknownName
  xf_UnknownName : XfC K c.UnknownName
  no_UnknownName : PySem.W.findIn K (.ref c.UnknownName) "name" = some none
  xc_UnknownName : ExcC K c.UnknownName
  e_Stuck : ErrH P w K mg base "Stuck" "blocked" c.Stuck
  xf_Stuck : XfC K c.Stuck
  no_Stuck : PySem.W.findIn K (.ref c.Stuck) "blocked" = some none
  xc_Stuck : ExcC K c.Stuck
  e_TooLate : ErrH P w K mg base "TooLate" "place" c.TooLate
  xf_TooLate : XfC K c.TooLate
  no_TooLate : PySem.W.findIn K (.ref c.TooLate) "place" = some none
  xc_TooLate : ExcC K c.TooLate
  e_NothingToUndo : ErrH P w K mg base "NothingToUndo" "name" c.NothingToUndo
  xf_NothingToUndo : XfC K c.NothingToUndo
  no_NothingToUndo : PySem.W.findIn K (.ref c.NothingToUndo) "name" = some none
  xc_NothingToUndo : ExcC K c.NothingToUndo
  kTimesError : Addr
  m_TimesError : mg "TimesError" = some (.ref kTimesError)
  te_InvalidRange_TimesError : PySem.W.exmOne K (.ref c.InvalidRange) (.ref kTimesError) = some true
  ki_InvalidProgram_InvalidProgram : PySem.W.kitOne K (.ref c.InvalidProgram) (.ref c.InvalidProgram) = some true
  ki_InvalidSetting_InvalidProgram : PySem.W.kitOne K (.ref c.InvalidSetting) (.ref c.InvalidProgram) = some false
  ki_InvalidRange_InvalidProgram : PySem.W.kitOne K (.ref c.InvalidRange) (.ref c.InvalidProgram) = some false
  ki_InvalidShape_InvalidProgram : PySem.W.kitOne K (.ref c.InvalidShape) (.ref c.InvalidProgram) = some false
  ki_InvalidJournal_InvalidProgram : PySem.W.kitOne K (.ref c.InvalidJournal) (.ref c.InvalidProgram) = some false
  ki_InvalidSighting_InvalidProgram : PySem.W.kitOne K (.ref c.InvalidSighting) (.ref c.InvalidProgram) = some false
  ki_InvalidText_InvalidProgram : PySem.W.kitOne K (.ref c.InvalidText) (.ref c.InvalidProgram) = some false
  ki_InvalidCommand_InvalidProgram : PySem.W.kitOne K (.ref c.InvalidCommand) (.ref c.InvalidProgram) = some false
  ki_InvalidNumber_InvalidProgram : PySem.W.kitOne K (.ref c.InvalidNumber) (.ref c.InvalidProgram) = some false
  ki_LimitExceeded_InvalidProgram : PySem.W.kitOne K (.ref c.LimitExceeded) (.ref c.InvalidProgram) = some false
  ki_UnknownName_InvalidProgram : PySem.W.kitOne K (.ref c.UnknownName) (.ref c.InvalidProgram) = some false
  ki_Stuck_InvalidProgram : PySem.W.kitOne K (.ref c.Stuck) (.ref c.InvalidProgram) = some false
  ki_TooLate_InvalidProgram : PySem.W.kitOne K (.ref c.TooLate) (.ref c.InvalidProgram) = some false
  ki_NothingToUndo_InvalidProgram : PySem.W.kitOne K (.ref c.NothingToUndo) (.ref c.InvalidProgram) = some false
  ki_InvalidProgram_InvalidSetting : PySem.W.kitOne K (.ref c.InvalidProgram) (.ref c.InvalidSetting) = some false
  ki_InvalidSetting_InvalidSetting : PySem.W.kitOne K (.ref c.InvalidSetting) (.ref c.InvalidSetting) = some true
  ki_InvalidRange_InvalidSetting : PySem.W.kitOne K (.ref c.InvalidRange) (.ref c.InvalidSetting) = some false
  ki_InvalidShape_InvalidSetting : PySem.W.kitOne K (.ref c.InvalidShape) (.ref c.InvalidSetting) = some false
  ki_InvalidJournal_InvalidSetting : PySem.W.kitOne K (.ref c.InvalidJournal) (.ref c.InvalidSetting) = some false
  ki_InvalidSighting_InvalidSetting : PySem.W.kitOne K (.ref c.InvalidSighting) (.ref c.InvalidSetting) = some false
  ki_InvalidText_InvalidSetting : PySem.W.kitOne K (.ref c.InvalidText) (.ref c.InvalidSetting) = some false
  ki_InvalidCommand_InvalidSetting : PySem.W.kitOne K (.ref c.InvalidCommand) (.ref c.InvalidSetting) = some false
  ki_InvalidNumber_InvalidSetting : PySem.W.kitOne K (.ref c.InvalidNumber) (.ref c.InvalidSetting) = some false
  ki_LimitExceeded_InvalidSetting : PySem.W.kitOne K (.ref c.LimitExceeded) (.ref c.InvalidSetting) = some false
  ki_UnknownName_InvalidSetting : PySem.W.kitOne K (.ref c.UnknownName) (.ref c.InvalidSetting) = some false
  ki_Stuck_InvalidSetting : PySem.W.kitOne K (.ref c.Stuck) (.ref c.InvalidSetting) = some false
  ki_TooLate_InvalidSetting : PySem.W.kitOne K (.ref c.TooLate) (.ref c.InvalidSetting) = some false
  ki_NothingToUndo_InvalidSetting : PySem.W.kitOne K (.ref c.NothingToUndo) (.ref c.InvalidSetting) = some false
  ki_InvalidProgram_InvalidRange : PySem.W.kitOne K (.ref c.InvalidProgram) (.ref c.InvalidRange) = some false
  ki_InvalidSetting_InvalidRange : PySem.W.kitOne K (.ref c.InvalidSetting) (.ref c.InvalidRange) = some false
  ki_InvalidRange_InvalidRange : PySem.W.kitOne K (.ref c.InvalidRange) (.ref c.InvalidRange) = some true
  ki_InvalidShape_InvalidRange : PySem.W.kitOne K (.ref c.InvalidShape) (.ref c.InvalidRange) = some false
  ki_InvalidJournal_InvalidRange : PySem.W.kitOne K (.ref c.InvalidJournal) (.ref c.InvalidRange) = some false
  ki_InvalidSighting_InvalidRange : PySem.W.kitOne K (.ref c.InvalidSighting) (.ref c.InvalidRange) = some false
  ki_InvalidText_InvalidRange : PySem.W.kitOne K (.ref c.InvalidText) (.ref c.InvalidRange) = some false
  ki_InvalidCommand_InvalidRange : PySem.W.kitOne K (.ref c.InvalidCommand) (.ref c.InvalidRange) = some false
  ki_InvalidNumber_InvalidRange : PySem.W.kitOne K (.ref c.InvalidNumber) (.ref c.InvalidRange) = some false
  ki_LimitExceeded_InvalidRange : PySem.W.kitOne K (.ref c.LimitExceeded) (.ref c.InvalidRange) = some false
  ki_UnknownName_InvalidRange : PySem.W.kitOne K (.ref c.UnknownName) (.ref c.InvalidRange) = some false
  ki_Stuck_InvalidRange : PySem.W.kitOne K (.ref c.Stuck) (.ref c.InvalidRange) = some false
  ki_TooLate_InvalidRange : PySem.W.kitOne K (.ref c.TooLate) (.ref c.InvalidRange) = some false
  ki_NothingToUndo_InvalidRange : PySem.W.kitOne K (.ref c.NothingToUndo) (.ref c.InvalidRange) = some false
  ki_InvalidProgram_InvalidShape : PySem.W.kitOne K (.ref c.InvalidProgram) (.ref c.InvalidShape) = some false
  ki_InvalidSetting_InvalidShape : PySem.W.kitOne K (.ref c.InvalidSetting) (.ref c.InvalidShape) = some false
  ki_InvalidRange_InvalidShape : PySem.W.kitOne K (.ref c.InvalidRange) (.ref c.InvalidShape) = some false
  ki_InvalidShape_InvalidShape : PySem.W.kitOne K (.ref c.InvalidShape) (.ref c.InvalidShape) = some true
  ki_InvalidJournal_InvalidShape : PySem.W.kitOne K (.ref c.InvalidJournal) (.ref c.InvalidShape) = some false
  ki_InvalidSighting_InvalidShape : PySem.W.kitOne K (.ref c.InvalidSighting) (.ref c.InvalidShape) = some false
  ki_InvalidText_InvalidShape : PySem.W.kitOne K (.ref c.InvalidText) (.ref c.InvalidShape) = some false
  ki_InvalidCommand_InvalidShape : PySem.W.kitOne K (.ref c.InvalidCommand) (.ref c.InvalidShape) = some false
  ki_InvalidNumber_InvalidShape : PySem.W.kitOne K (.ref c.InvalidNumber) (.ref c.InvalidShape) = some false
  ki_LimitExceeded_InvalidShape : PySem.W.kitOne K (.ref c.LimitExceeded) (.ref c.InvalidShape) = some false
  ki_UnknownName_InvalidShape : PySem.W.kitOne K (.ref c.UnknownName) (.ref c.InvalidShape) = some false
  ki_Stuck_InvalidShape : PySem.W.kitOne K (.ref c.Stuck) (.ref c.InvalidShape) = some false
  ki_TooLate_InvalidShape : PySem.W.kitOne K (.ref c.TooLate) (.ref c.InvalidShape) = some false
  ki_NothingToUndo_InvalidShape : PySem.W.kitOne K (.ref c.NothingToUndo) (.ref c.InvalidShape) = some false
  ki_InvalidProgram_InvalidJournal : PySem.W.kitOne K (.ref c.InvalidProgram) (.ref c.InvalidJournal) = some false
  ki_InvalidSetting_InvalidJournal : PySem.W.kitOne K (.ref c.InvalidSetting) (.ref c.InvalidJournal) = some false
  ki_InvalidRange_InvalidJournal : PySem.W.kitOne K (.ref c.InvalidRange) (.ref c.InvalidJournal) = some false
  ki_InvalidShape_InvalidJournal : PySem.W.kitOne K (.ref c.InvalidShape) (.ref c.InvalidJournal) = some false
  ki_InvalidJournal_InvalidJournal : PySem.W.kitOne K (.ref c.InvalidJournal) (.ref c.InvalidJournal) = some true
  ki_InvalidSighting_InvalidJournal : PySem.W.kitOne K (.ref c.InvalidSighting) (.ref c.InvalidJournal) = some false
  ki_InvalidText_InvalidJournal : PySem.W.kitOne K (.ref c.InvalidText) (.ref c.InvalidJournal) = some false
  ki_InvalidCommand_InvalidJournal : PySem.W.kitOne K (.ref c.InvalidCommand) (.ref c.InvalidJournal) = some false
  ki_InvalidNumber_InvalidJournal : PySem.W.kitOne K (.ref c.InvalidNumber) (.ref c.InvalidJournal) = some false
  ki_LimitExceeded_InvalidJournal : PySem.W.kitOne K (.ref c.LimitExceeded) (.ref c.InvalidJournal) = some false
  ki_UnknownName_InvalidJournal : PySem.W.kitOne K (.ref c.UnknownName) (.ref c.InvalidJournal) = some false
  ki_Stuck_InvalidJournal : PySem.W.kitOne K (.ref c.Stuck) (.ref c.InvalidJournal) = some false
  ki_TooLate_InvalidJournal : PySem.W.kitOne K (.ref c.TooLate) (.ref c.InvalidJournal) = some false
  ki_NothingToUndo_InvalidJournal : PySem.W.kitOne K (.ref c.NothingToUndo) (.ref c.InvalidJournal) = some false
  ki_InvalidProgram_InvalidSighting : PySem.W.kitOne K (.ref c.InvalidProgram) (.ref c.InvalidSighting) = some false
  ki_InvalidSetting_InvalidSighting : PySem.W.kitOne K (.ref c.InvalidSetting) (.ref c.InvalidSighting) = some false
  ki_InvalidRange_InvalidSighting : PySem.W.kitOne K (.ref c.InvalidRange) (.ref c.InvalidSighting) = some false
  ki_InvalidShape_InvalidSighting : PySem.W.kitOne K (.ref c.InvalidShape) (.ref c.InvalidSighting) = some false
  ki_InvalidJournal_InvalidSighting : PySem.W.kitOne K (.ref c.InvalidJournal) (.ref c.InvalidSighting) = some false
  ki_InvalidSighting_InvalidSighting : PySem.W.kitOne K (.ref c.InvalidSighting) (.ref c.InvalidSighting) = some true
  ki_InvalidText_InvalidSighting : PySem.W.kitOne K (.ref c.InvalidText) (.ref c.InvalidSighting) = some false
  ki_InvalidCommand_InvalidSighting : PySem.W.kitOne K (.ref c.InvalidCommand) (.ref c.InvalidSighting) = some false
  ki_InvalidNumber_InvalidSighting : PySem.W.kitOne K (.ref c.InvalidNumber) (.ref c.InvalidSighting) = some false
  ki_LimitExceeded_InvalidSighting : PySem.W.kitOne K (.ref c.LimitExceeded) (.ref c.InvalidSighting) = some false
  ki_UnknownName_InvalidSighting : PySem.W.kitOne K (.ref c.UnknownName) (.ref c.InvalidSighting) = some false
  ki_Stuck_InvalidSighting : PySem.W.kitOne K (.ref c.Stuck) (.ref c.InvalidSighting) = some false
  ki_TooLate_InvalidSighting : PySem.W.kitOne K (.ref c.TooLate) (.ref c.InvalidSighting) = some false
  ki_NothingToUndo_InvalidSighting : PySem.W.kitOne K (.ref c.NothingToUndo) (.ref c.InvalidSighting) = some false
  ki_InvalidProgram_InvalidText : PySem.W.kitOne K (.ref c.InvalidProgram) (.ref c.InvalidText) = some false
  ki_InvalidSetting_InvalidText : PySem.W.kitOne K (.ref c.InvalidSetting) (.ref c.InvalidText) = some false
  ki_InvalidRange_InvalidText : PySem.W.kitOne K (.ref c.InvalidRange) (.ref c.InvalidText) = some false
  ki_InvalidShape_InvalidText : PySem.W.kitOne K (.ref c.InvalidShape) (.ref c.InvalidText) = some false
  ki_InvalidJournal_InvalidText : PySem.W.kitOne K (.ref c.InvalidJournal) (.ref c.InvalidText) = some false
  ki_InvalidSighting_InvalidText : PySem.W.kitOne K (.ref c.InvalidSighting) (.ref c.InvalidText) = some false
  ki_InvalidText_InvalidText : PySem.W.kitOne K (.ref c.InvalidText) (.ref c.InvalidText) = some true
  ki_InvalidCommand_InvalidText : PySem.W.kitOne K (.ref c.InvalidCommand) (.ref c.InvalidText) = some false
  ki_InvalidNumber_InvalidText : PySem.W.kitOne K (.ref c.InvalidNumber) (.ref c.InvalidText) = some false
  ki_LimitExceeded_InvalidText : PySem.W.kitOne K (.ref c.LimitExceeded) (.ref c.InvalidText) = some false
  ki_UnknownName_InvalidText : PySem.W.kitOne K (.ref c.UnknownName) (.ref c.InvalidText) = some false
  ki_Stuck_InvalidText : PySem.W.kitOne K (.ref c.Stuck) (.ref c.InvalidText) = some false
  ki_TooLate_InvalidText : PySem.W.kitOne K (.ref c.TooLate) (.ref c.InvalidText) = some false
  ki_NothingToUndo_InvalidText : PySem.W.kitOne K (.ref c.NothingToUndo) (.ref c.InvalidText) = some false
  ki_InvalidProgram_InvalidCommand : PySem.W.kitOne K (.ref c.InvalidProgram) (.ref c.InvalidCommand) = some false
  ki_InvalidSetting_InvalidCommand : PySem.W.kitOne K (.ref c.InvalidSetting) (.ref c.InvalidCommand) = some false
  ki_InvalidRange_InvalidCommand : PySem.W.kitOne K (.ref c.InvalidRange) (.ref c.InvalidCommand) = some false
  ki_InvalidShape_InvalidCommand : PySem.W.kitOne K (.ref c.InvalidShape) (.ref c.InvalidCommand) = some false
  ki_InvalidJournal_InvalidCommand : PySem.W.kitOne K (.ref c.InvalidJournal) (.ref c.InvalidCommand) = some false
  ki_InvalidSighting_InvalidCommand : PySem.W.kitOne K (.ref c.InvalidSighting) (.ref c.InvalidCommand) = some false
  ki_InvalidText_InvalidCommand : PySem.W.kitOne K (.ref c.InvalidText) (.ref c.InvalidCommand) = some false
  ki_InvalidCommand_InvalidCommand : PySem.W.kitOne K (.ref c.InvalidCommand) (.ref c.InvalidCommand) = some true
  ki_InvalidNumber_InvalidCommand : PySem.W.kitOne K (.ref c.InvalidNumber) (.ref c.InvalidCommand) = some false
  ki_LimitExceeded_InvalidCommand : PySem.W.kitOne K (.ref c.LimitExceeded) (.ref c.InvalidCommand) = some false
  ki_UnknownName_InvalidCommand : PySem.W.kitOne K (.ref c.UnknownName) (.ref c.InvalidCommand) = some false
  ki_Stuck_InvalidCommand : PySem.W.kitOne K (.ref c.Stuck) (.ref c.InvalidCommand) = some false
  ki_TooLate_InvalidCommand : PySem.W.kitOne K (.ref c.TooLate) (.ref c.InvalidCommand) = some false
  ki_NothingToUndo_InvalidCommand : PySem.W.kitOne K (.ref c.NothingToUndo) (.ref c.InvalidCommand) = some false
  ki_InvalidProgram_InvalidNumber : PySem.W.kitOne K (.ref c.InvalidProgram) (.ref c.InvalidNumber) = some false
  ki_InvalidSetting_InvalidNumber : PySem.W.kitOne K (.ref c.InvalidSetting) (.ref c.InvalidNumber) = some false
  ki_InvalidRange_InvalidNumber : PySem.W.kitOne K (.ref c.InvalidRange) (.ref c.InvalidNumber) = some false
  ki_InvalidShape_InvalidNumber : PySem.W.kitOne K (.ref c.InvalidShape) (.ref c.InvalidNumber) = some false
  ki_InvalidJournal_InvalidNumber : PySem.W.kitOne K (.ref c.InvalidJournal) (.ref c.InvalidNumber) = some false
  ki_InvalidSighting_InvalidNumber : PySem.W.kitOne K (.ref c.InvalidSighting) (.ref c.InvalidNumber) = some false
  ki_InvalidText_InvalidNumber : PySem.W.kitOne K (.ref c.InvalidText) (.ref c.InvalidNumber) = some false
  ki_InvalidCommand_InvalidNumber : PySem.W.kitOne K (.ref c.InvalidCommand) (.ref c.InvalidNumber) = some false
  ki_InvalidNumber_InvalidNumber : PySem.W.kitOne K (.ref c.InvalidNumber) (.ref c.InvalidNumber) = some true
  ki_LimitExceeded_InvalidNumber : PySem.W.kitOne K (.ref c.LimitExceeded) (.ref c.InvalidNumber) = some false
  ki_UnknownName_InvalidNumber : PySem.W.kitOne K (.ref c.UnknownName) (.ref c.InvalidNumber) = some false
  ki_Stuck_InvalidNumber : PySem.W.kitOne K (.ref c.Stuck) (.ref c.InvalidNumber) = some false
  ki_TooLate_InvalidNumber : PySem.W.kitOne K (.ref c.TooLate) (.ref c.InvalidNumber) = some false
  ki_NothingToUndo_InvalidNumber : PySem.W.kitOne K (.ref c.NothingToUndo) (.ref c.InvalidNumber) = some false
  ki_InvalidProgram_LimitExceeded : PySem.W.kitOne K (.ref c.InvalidProgram) (.ref c.LimitExceeded) = some false
  ki_InvalidSetting_LimitExceeded : PySem.W.kitOne K (.ref c.InvalidSetting) (.ref c.LimitExceeded) = some false
  ki_InvalidRange_LimitExceeded : PySem.W.kitOne K (.ref c.InvalidRange) (.ref c.LimitExceeded) = some false
  ki_InvalidShape_LimitExceeded : PySem.W.kitOne K (.ref c.InvalidShape) (.ref c.LimitExceeded) = some false
  ki_InvalidJournal_LimitExceeded : PySem.W.kitOne K (.ref c.InvalidJournal) (.ref c.LimitExceeded) = some false
  ki_InvalidSighting_LimitExceeded : PySem.W.kitOne K (.ref c.InvalidSighting) (.ref c.LimitExceeded) = some false
  ki_InvalidText_LimitExceeded : PySem.W.kitOne K (.ref c.InvalidText) (.ref c.LimitExceeded) = some false
  ki_InvalidCommand_LimitExceeded : PySem.W.kitOne K (.ref c.InvalidCommand) (.ref c.LimitExceeded) = some false
  ki_InvalidNumber_LimitExceeded : PySem.W.kitOne K (.ref c.InvalidNumber) (.ref c.LimitExceeded) = some false
  ki_LimitExceeded_LimitExceeded : PySem.W.kitOne K (.ref c.LimitExceeded) (.ref c.LimitExceeded) = some true
  ki_UnknownName_LimitExceeded : PySem.W.kitOne K (.ref c.UnknownName) (.ref c.LimitExceeded) = some false
  ki_Stuck_LimitExceeded : PySem.W.kitOne K (.ref c.Stuck) (.ref c.LimitExceeded) = some false
  ki_TooLate_LimitExceeded : PySem.W.kitOne K (.ref c.TooLate) (.ref c.LimitExceeded) = some false
  ki_NothingToUndo_LimitExceeded : PySem.W.kitOne K (.ref c.NothingToUndo) (.ref c.LimitExceeded) = some false
  ki_InvalidProgram_UnknownName : PySem.W.kitOne K (.ref c.InvalidProgram) (.ref c.UnknownName) = some false
  ki_InvalidSetting_UnknownName : PySem.W.kitOne K (.ref c.InvalidSetting) (.ref c.UnknownName) = some false
  ki_InvalidRange_UnknownName : PySem.W.kitOne K (.ref c.InvalidRange) (.ref c.UnknownName) = some false
  ki_InvalidShape_UnknownName : PySem.W.kitOne K (.ref c.InvalidShape) (.ref c.UnknownName) = some false
  ki_InvalidJournal_UnknownName : PySem.W.kitOne K (.ref c.InvalidJournal) (.ref c.UnknownName) = some false
  ki_InvalidSighting_UnknownName : PySem.W.kitOne K (.ref c.InvalidSighting) (.ref c.UnknownName) = some false
  ki_InvalidText_UnknownName : PySem.W.kitOne K (.ref c.InvalidText) (.ref c.UnknownName) = some false
  ki_InvalidCommand_UnknownName : PySem.W.kitOne K (.ref c.InvalidCommand) (.ref c.UnknownName) = some false
  ki_InvalidNumber_UnknownName : PySem.W.kitOne K (.ref c.InvalidNumber) (.ref c.UnknownName) = some false
  ki_LimitExceeded_UnknownName : PySem.W.kitOne K (.ref c.LimitExceeded) (.ref c.UnknownName) = some false
  ki_UnknownName_UnknownName : PySem.W.kitOne K (.ref c.UnknownName) (.ref c.UnknownName) = some true
  ki_Stuck_UnknownName : PySem.W.kitOne K (.ref c.Stuck) (.ref c.UnknownName) = some false
  ki_TooLate_UnknownName : PySem.W.kitOne K (.ref c.TooLate) (.ref c.UnknownName) = some false
  ki_NothingToUndo_UnknownName : PySem.W.kitOne K (.ref c.NothingToUndo) (.ref c.UnknownName) = some false
  ki_InvalidProgram_Stuck : PySem.W.kitOne K (.ref c.InvalidProgram) (.ref c.Stuck) = some false
  ki_InvalidSetting_Stuck : PySem.W.kitOne K (.ref c.InvalidSetting) (.ref c.Stuck) = some false
  ki_InvalidRange_Stuck : PySem.W.kitOne K (.ref c.InvalidRange) (.ref c.Stuck) = some false
  ki_InvalidShape_Stuck : PySem.W.kitOne K (.ref c.InvalidShape) (.ref c.Stuck) = some false
  ki_InvalidJournal_Stuck : PySem.W.kitOne K (.ref c.InvalidJournal) (.ref c.Stuck) = some false
  ki_InvalidSighting_Stuck : PySem.W.kitOne K (.ref c.InvalidSighting) (.ref c.Stuck) = some false
  ki_InvalidText_Stuck : PySem.W.kitOne K (.ref c.InvalidText) (.ref c.Stuck) = some false
  ki_InvalidCommand_Stuck : PySem.W.kitOne K (.ref c.InvalidCommand) (.ref c.Stuck) = some false
  ki_InvalidNumber_Stuck : PySem.W.kitOne K (.ref c.InvalidNumber) (.ref c.Stuck) = some false
  ki_LimitExceeded_Stuck : PySem.W.kitOne K (.ref c.LimitExceeded) (.ref c.Stuck) = some false
  ki_UnknownName_Stuck : PySem.W.kitOne K (.ref c.UnknownName) (.ref c.Stuck) = some false
  ki_Stuck_Stuck : PySem.W.kitOne K (.ref c.Stuck) (.ref c.Stuck) = some true
  ki_TooLate_Stuck : PySem.W.kitOne K (.ref c.TooLate) (.ref c.Stuck) = some false
  ki_NothingToUndo_Stuck : PySem.W.kitOne K (.ref c.NothingToUndo) (.ref c.Stuck) = some false
  ki_InvalidProgram_TooLate : PySem.W.kitOne K (.ref c.InvalidProgram) (.ref c.TooLate) = some false
  ki_InvalidSetting_TooLate : PySem.W.kitOne K (.ref c.InvalidSetting) (.ref c.TooLate) = some false
  ki_InvalidRange_TooLate : PySem.W.kitOne K (.ref c.InvalidRange) (.ref c.TooLate) = some false
  ki_InvalidShape_TooLate : PySem.W.kitOne K (.ref c.InvalidShape) (.ref c.TooLate) = some false
  ki_InvalidJournal_TooLate : PySem.W.kitOne K (.ref c.InvalidJournal) (.ref c.TooLate) = some false
  ki_InvalidSighting_TooLate : PySem.W.kitOne K (.ref c.InvalidSighting) (.ref c.TooLate) = some false
  ki_InvalidText_TooLate : PySem.W.kitOne K (.ref c.InvalidText) (.ref c.TooLate) = some false
  ki_InvalidCommand_TooLate : PySem.W.kitOne K (.ref c.InvalidCommand) (.ref c.TooLate) = some false
  ki_InvalidNumber_TooLate : PySem.W.kitOne K (.ref c.InvalidNumber) (.ref c.TooLate) = some false
  ki_LimitExceeded_TooLate : PySem.W.kitOne K (.ref c.LimitExceeded) (.ref c.TooLate) = some false
  ki_UnknownName_TooLate : PySem.W.kitOne K (.ref c.UnknownName) (.ref c.TooLate) = some false
  ki_Stuck_TooLate : PySem.W.kitOne K (.ref c.Stuck) (.ref c.TooLate) = some false
  ki_TooLate_TooLate : PySem.W.kitOne K (.ref c.TooLate) (.ref c.TooLate) = some true
  ki_NothingToUndo_TooLate : PySem.W.kitOne K (.ref c.NothingToUndo) (.ref c.TooLate) = some false
  ki_InvalidProgram_NothingToUndo : PySem.W.kitOne K (.ref c.InvalidProgram) (.ref c.NothingToUndo) = some false
  ki_InvalidSetting_NothingToUndo : PySem.W.kitOne K (.ref c.InvalidSetting) (.ref c.NothingToUndo) = some false
  ki_InvalidRange_NothingToUndo : PySem.W.kitOne K (.ref c.InvalidRange) (.ref c.NothingToUndo) = some false
  ki_InvalidShape_NothingToUndo : PySem.W.kitOne K (.ref c.InvalidShape) (.ref c.NothingToUndo) = some false
  ki_InvalidJournal_NothingToUndo : PySem.W.kitOne K (.ref c.InvalidJournal) (.ref c.NothingToUndo) = some false
  ki_InvalidSighting_NothingToUndo : PySem.W.kitOne K (.ref c.InvalidSighting) (.ref c.NothingToUndo) = some false
  ki_InvalidText_NothingToUndo : PySem.W.kitOne K (.ref c.InvalidText) (.ref c.NothingToUndo) = some false
  ki_InvalidCommand_NothingToUndo : PySem.W.kitOne K (.ref c.InvalidCommand) (.ref c.NothingToUndo) = some false
  ki_InvalidNumber_NothingToUndo : PySem.W.kitOne K (.ref c.InvalidNumber) (.ref c.NothingToUndo) = some false
  ki_LimitExceeded_NothingToUndo : PySem.W.kitOne K (.ref c.LimitExceeded) (.ref c.NothingToUndo) = some false
  ki_UnknownName_NothingToUndo : PySem.W.kitOne K (.ref c.UnknownName) (.ref c.NothingToUndo) = some false
  ki_Stuck_NothingToUndo : PySem.W.kitOne K (.ref c.Stuck) (.ref c.NothingToUndo) = some false
  ki_TooLate_NothingToUndo : PySem.W.kitOne K (.ref c.TooLate) (.ref c.NothingToUndo) = some false
  ki_NothingToUndo_NothingToUndo : PySem.W.kitOne K (.ref c.NothingToUndo) (.ref c.NothingToUndo) = some true
  ki_InvalidProgram_TimesError : PySem.W.kitOne K (.ref c.InvalidProgram) (.ref kTimesError) = some true
  ki_InvalidSetting_TimesError : PySem.W.kitOne K (.ref c.InvalidSetting) (.ref kTimesError) = some true
  ki_InvalidRange_TimesError : PySem.W.kitOne K (.ref c.InvalidRange) (.ref kTimesError) = some true
  ki_InvalidShape_TimesError : PySem.W.kitOne K (.ref c.InvalidShape) (.ref kTimesError) = some true
  ki_InvalidJournal_TimesError : PySem.W.kitOne K (.ref c.InvalidJournal) (.ref kTimesError) = some true
  ki_InvalidSighting_TimesError : PySem.W.kitOne K (.ref c.InvalidSighting) (.ref kTimesError) = some true
  ki_InvalidText_TimesError : PySem.W.kitOne K (.ref c.InvalidText) (.ref kTimesError) = some true
  ki_InvalidCommand_TimesError : PySem.W.kitOne K (.ref c.InvalidCommand) (.ref kTimesError) = some true
  ki_InvalidNumber_TimesError : PySem.W.kitOne K (.ref c.InvalidNumber) (.ref kTimesError) = some false
  ki_LimitExceeded_TimesError : PySem.W.kitOne K (.ref c.LimitExceeded) (.ref kTimesError) = some false
  ki_UnknownName_TimesError : PySem.W.kitOne K (.ref c.UnknownName) (.ref kTimesError) = some false
  ki_Stuck_TimesError : PySem.W.kitOne K (.ref c.Stuck) (.ref kTimesError) = some false
  ki_TooLate_TimesError : PySem.W.kitOne K (.ref c.TooLate) (.ref kTimesError) = some false
  ki_NothingToUndo_TimesError : PySem.W.kitOne K (.ref c.NothingToUndo) (.ref kTimesError) = some false
  ki_InvalidProgram_ValueError : PySem.W.kitOne K (.ref c.InvalidProgram) (.type "ValueError") = some false
  ki_InvalidSetting_ValueError : PySem.W.kitOne K (.ref c.InvalidSetting) (.type "ValueError") = some false
  ki_InvalidRange_ValueError : PySem.W.kitOne K (.ref c.InvalidRange) (.type "ValueError") = some false
  ki_InvalidShape_ValueError : PySem.W.kitOne K (.ref c.InvalidShape) (.type "ValueError") = some false
  ki_InvalidJournal_ValueError : PySem.W.kitOne K (.ref c.InvalidJournal) (.type "ValueError") = some false
  ki_InvalidSighting_ValueError : PySem.W.kitOne K (.ref c.InvalidSighting) (.type "ValueError") = some false
  ki_InvalidText_ValueError : PySem.W.kitOne K (.ref c.InvalidText) (.type "ValueError") = some false
  ki_InvalidCommand_ValueError : PySem.W.kitOne K (.ref c.InvalidCommand) (.type "ValueError") = some false
  ki_InvalidNumber_ValueError : PySem.W.kitOne K (.ref c.InvalidNumber) (.type "ValueError") = some true
  ki_LimitExceeded_ValueError : PySem.W.kitOne K (.ref c.LimitExceeded) (.type "ValueError") = some false
  ki_UnknownName_ValueError : PySem.W.kitOne K (.ref c.UnknownName) (.type "ValueError") = some false
  ki_Stuck_ValueError : PySem.W.kitOne K (.ref c.Stuck) (.type "ValueError") = some false
  ki_TooLate_ValueError : PySem.W.kitOne K (.ref c.TooLate) (.type "ValueError") = some false
  ki_NothingToUndo_ValueError : PySem.W.kitOne K (.ref c.NothingToUndo) (.type "ValueError") = some false
  ki_InvalidProgram_OverflowError : PySem.W.kitOne K (.ref c.InvalidProgram) (.type "OverflowError") = some false
  ki_InvalidSetting_OverflowError : PySem.W.kitOne K (.ref c.InvalidSetting) (.type "OverflowError") = some false
  ki_InvalidRange_OverflowError : PySem.W.kitOne K (.ref c.InvalidRange) (.type "OverflowError") = some false
  ki_InvalidShape_OverflowError : PySem.W.kitOne K (.ref c.InvalidShape) (.type "OverflowError") = some false
  ki_InvalidJournal_OverflowError : PySem.W.kitOne K (.ref c.InvalidJournal) (.type "OverflowError") = some false
  ki_InvalidSighting_OverflowError : PySem.W.kitOne K (.ref c.InvalidSighting) (.type "OverflowError") = some false
  ki_InvalidText_OverflowError : PySem.W.kitOne K (.ref c.InvalidText) (.type "OverflowError") = some false
  ki_InvalidCommand_OverflowError : PySem.W.kitOne K (.ref c.InvalidCommand) (.type "OverflowError") = some false
  ki_InvalidNumber_OverflowError : PySem.W.kitOne K (.ref c.InvalidNumber) (.type "OverflowError") = some false
  ki_LimitExceeded_OverflowError : PySem.W.kitOne K (.ref c.LimitExceeded) (.type "OverflowError") = some true
  ki_UnknownName_OverflowError : PySem.W.kitOne K (.ref c.UnknownName) (.type "OverflowError") = some false
  ki_Stuck_OverflowError : PySem.W.kitOne K (.ref c.Stuck) (.type "OverflowError") = some false
  ki_TooLate_OverflowError : PySem.W.kitOne K (.ref c.TooLate) (.type "OverflowError") = some false
  ki_NothingToUndo_OverflowError : PySem.W.kitOne K (.ref c.NothingToUndo) (.type "OverflowError") = some false
  ki_InvalidProgram_KeyError : PySem.W.kitOne K (.ref c.InvalidProgram) (.type "KeyError") = some false
  ki_InvalidSetting_KeyError : PySem.W.kitOne K (.ref c.InvalidSetting) (.type "KeyError") = some false
  ki_InvalidRange_KeyError : PySem.W.kitOne K (.ref c.InvalidRange) (.type "KeyError") = some false
  ki_InvalidShape_KeyError : PySem.W.kitOne K (.ref c.InvalidShape) (.type "KeyError") = some false
  ki_InvalidJournal_KeyError : PySem.W.kitOne K (.ref c.InvalidJournal) (.type "KeyError") = some false
  ki_InvalidSighting_KeyError : PySem.W.kitOne K (.ref c.InvalidSighting) (.type "KeyError") = some false
  ki_InvalidText_KeyError : PySem.W.kitOne K (.ref c.InvalidText) (.type "KeyError") = some false
  ki_InvalidCommand_KeyError : PySem.W.kitOne K (.ref c.InvalidCommand) (.type "KeyError") = some false
  ki_InvalidNumber_KeyError : PySem.W.kitOne K (.ref c.InvalidNumber) (.type "KeyError") = some false
  ki_LimitExceeded_KeyError : PySem.W.kitOne K (.ref c.LimitExceeded) (.type "KeyError") = some false
  ki_UnknownName_KeyError : PySem.W.kitOne K (.ref c.UnknownName) (.type "KeyError") = some true
  ki_Stuck_KeyError : PySem.W.kitOne K (.ref c.Stuck) (.type "KeyError") = some false
  ki_TooLate_KeyError : PySem.W.kitOne K (.ref c.TooLate) (.type "KeyError") = some false
  ki_NothingToUndo_KeyError : PySem.W.kitOne K (.ref c.NothingToUndo) (.type "KeyError") = some false
  ki_InvalidProgram_RuntimeError : PySem.W.kitOne K (.ref c.InvalidProgram) (.type "RuntimeError") = some false
  ki_InvalidSetting_RuntimeError : PySem.W.kitOne K (.ref c.InvalidSetting) (.type "RuntimeError") = some false
  ki_InvalidRange_RuntimeError : PySem.W.kitOne K (.ref c.InvalidRange) (.type "RuntimeError") = some false
  ki_InvalidShape_RuntimeError : PySem.W.kitOne K (.ref c.InvalidShape) (.type "RuntimeError") = some false
  ki_InvalidJournal_RuntimeError : PySem.W.kitOne K (.ref c.InvalidJournal) (.type "RuntimeError") = some false
  ki_InvalidSighting_RuntimeError : PySem.W.kitOne K (.ref c.InvalidSighting) (.type "RuntimeError") = some false
  ki_InvalidText_RuntimeError : PySem.W.kitOne K (.ref c.InvalidText) (.type "RuntimeError") = some false
  ki_InvalidCommand_RuntimeError : PySem.W.kitOne K (.ref c.InvalidCommand) (.type "RuntimeError") = some false
  ki_InvalidNumber_RuntimeError : PySem.W.kitOne K (.ref c.InvalidNumber) (.type "RuntimeError") = some false
  ki_LimitExceeded_RuntimeError : PySem.W.kitOne K (.ref c.LimitExceeded) (.type "RuntimeError") = some false
  ki_UnknownName_RuntimeError : PySem.W.kitOne K (.ref c.UnknownName) (.type "RuntimeError") = some false
  ki_Stuck_RuntimeError : PySem.W.kitOne K (.ref c.Stuck) (.type "RuntimeError") = some true
  ki_TooLate_RuntimeError : PySem.W.kitOne K (.ref c.TooLate) (.type "RuntimeError") = some true
  ki_NothingToUndo_RuntimeError : PySem.W.kitOne K (.ref c.NothingToUndo) (.type "RuntimeError") = some true
section
variable {P : Program} {w : World} {K : PySem.W.Frag}
  {mg : Str → Option Value} {base : Heap}
def cvOf (c : Cs) : String → Value := fun n => if n = "a" then .ref c.InvalidProgram else if n = "b" then .ref c.InvalidSetting else if n = "c" then .ref c.InvalidRange else if n = "d" then .ref c.InvalidShape else if n = "e" then .ref c.InvalidJournal else if n = "f" then .ref c.InvalidSighting else if n = "g" then .ref c.InvalidText else if n = "h" then .ref c.InvalidCommand else if n = "i" then .ref c.InvalidNumber else if n = "j" then .ref c.LimitExceeded else if n = "k" then .ref c.UnknownName else if n = "l" then .ref c.Stuck else if n = "m" then .ref c.TooLate else if n = "n" then .ref c.NothingToUndo else .none
abbrev Gx.T (G : Gx P w K mg base) : Tx := Tx.plain [] (cvOf G.c)
theorem lookup_mem {tb : List (String × Bool)} {d : String} {b : Bool} (h : tb.lookup d = some b) : (d, b) ∈ tb := by
  induction tb with
  | nil => cases h
  | cons p r ih =>
    obtain ⟨k, v⟩ := p
    rw [List.lookup_cons] at h
    cases q : d == k with
    | true =>
      rw [q] at h
      cases h
      rw [beq_iff_eq.mp q]
      exact List.mem_cons_self
    | false =>
      rw [q] at h
      exact .tail _ (ih h)

theorem Gx.v_InvalidProgram (G : Gx P w K mg base) : G.T.cv "a" = .ref G.c.InvalidProgram := by simp [Tx.plain, cvOf]
theorem Gx.v_InvalidSetting (G : Gx P w K mg base) : G.T.cv "b" = .ref G.c.InvalidSetting := by simp [Tx.plain, cvOf]
theorem Gx.v_InvalidRange (G : Gx P w K mg base) : G.T.cv "c" = .ref G.c.InvalidRange := by simp [Tx.plain, cvOf]
theorem Gx.v_InvalidShape (G : Gx P w K mg base) : G.T.cv "d" = .ref G.c.InvalidShape := by simp [Tx.plain, cvOf]
theorem Gx.v_InvalidJournal (G : Gx P w K mg base) : G.T.cv "e" = .ref G.c.InvalidJournal := by simp [Tx.plain, cvOf]
theorem Gx.v_InvalidSighting (G : Gx P w K mg base) : G.T.cv "f" = .ref G.c.InvalidSighting := by simp [Tx.plain, cvOf]
theorem Gx.v_InvalidText (G : Gx P w K mg base) : G.T.cv "g" = .ref G.c.InvalidText := by simp [Tx.plain, cvOf]
theorem Gx.v_InvalidCommand (G : Gx P w K mg base) : G.T.cv "h" = .ref G.c.InvalidCommand := by simp [Tx.plain, cvOf]
theorem Gx.v_InvalidNumber (G : Gx P w K mg base) : G.T.cv "i" = .ref G.c.InvalidNumber := by simp [Tx.plain, cvOf]
theorem Gx.v_LimitExceeded (G : Gx P w K mg base) : G.T.cv "j" = .ref G.c.LimitExceeded := by simp [Tx.plain, cvOf]
theorem Gx.v_UnknownName (G : Gx P w K mg base) : G.T.cv "k" = .ref G.c.UnknownName := by simp [Tx.plain, cvOf]
theorem Gx.v_Stuck (G : Gx P w K mg base) : G.T.cv "l" = .ref G.c.Stuck := by simp [Tx.plain, cvOf]
theorem Gx.v_TooLate (G : Gx P w K mg base) : G.T.cv "m" = .ref G.c.TooLate := by simp [Tx.plain, cvOf]
theorem Gx.v_NothingToUndo (G : Gx P w K mg base) : G.T.cv "n" = .ref G.c.NothingToUndo := by simp [Tx.plain, cvOf]
theorem Gx.tab_InvalidProgram (G : Gx P w K mg base) (d : String) (b : Bool) (h : K01.tab_InvalidProgram.lookup d = some b) : ∃ D, G.T.cv d = .ref D ∧ ExcC K D ∧ PySem.W.kitOne K (.ref D) (.ref G.c.InvalidProgram) = some b := by
  have hm := lookup_mem h
  simp only [K01.tab_InvalidProgram, List.mem_cons, Prod.mk.injEq, List.not_mem_nil, or_false] at hm
  rcases hm with ⟨rfl, rfl⟩ | ⟨rfl, rfl⟩ | ⟨rfl, rfl⟩ | ⟨rfl, rfl⟩ | ⟨rfl, rfl⟩ | ⟨rfl, rfl⟩ | ⟨rfl, rfl⟩ | ⟨rfl, rfl⟩ | ⟨rfl, rfl⟩ | ⟨rfl, rfl⟩ | ⟨rfl, rfl⟩ | ⟨rfl, rfl⟩ | ⟨rfl, rfl⟩ | ⟨rfl, rfl⟩
  · exact ⟨_, G.v_InvalidProgram, G.xc_InvalidProgram, G.ki_InvalidProgram_InvalidProgram⟩
  · exact ⟨_, G.v_InvalidSetting, G.xc_InvalidSetting, G.ki_InvalidSetting_InvalidProgram⟩
  · exact ⟨_, G.v_InvalidRange, G.xc_InvalidRange, G.ki_InvalidRange_InvalidProgram⟩
  · exact ⟨_, G.v_InvalidShape, G.xc_InvalidShape, G.ki_InvalidShape_InvalidProgram⟩
  · exact ⟨_, G.v_InvalidJournal, G.xc_InvalidJournal, G.ki_InvalidJournal_InvalidProgram⟩
  · exact ⟨_, G.v_InvalidSighting, G.xc_InvalidSighting, G.ki_InvalidSighting_InvalidProgram⟩
  · exact ⟨_, G.v_InvalidText, G.xc_InvalidText, G.ki_InvalidText_InvalidProgram⟩
  · exact ⟨_, G.v_InvalidCommand, G.xc_InvalidCommand, G.ki_InvalidCommand_InvalidProgram⟩
  · exact ⟨_, G.v_InvalidNumber, G.xc_InvalidNumber, G.ki_InvalidNumber_InvalidProgram⟩
  · exact ⟨_, G.v_LimitExceeded, G.xc_LimitExceeded, G.ki_LimitExceeded_InvalidProgram⟩
  · exact ⟨_, G.v_UnknownName, G.xc_UnknownName, G.ki_UnknownName_InvalidProgram⟩
  · exact ⟨_, G.v_Stuck, G.xc_Stuck, G.ki_Stuck_InvalidProgram⟩
  · exact ⟨_, G.v_TooLate, G.xc_TooLate, G.ki_TooLate_InvalidProgram⟩
  · exact ⟨_, G.v_NothingToUndo, G.xc_NothingToUndo, G.ki_NothingToUndo_InvalidProgram⟩
theorem Gx.tab_InvalidSetting (G : Gx P w K mg base) (d : String) (b : Bool) (h : K01.tab_InvalidSetting.lookup d = some b) : ∃ D, G.T.cv d = .ref D ∧ ExcC K D ∧ PySem.W.kitOne K (.ref D) (.ref G.c.InvalidSetting) = some b := by
  have hm := lookup_mem h
  simp only [K01.tab_InvalidSetting, List.mem_cons, Prod.mk.injEq, List.not_mem_nil, or_false] at hm
  rcases hm with ⟨rfl, rfl⟩ | ⟨rfl, rfl⟩ | ⟨rfl, rfl⟩ | ⟨rfl, rfl⟩ | ⟨rfl, rfl⟩ | ⟨rfl, rfl⟩ | ⟨rfl, rfl⟩ | ⟨rfl, rfl⟩ | ⟨rfl, rfl⟩ | ⟨rfl, rfl⟩ | ⟨rfl, rfl⟩ | ⟨rfl, rfl⟩ | ⟨rfl, rfl⟩ | ⟨rfl, rfl⟩
  · exact ⟨_, G.v_InvalidProgram, G.xc_InvalidProgram, G.ki_InvalidProgram_InvalidSetting⟩
  · exact ⟨_, G.v_InvalidSetting, G.xc_InvalidSetting, G.ki_InvalidSetting_InvalidSetting⟩
  · exact ⟨_, G.v_InvalidRange, G.xc_InvalidRange, G.ki_InvalidRange_InvalidSetting⟩
  · exact ⟨_, G.v_InvalidShape, G.xc_InvalidShape, G.ki_InvalidShape_InvalidSetting⟩
  · exact ⟨_, G.v_InvalidJournal, G.xc_InvalidJournal, G.ki_InvalidJournal_InvalidSetting⟩
  · exact ⟨_, G.v_InvalidSighting, G.xc_InvalidSighting, G.ki_InvalidSighting_InvalidSetting⟩
  · exact ⟨_, G.v_InvalidText, G.xc_InvalidText, G.ki_InvalidText_InvalidSetting⟩
  · exact ⟨_, G.v_InvalidCommand, G.xc_InvalidCommand, G.ki_InvalidCommand_InvalidSetting⟩
  · exact ⟨_, G.v_InvalidNumber, G.xc_InvalidNumber, G.ki_InvalidNumber_InvalidSetting⟩
  · exact ⟨_, G.v_LimitExceeded, G.xc_LimitExceeded, G.ki_LimitExceeded_InvalidSetting⟩
  · exact ⟨_, G.v_UnknownName, G.xc_UnknownName, G.ki_UnknownName_InvalidSetting⟩
  · exact ⟨_, G.v_Stuck, G.xc_Stuck, G.ki_Stuck_InvalidSetting⟩
  · exact ⟨_, G.v_TooLate, G.xc_TooLate, G.ki_TooLate_InvalidSetting⟩
  · exact ⟨_, G.v_NothingToUndo, G.xc_NothingToUndo, G.ki_NothingToUndo_InvalidSetting⟩
theorem Gx.tab_InvalidRange (G : Gx P w K mg base) (d : String) (b : Bool) (h : K01.tab_InvalidRange.lookup d = some b) : ∃ D, G.T.cv d = .ref D ∧ ExcC K D ∧ PySem.W.kitOne K (.ref D) (.ref G.c.InvalidRange) = some b := by
  have hm := lookup_mem h
  simp only [K01.tab_InvalidRange, List.mem_cons, Prod.mk.injEq, List.not_mem_nil, or_false] at hm
  rcases hm with ⟨rfl, rfl⟩ | ⟨rfl, rfl⟩ | ⟨rfl, rfl⟩ | ⟨rfl, rfl⟩ | ⟨rfl, rfl⟩ | ⟨rfl, rfl⟩ | ⟨rfl, rfl⟩ | ⟨rfl, rfl⟩ | ⟨rfl, rfl⟩ | ⟨rfl, rfl⟩ | ⟨rfl, rfl⟩ | ⟨rfl, rfl⟩ | ⟨rfl, rfl⟩ | ⟨rfl, rfl⟩
  · exact ⟨_, G.v_InvalidProgram, G.xc_InvalidProgram, G.ki_InvalidProgram_InvalidRange⟩
  · exact ⟨_, G.v_InvalidSetting, G.xc_InvalidSetting, G.ki_InvalidSetting_InvalidRange⟩
  · exact ⟨_, G.v_InvalidRange, G.xc_InvalidRange, G.ki_InvalidRange_InvalidRange⟩
  · exact ⟨_, G.v_InvalidShape, G.xc_InvalidShape, G.ki_InvalidShape_InvalidRange⟩
  · exact ⟨_, G.v_InvalidJournal, G.xc_InvalidJournal, G.ki_InvalidJournal_InvalidRange⟩
  · exact ⟨_, G.v_InvalidSighting, G.xc_InvalidSighting, G.ki_InvalidSighting_InvalidRange⟩
  · exact ⟨_, G.v_InvalidText, G.xc_InvalidText, G.ki_InvalidText_InvalidRange⟩
  · exact ⟨_, G.v_InvalidCommand, G.xc_InvalidCommand, G.ki_InvalidCommand_InvalidRange⟩
  · exact ⟨_, G.v_InvalidNumber, G.xc_InvalidNumber, G.ki_InvalidNumber_InvalidRange⟩
  · exact ⟨_, G.v_LimitExceeded, G.xc_LimitExceeded, G.ki_LimitExceeded_InvalidRange⟩
  · exact ⟨_, G.v_UnknownName, G.xc_UnknownName, G.ki_UnknownName_InvalidRange⟩
  · exact ⟨_, G.v_Stuck, G.xc_Stuck, G.ki_Stuck_InvalidRange⟩
  · exact ⟨_, G.v_TooLate, G.xc_TooLate, G.ki_TooLate_InvalidRange⟩
  · exact ⟨_, G.v_NothingToUndo, G.xc_NothingToUndo, G.ki_NothingToUndo_InvalidRange⟩
theorem Gx.tab_InvalidShape (G : Gx P w K mg base) (d : String) (b : Bool) (h : K01.tab_InvalidShape.lookup d = some b) : ∃ D, G.T.cv d = .ref D ∧ ExcC K D ∧ PySem.W.kitOne K (.ref D) (.ref G.c.InvalidShape) = some b := by
  have hm := lookup_mem h
  simp only [K01.tab_InvalidShape, List.mem_cons, Prod.mk.injEq, List.not_mem_nil, or_false] at hm
  rcases hm with ⟨rfl, rfl⟩ | ⟨rfl, rfl⟩ | ⟨rfl, rfl⟩ | ⟨rfl, rfl⟩ | ⟨rfl, rfl⟩ | ⟨rfl, rfl⟩ | ⟨rfl, rfl⟩ | ⟨rfl, rfl⟩ | ⟨rfl, rfl⟩ | ⟨rfl, rfl⟩ | ⟨rfl, rfl⟩ | ⟨rfl, rfl⟩ | ⟨rfl, rfl⟩ | ⟨rfl, rfl⟩
  · exact ⟨_, G.v_InvalidProgram, G.xc_InvalidProgram, G.ki_InvalidProgram_InvalidShape⟩
  · exact ⟨_, G.v_InvalidSetting, G.xc_InvalidSetting, G.ki_InvalidSetting_InvalidShape⟩
  · exact ⟨_, G.v_InvalidRange, G.xc_InvalidRange, G.ki_InvalidRange_InvalidShape⟩
  · exact ⟨_, G.v_InvalidShape, G.xc_InvalidShape, G.ki_InvalidShape_InvalidShape⟩
  · exact ⟨_, G.v_InvalidJournal, G.xc_InvalidJournal, G.ki_InvalidJournal_InvalidShape⟩
  · exact ⟨_, G.v_InvalidSighting, G.xc_InvalidSighting, G.ki_InvalidSighting_InvalidShape⟩
  · exact ⟨_, G.v_InvalidText, G.xc_InvalidText, G.ki_InvalidText_InvalidShape⟩
  · exact ⟨_, G.v_InvalidCommand, G.xc_InvalidCommand, G.ki_InvalidCommand_InvalidShape⟩
  · exact ⟨_, G.v_InvalidNumber, G.xc_InvalidNumber, G.ki_InvalidNumber_InvalidShape⟩
  · exact ⟨_, G.v_LimitExceeded, G.xc_LimitExceeded, G.ki_LimitExceeded_InvalidShape⟩
  · exact ⟨_, G.v_UnknownName, G.xc_UnknownName, G.ki_UnknownName_InvalidShape⟩
  · exact ⟨_, G.v_Stuck, G.xc_Stuck, G.ki_Stuck_InvalidShape⟩
  · exact ⟨_, G.v_TooLate, G.xc_TooLate, G.ki_TooLate_InvalidShape⟩
  · exact ⟨_, G.v_NothingToUndo, G.xc_NothingToUndo, G.ki_NothingToUndo_InvalidShape⟩
theorem Gx.tab_InvalidJournal (G : Gx P w K mg base) (d : String) (b : Bool) (h : K01.tab_InvalidJournal.lookup d = some b) : ∃ D, G.T.cv d = .ref D ∧ ExcC K D ∧ PySem.W.kitOne K (.ref D) (.ref G.c.InvalidJournal) = some b := by
  have hm := lookup_mem h
  simp only [K01.tab_InvalidJournal, List.mem_cons, Prod.mk.injEq, List.not_mem_nil, or_false] at hm
  rcases hm with ⟨rfl, rfl⟩ | ⟨rfl, rfl⟩ | ⟨rfl, rfl⟩ | ⟨rfl, rfl⟩ | ⟨rfl, rfl⟩ | ⟨rfl, rfl⟩ | ⟨rfl, rfl⟩ | ⟨rfl, rfl⟩ | ⟨rfl, rfl⟩ | ⟨rfl, rfl⟩ | ⟨rfl, rfl⟩ | ⟨rfl, rfl⟩ | ⟨rfl, rfl⟩ | ⟨rfl, rfl⟩
  · exact ⟨_, G.v_InvalidProgram, G.xc_InvalidProgram, G.ki_InvalidProgram_InvalidJournal⟩
  · exact ⟨_, G.v_InvalidSetting, G.xc_InvalidSetting, G.ki_InvalidSetting_InvalidJournal⟩
  · exact ⟨_, G.v_InvalidRange, G.xc_InvalidRange, G.ki_InvalidRange_InvalidJournal⟩
  · exact ⟨_, G.v_InvalidShape, G.xc_InvalidShape, G.ki_InvalidShape_InvalidJournal⟩
  · exact ⟨_, G.v_InvalidJournal, G.xc_InvalidJournal, G.ki_InvalidJournal_InvalidJournal⟩
  · exact ⟨_, G.v_InvalidSighting, G.xc_InvalidSighting, G.ki_InvalidSighting_InvalidJournal⟩
  · exact ⟨_, G.v_InvalidText, G.xc_InvalidText, G.ki_InvalidText_InvalidJournal⟩
  · exact ⟨_, G.v_InvalidCommand, G.xc_InvalidCommand, G.ki_InvalidCommand_InvalidJournal⟩
  · exact ⟨_, G.v_InvalidNumber, G.xc_InvalidNumber, G.ki_InvalidNumber_InvalidJournal⟩
  · exact ⟨_, G.v_LimitExceeded, G.xc_LimitExceeded, G.ki_LimitExceeded_InvalidJournal⟩
  · exact ⟨_, G.v_UnknownName, G.xc_UnknownName, G.ki_UnknownName_InvalidJournal⟩
  · exact ⟨_, G.v_Stuck, G.xc_Stuck, G.ki_Stuck_InvalidJournal⟩
  · exact ⟨_, G.v_TooLate, G.xc_TooLate, G.ki_TooLate_InvalidJournal⟩
  · exact ⟨_, G.v_NothingToUndo, G.xc_NothingToUndo, G.ki_NothingToUndo_InvalidJournal⟩
theorem Gx.tab_InvalidSighting (G : Gx P w K mg base) (d : String) (b : Bool) (h : K01.tab_InvalidSighting.lookup d = some b) : ∃ D, G.T.cv d = .ref D ∧ ExcC K D ∧ PySem.W.kitOne K (.ref D) (.ref G.c.InvalidSighting) = some b := by
  have hm := lookup_mem h
  simp only [K01.tab_InvalidSighting, List.mem_cons, Prod.mk.injEq, List.not_mem_nil, or_false] at hm
  rcases hm with ⟨rfl, rfl⟩ | ⟨rfl, rfl⟩ | ⟨rfl, rfl⟩ | ⟨rfl, rfl⟩ | ⟨rfl, rfl⟩ | ⟨rfl, rfl⟩ | ⟨rfl, rfl⟩ | ⟨rfl, rfl⟩ | ⟨rfl, rfl⟩ | ⟨rfl, rfl⟩ | ⟨rfl, rfl⟩ | ⟨rfl, rfl⟩ | ⟨rfl, rfl⟩ | ⟨rfl, rfl⟩
  · exact ⟨_, G.v_InvalidProgram, G.xc_InvalidProgram, G.ki_InvalidProgram_InvalidSighting⟩
  · exact ⟨_, G.v_InvalidSetting, G.xc_InvalidSetting, G.ki_InvalidSetting_InvalidSighting⟩
  · exact ⟨_, G.v_InvalidRange, G.xc_InvalidRange, G.ki_InvalidRange_InvalidSighting⟩
  · exact ⟨_, G.v_InvalidShape, G.xc_InvalidShape, G.ki_InvalidShape_InvalidSighting⟩
  · exact ⟨_, G.v_InvalidJournal, G.xc_InvalidJournal, G.ki_InvalidJournal_InvalidSighting⟩
  · exact ⟨_, G.v_InvalidSighting, G.xc_InvalidSighting, G.ki_InvalidSighting_InvalidSighting⟩
  · exact ⟨_, G.v_InvalidText, G.xc_InvalidText, G.ki_InvalidText_InvalidSighting⟩
  · exact ⟨_, G.v_InvalidCommand, G.xc_InvalidCommand, G.ki_InvalidCommand_InvalidSighting⟩
  · exact ⟨_, G.v_InvalidNumber, G.xc_InvalidNumber, G.ki_InvalidNumber_InvalidSighting⟩
  · exact ⟨_, G.v_LimitExceeded, G.xc_LimitExceeded, G.ki_LimitExceeded_InvalidSighting⟩
  · exact ⟨_, G.v_UnknownName, G.xc_UnknownName, G.ki_UnknownName_InvalidSighting⟩
  · exact ⟨_, G.v_Stuck, G.xc_Stuck, G.ki_Stuck_InvalidSighting⟩
  · exact ⟨_, G.v_TooLate, G.xc_TooLate, G.ki_TooLate_InvalidSighting⟩
  · exact ⟨_, G.v_NothingToUndo, G.xc_NothingToUndo, G.ki_NothingToUndo_InvalidSighting⟩
theorem Gx.tab_InvalidText (G : Gx P w K mg base) (d : String) (b : Bool) (h : K01.tab_InvalidText.lookup d = some b) : ∃ D, G.T.cv d = .ref D ∧ ExcC K D ∧ PySem.W.kitOne K (.ref D) (.ref G.c.InvalidText) = some b := by
  have hm := lookup_mem h
  simp only [K01.tab_InvalidText, List.mem_cons, Prod.mk.injEq, List.not_mem_nil, or_false] at hm
  rcases hm with ⟨rfl, rfl⟩ | ⟨rfl, rfl⟩ | ⟨rfl, rfl⟩ | ⟨rfl, rfl⟩ | ⟨rfl, rfl⟩ | ⟨rfl, rfl⟩ | ⟨rfl, rfl⟩ | ⟨rfl, rfl⟩ | ⟨rfl, rfl⟩ | ⟨rfl, rfl⟩ | ⟨rfl, rfl⟩ | ⟨rfl, rfl⟩ | ⟨rfl, rfl⟩ | ⟨rfl, rfl⟩
  · exact ⟨_, G.v_InvalidProgram, G.xc_InvalidProgram, G.ki_InvalidProgram_InvalidText⟩
  · exact ⟨_, G.v_InvalidSetting, G.xc_InvalidSetting, G.ki_InvalidSetting_InvalidText⟩
  · exact ⟨_, G.v_InvalidRange, G.xc_InvalidRange, G.ki_InvalidRange_InvalidText⟩
  · exact ⟨_, G.v_InvalidShape, G.xc_InvalidShape, G.ki_InvalidShape_InvalidText⟩
  · exact ⟨_, G.v_InvalidJournal, G.xc_InvalidJournal, G.ki_InvalidJournal_InvalidText⟩
  · exact ⟨_, G.v_InvalidSighting, G.xc_InvalidSighting, G.ki_InvalidSighting_InvalidText⟩
  · exact ⟨_, G.v_InvalidText, G.xc_InvalidText, G.ki_InvalidText_InvalidText⟩
  · exact ⟨_, G.v_InvalidCommand, G.xc_InvalidCommand, G.ki_InvalidCommand_InvalidText⟩
  · exact ⟨_, G.v_InvalidNumber, G.xc_InvalidNumber, G.ki_InvalidNumber_InvalidText⟩
  · exact ⟨_, G.v_LimitExceeded, G.xc_LimitExceeded, G.ki_LimitExceeded_InvalidText⟩
  · exact ⟨_, G.v_UnknownName, G.xc_UnknownName, G.ki_UnknownName_InvalidText⟩
  · exact ⟨_, G.v_Stuck, G.xc_Stuck, G.ki_Stuck_InvalidText⟩
  · exact ⟨_, G.v_TooLate, G.xc_TooLate, G.ki_TooLate_InvalidText⟩
  · exact ⟨_, G.v_NothingToUndo, G.xc_NothingToUndo, G.ki_NothingToUndo_InvalidText⟩
theorem Gx.tab_InvalidCommand (G : Gx P w K mg base) (d : String) (b : Bool) (h : K01.tab_InvalidCommand.lookup d = some b) : ∃ D, G.T.cv d = .ref D ∧ ExcC K D ∧ PySem.W.kitOne K (.ref D) (.ref G.c.InvalidCommand) = some b := by
  have hm := lookup_mem h
  simp only [K01.tab_InvalidCommand, List.mem_cons, Prod.mk.injEq, List.not_mem_nil, or_false] at hm
  rcases hm with ⟨rfl, rfl⟩ | ⟨rfl, rfl⟩ | ⟨rfl, rfl⟩ | ⟨rfl, rfl⟩ | ⟨rfl, rfl⟩ | ⟨rfl, rfl⟩ | ⟨rfl, rfl⟩ | ⟨rfl, rfl⟩ | ⟨rfl, rfl⟩ | ⟨rfl, rfl⟩ | ⟨rfl, rfl⟩ | ⟨rfl, rfl⟩ | ⟨rfl, rfl⟩ | ⟨rfl, rfl⟩
  · exact ⟨_, G.v_InvalidProgram, G.xc_InvalidProgram, G.ki_InvalidProgram_InvalidCommand⟩
  · exact ⟨_, G.v_InvalidSetting, G.xc_InvalidSetting, G.ki_InvalidSetting_InvalidCommand⟩
  · exact ⟨_, G.v_InvalidRange, G.xc_InvalidRange, G.ki_InvalidRange_InvalidCommand⟩
  · exact ⟨_, G.v_InvalidShape, G.xc_InvalidShape, G.ki_InvalidShape_InvalidCommand⟩
  · exact ⟨_, G.v_InvalidJournal, G.xc_InvalidJournal, G.ki_InvalidJournal_InvalidCommand⟩
  · exact ⟨_, G.v_InvalidSighting, G.xc_InvalidSighting, G.ki_InvalidSighting_InvalidCommand⟩
  · exact ⟨_, G.v_InvalidText, G.xc_InvalidText, G.ki_InvalidText_InvalidCommand⟩
  · exact ⟨_, G.v_InvalidCommand, G.xc_InvalidCommand, G.ki_InvalidCommand_InvalidCommand⟩
  · exact ⟨_, G.v_InvalidNumber, G.xc_InvalidNumber, G.ki_InvalidNumber_InvalidCommand⟩
  · exact ⟨_, G.v_LimitExceeded, G.xc_LimitExceeded, G.ki_LimitExceeded_InvalidCommand⟩
  · exact ⟨_, G.v_UnknownName, G.xc_UnknownName, G.ki_UnknownName_InvalidCommand⟩
  · exact ⟨_, G.v_Stuck, G.xc_Stuck, G.ki_Stuck_InvalidCommand⟩
  · exact ⟨_, G.v_TooLate, G.xc_TooLate, G.ki_TooLate_InvalidCommand⟩
  · exact ⟨_, G.v_NothingToUndo, G.xc_NothingToUndo, G.ki_NothingToUndo_InvalidCommand⟩
theorem Gx.tab_InvalidNumber (G : Gx P w K mg base) (d : String) (b : Bool) (h : K01.tab_InvalidNumber.lookup d = some b) : ∃ D, G.T.cv d = .ref D ∧ ExcC K D ∧ PySem.W.kitOne K (.ref D) (.ref G.c.InvalidNumber) = some b := by
  have hm := lookup_mem h
  simp only [K01.tab_InvalidNumber, List.mem_cons, Prod.mk.injEq, List.not_mem_nil, or_false] at hm
  rcases hm with ⟨rfl, rfl⟩ | ⟨rfl, rfl⟩ | ⟨rfl, rfl⟩ | ⟨rfl, rfl⟩ | ⟨rfl, rfl⟩ | ⟨rfl, rfl⟩ | ⟨rfl, rfl⟩ | ⟨rfl, rfl⟩ | ⟨rfl, rfl⟩ | ⟨rfl, rfl⟩ | ⟨rfl, rfl⟩ | ⟨rfl, rfl⟩ | ⟨rfl, rfl⟩ | ⟨rfl, rfl⟩
  · exact ⟨_, G.v_InvalidProgram, G.xc_InvalidProgram, G.ki_InvalidProgram_InvalidNumber⟩
  · exact ⟨_, G.v_InvalidSetting, G.xc_InvalidSetting, G.ki_InvalidSetting_InvalidNumber⟩
  · exact ⟨_, G.v_InvalidRange, G.xc_InvalidRange, G.ki_InvalidRange_InvalidNumber⟩
  · exact ⟨_, G.v_InvalidShape, G.xc_InvalidShape, G.ki_InvalidShape_InvalidNumber⟩
  · exact ⟨_, G.v_InvalidJournal, G.xc_InvalidJournal, G.ki_InvalidJournal_InvalidNumber⟩
  · exact ⟨_, G.v_InvalidSighting, G.xc_InvalidSighting, G.ki_InvalidSighting_InvalidNumber⟩
  · exact ⟨_, G.v_InvalidText, G.xc_InvalidText, G.ki_InvalidText_InvalidNumber⟩
  · exact ⟨_, G.v_InvalidCommand, G.xc_InvalidCommand, G.ki_InvalidCommand_InvalidNumber⟩
  · exact ⟨_, G.v_InvalidNumber, G.xc_InvalidNumber, G.ki_InvalidNumber_InvalidNumber⟩
  · exact ⟨_, G.v_LimitExceeded, G.xc_LimitExceeded, G.ki_LimitExceeded_InvalidNumber⟩
  · exact ⟨_, G.v_UnknownName, G.xc_UnknownName, G.ki_UnknownName_InvalidNumber⟩
  · exact ⟨_, G.v_Stuck, G.xc_Stuck, G.ki_Stuck_InvalidNumber⟩
  · exact ⟨_, G.v_TooLate, G.xc_TooLate, G.ki_TooLate_InvalidNumber⟩
  · exact ⟨_, G.v_NothingToUndo, G.xc_NothingToUndo, G.ki_NothingToUndo_InvalidNumber⟩
theorem Gx.tab_LimitExceeded (G : Gx P w K mg base) (d : String) (b : Bool) (h : K01.tab_LimitExceeded.lookup d = some b) : ∃ D, G.T.cv d = .ref D ∧ ExcC K D ∧ PySem.W.kitOne K (.ref D) (.ref G.c.LimitExceeded) = some b := by
  have hm := lookup_mem h
  simp only [K01.tab_LimitExceeded, List.mem_cons, Prod.mk.injEq, List.not_mem_nil, or_false] at hm
  rcases hm with ⟨rfl, rfl⟩ | ⟨rfl, rfl⟩ | ⟨rfl, rfl⟩ | ⟨rfl, rfl⟩ | ⟨rfl, rfl⟩ | ⟨rfl, rfl⟩ | ⟨rfl, rfl⟩ | ⟨rfl, rfl⟩ | ⟨rfl, rfl⟩ | ⟨rfl, rfl⟩ | ⟨rfl, rfl⟩ | ⟨rfl, rfl⟩ | ⟨rfl, rfl⟩ | ⟨rfl, rfl⟩
  · exact ⟨_, G.v_InvalidProgram, G.xc_InvalidProgram, G.ki_InvalidProgram_LimitExceeded⟩
  · exact ⟨_, G.v_InvalidSetting, G.xc_InvalidSetting, G.ki_InvalidSetting_LimitExceeded⟩
  · exact ⟨_, G.v_InvalidRange, G.xc_InvalidRange, G.ki_InvalidRange_LimitExceeded⟩
  · exact ⟨_, G.v_InvalidShape, G.xc_InvalidShape, G.ki_InvalidShape_LimitExceeded⟩
  · exact ⟨_, G.v_InvalidJournal, G.xc_InvalidJournal, G.ki_InvalidJournal_LimitExceeded⟩
  · exact ⟨_, G.v_InvalidSighting, G.xc_InvalidSighting, G.ki_InvalidSighting_LimitExceeded⟩
  · exact ⟨_, G.v_InvalidText, G.xc_InvalidText, G.ki_InvalidText_LimitExceeded⟩
  · exact ⟨_, G.v_InvalidCommand, G.xc_InvalidCommand, G.ki_InvalidCommand_LimitExceeded⟩
  · exact ⟨_, G.v_InvalidNumber, G.xc_InvalidNumber, G.ki_InvalidNumber_LimitExceeded⟩
  · exact ⟨_, G.v_LimitExceeded, G.xc_LimitExceeded, G.ki_LimitExceeded_LimitExceeded⟩
  · exact ⟨_, G.v_UnknownName, G.xc_UnknownName, G.ki_UnknownName_LimitExceeded⟩
  · exact ⟨_, G.v_Stuck, G.xc_Stuck, G.ki_Stuck_LimitExceeded⟩
  · exact ⟨_, G.v_TooLate, G.xc_TooLate, G.ki_TooLate_LimitExceeded⟩
  · exact ⟨_, G.v_NothingToUndo, G.xc_NothingToUndo, G.ki_NothingToUndo_LimitExceeded⟩
theorem Gx.tab_UnknownName (G : Gx P w K mg base) (d : String) (b : Bool) (h : K01.tab_UnknownName.lookup d = some b) : ∃ D, G.T.cv d = .ref D ∧ ExcC K D ∧ PySem.W.kitOne K (.ref D) (.ref G.c.UnknownName) = some b := by
  have hm := lookup_mem h
  simp only [K01.tab_UnknownName, List.mem_cons, Prod.mk.injEq, List.not_mem_nil, or_false] at hm
  rcases hm with ⟨rfl, rfl⟩ | ⟨rfl, rfl⟩ | ⟨rfl, rfl⟩ | ⟨rfl, rfl⟩ | ⟨rfl, rfl⟩ | ⟨rfl, rfl⟩ | ⟨rfl, rfl⟩ | ⟨rfl, rfl⟩ | ⟨rfl, rfl⟩ | ⟨rfl, rfl⟩ | ⟨rfl, rfl⟩ | ⟨rfl, rfl⟩ | ⟨rfl, rfl⟩ | ⟨rfl, rfl⟩
  · exact ⟨_, G.v_InvalidProgram, G.xc_InvalidProgram, G.ki_InvalidProgram_UnknownName⟩
  · exact ⟨_, G.v_InvalidSetting, G.xc_InvalidSetting, G.ki_InvalidSetting_UnknownName⟩
  · exact ⟨_, G.v_InvalidRange, G.xc_InvalidRange, G.ki_InvalidRange_UnknownName⟩
  · exact ⟨_, G.v_InvalidShape, G.xc_InvalidShape, G.ki_InvalidShape_UnknownName⟩
  · exact ⟨_, G.v_InvalidJournal, G.xc_InvalidJournal, G.ki_InvalidJournal_UnknownName⟩
  · exact ⟨_, G.v_InvalidSighting, G.xc_InvalidSighting, G.ki_InvalidSighting_UnknownName⟩
  · exact ⟨_, G.v_InvalidText, G.xc_InvalidText, G.ki_InvalidText_UnknownName⟩
  · exact ⟨_, G.v_InvalidCommand, G.xc_InvalidCommand, G.ki_InvalidCommand_UnknownName⟩
  · exact ⟨_, G.v_InvalidNumber, G.xc_InvalidNumber, G.ki_InvalidNumber_UnknownName⟩
  · exact ⟨_, G.v_LimitExceeded, G.xc_LimitExceeded, G.ki_LimitExceeded_UnknownName⟩
  · exact ⟨_, G.v_UnknownName, G.xc_UnknownName, G.ki_UnknownName_UnknownName⟩
  · exact ⟨_, G.v_Stuck, G.xc_Stuck, G.ki_Stuck_UnknownName⟩
  · exact ⟨_, G.v_TooLate, G.xc_TooLate, G.ki_TooLate_UnknownName⟩
  · exact ⟨_, G.v_NothingToUndo, G.xc_NothingToUndo, G.ki_NothingToUndo_UnknownName⟩
theorem Gx.tab_Stuck (G : Gx P w K mg base) (d : String) (b : Bool) (h : K01.tab_Stuck.lookup d = some b) : ∃ D, G.T.cv d = .ref D ∧ ExcC K D ∧ PySem.W.kitOne K (.ref D) (.ref G.c.Stuck) = some b := by
  have hm := lookup_mem h
  simp only [K01.tab_Stuck, List.mem_cons, Prod.mk.injEq, List.not_mem_nil, or_false] at hm
  rcases hm with ⟨rfl, rfl⟩ | ⟨rfl, rfl⟩ | ⟨rfl, rfl⟩ | ⟨rfl, rfl⟩ | ⟨rfl, rfl⟩ | ⟨rfl, rfl⟩ | ⟨rfl, rfl⟩ | ⟨rfl, rfl⟩ | ⟨rfl, rfl⟩ | ⟨rfl, rfl⟩ | ⟨rfl, rfl⟩ | ⟨rfl, rfl⟩ | ⟨rfl, rfl⟩ | ⟨rfl, rfl⟩
  · exact ⟨_, G.v_InvalidProgram, G.xc_InvalidProgram, G.ki_InvalidProgram_Stuck⟩
  · exact ⟨_, G.v_InvalidSetting, G.xc_InvalidSetting, G.ki_InvalidSetting_Stuck⟩
  · exact ⟨_, G.v_InvalidRange, G.xc_InvalidRange, G.ki_InvalidRange_Stuck⟩
  · exact ⟨_, G.v_InvalidShape, G.xc_InvalidShape, G.ki_InvalidShape_Stuck⟩
  · exact ⟨_, G.v_InvalidJournal, G.xc_InvalidJournal, G.ki_InvalidJournal_Stuck⟩
  · exact ⟨_, G.v_InvalidSighting, G.xc_InvalidSighting, G.ki_InvalidSighting_Stuck⟩
  · exact ⟨_, G.v_InvalidText, G.xc_InvalidText, G.ki_InvalidText_Stuck⟩
  · exact ⟨_, G.v_InvalidCommand, G.xc_InvalidCommand, G.ki_InvalidCommand_Stuck⟩
  · exact ⟨_, G.v_InvalidNumber, G.xc_InvalidNumber, G.ki_InvalidNumber_Stuck⟩
  · exact ⟨_, G.v_LimitExceeded, G.xc_LimitExceeded, G.ki_LimitExceeded_Stuck⟩
  · exact ⟨_, G.v_UnknownName, G.xc_UnknownName, G.ki_UnknownName_Stuck⟩
  · exact ⟨_, G.v_Stuck, G.xc_Stuck, G.ki_Stuck_Stuck⟩
  · exact ⟨_, G.v_TooLate, G.xc_TooLate, G.ki_TooLate_Stuck⟩
  · exact ⟨_, G.v_NothingToUndo, G.xc_NothingToUndo, G.ki_NothingToUndo_Stuck⟩
theorem Gx.tab_TooLate (G : Gx P w K mg base) (d : String) (b : Bool) (h : K01.tab_TooLate.lookup d = some b) : ∃ D, G.T.cv d = .ref D ∧ ExcC K D ∧ PySem.W.kitOne K (.ref D) (.ref G.c.TooLate) = some b := by
  have hm := lookup_mem h
  simp only [K01.tab_TooLate, List.mem_cons, Prod.mk.injEq, List.not_mem_nil, or_false] at hm
  rcases hm with ⟨rfl, rfl⟩ | ⟨rfl, rfl⟩ | ⟨rfl, rfl⟩ | ⟨rfl, rfl⟩ | ⟨rfl, rfl⟩ | ⟨rfl, rfl⟩ | ⟨rfl, rfl⟩ | ⟨rfl, rfl⟩ | ⟨rfl, rfl⟩ | ⟨rfl, rfl⟩ | ⟨rfl, rfl⟩ | ⟨rfl, rfl⟩ | ⟨rfl, rfl⟩ | ⟨rfl, rfl⟩
  · exact ⟨_, G.v_InvalidProgram, G.xc_InvalidProgram, G.ki_InvalidProgram_TooLate⟩
  · exact ⟨_, G.v_InvalidSetting, G.xc_InvalidSetting, G.ki_InvalidSetting_TooLate⟩
  · exact ⟨_, G.v_InvalidRange, G.xc_InvalidRange, G.ki_InvalidRange_TooLate⟩
  · exact ⟨_, G.v_InvalidShape, G.xc_InvalidShape, G.ki_InvalidShape_TooLate⟩
  · exact ⟨_, G.v_InvalidJournal, G.xc_InvalidJournal, G.ki_InvalidJournal_TooLate⟩
  · exact ⟨_, G.v_InvalidSighting, G.xc_InvalidSighting, G.ki_InvalidSighting_TooLate⟩
  · exact ⟨_, G.v_InvalidText, G.xc_InvalidText, G.ki_InvalidText_TooLate⟩
  · exact ⟨_, G.v_InvalidCommand, G.xc_InvalidCommand, G.ki_InvalidCommand_TooLate⟩
  · exact ⟨_, G.v_InvalidNumber, G.xc_InvalidNumber, G.ki_InvalidNumber_TooLate⟩
  · exact ⟨_, G.v_LimitExceeded, G.xc_LimitExceeded, G.ki_LimitExceeded_TooLate⟩
  · exact ⟨_, G.v_UnknownName, G.xc_UnknownName, G.ki_UnknownName_TooLate⟩
  · exact ⟨_, G.v_Stuck, G.xc_Stuck, G.ki_Stuck_TooLate⟩
  · exact ⟨_, G.v_TooLate, G.xc_TooLate, G.ki_TooLate_TooLate⟩
  · exact ⟨_, G.v_NothingToUndo, G.xc_NothingToUndo, G.ki_NothingToUndo_TooLate⟩
theorem Gx.tab_NothingToUndo (G : Gx P w K mg base) (d : String) (b : Bool) (h : K01.tab_NothingToUndo.lookup d = some b) : ∃ D, G.T.cv d = .ref D ∧ ExcC K D ∧ PySem.W.kitOne K (.ref D) (.ref G.c.NothingToUndo) = some b := by
  have hm := lookup_mem h
  simp only [K01.tab_NothingToUndo, List.mem_cons, Prod.mk.injEq, List.not_mem_nil, or_false] at hm
  rcases hm with ⟨rfl, rfl⟩ | ⟨rfl, rfl⟩ | ⟨rfl, rfl⟩ | ⟨rfl, rfl⟩ | ⟨rfl, rfl⟩ | ⟨rfl, rfl⟩ | ⟨rfl, rfl⟩ | ⟨rfl, rfl⟩ | ⟨rfl, rfl⟩ | ⟨rfl, rfl⟩ | ⟨rfl, rfl⟩ | ⟨rfl, rfl⟩ | ⟨rfl, rfl⟩ | ⟨rfl, rfl⟩
  · exact ⟨_, G.v_InvalidProgram, G.xc_InvalidProgram, G.ki_InvalidProgram_NothingToUndo⟩
  · exact ⟨_, G.v_InvalidSetting, G.xc_InvalidSetting, G.ki_InvalidSetting_NothingToUndo⟩
  · exact ⟨_, G.v_InvalidRange, G.xc_InvalidRange, G.ki_InvalidRange_NothingToUndo⟩
  · exact ⟨_, G.v_InvalidShape, G.xc_InvalidShape, G.ki_InvalidShape_NothingToUndo⟩
  · exact ⟨_, G.v_InvalidJournal, G.xc_InvalidJournal, G.ki_InvalidJournal_NothingToUndo⟩
  · exact ⟨_, G.v_InvalidSighting, G.xc_InvalidSighting, G.ki_InvalidSighting_NothingToUndo⟩
  · exact ⟨_, G.v_InvalidText, G.xc_InvalidText, G.ki_InvalidText_NothingToUndo⟩
  · exact ⟨_, G.v_InvalidCommand, G.xc_InvalidCommand, G.ki_InvalidCommand_NothingToUndo⟩
  · exact ⟨_, G.v_InvalidNumber, G.xc_InvalidNumber, G.ki_InvalidNumber_NothingToUndo⟩
  · exact ⟨_, G.v_LimitExceeded, G.xc_LimitExceeded, G.ki_LimitExceeded_NothingToUndo⟩
  · exact ⟨_, G.v_UnknownName, G.xc_UnknownName, G.ki_UnknownName_NothingToUndo⟩
  · exact ⟨_, G.v_Stuck, G.xc_Stuck, G.ki_Stuck_NothingToUndo⟩
  · exact ⟨_, G.v_TooLate, G.xc_TooLate, G.ki_TooLate_NothingToUndo⟩
  · exact ⟨_, G.v_NothingToUndo, G.xc_NothingToUndo, G.ki_NothingToUndo_NothingToUndo⟩
theorem Gx.tab_TimesError (G : Gx P w K mg base) (d : String) (b : Bool) (h : K01.tab_TimesError.lookup d = some b) : ∃ D, G.T.cv d = .ref D ∧ ExcC K D ∧ PySem.W.kitOne K (.ref D) (.ref G.kTimesError) = some b := by
  have hm := lookup_mem h
  simp only [K01.tab_TimesError, List.mem_cons, Prod.mk.injEq, List.not_mem_nil, or_false] at hm
  rcases hm with ⟨rfl, rfl⟩ | ⟨rfl, rfl⟩ | ⟨rfl, rfl⟩ | ⟨rfl, rfl⟩ | ⟨rfl, rfl⟩ | ⟨rfl, rfl⟩ | ⟨rfl, rfl⟩ | ⟨rfl, rfl⟩ | ⟨rfl, rfl⟩ | ⟨rfl, rfl⟩ | ⟨rfl, rfl⟩ | ⟨rfl, rfl⟩ | ⟨rfl, rfl⟩ | ⟨rfl, rfl⟩
  · exact ⟨_, G.v_InvalidProgram, G.xc_InvalidProgram, G.ki_InvalidProgram_TimesError⟩
  · exact ⟨_, G.v_InvalidSetting, G.xc_InvalidSetting, G.ki_InvalidSetting_TimesError⟩
  · exact ⟨_, G.v_InvalidRange, G.xc_InvalidRange, G.ki_InvalidRange_TimesError⟩
  · exact ⟨_, G.v_InvalidShape, G.xc_InvalidShape, G.ki_InvalidShape_TimesError⟩
  · exact ⟨_, G.v_InvalidJournal, G.xc_InvalidJournal, G.ki_InvalidJournal_TimesError⟩
  · exact ⟨_, G.v_InvalidSighting, G.xc_InvalidSighting, G.ki_InvalidSighting_TimesError⟩
  · exact ⟨_, G.v_InvalidText, G.xc_InvalidText, G.ki_InvalidText_TimesError⟩
  · exact ⟨_, G.v_InvalidCommand, G.xc_InvalidCommand, G.ki_InvalidCommand_TimesError⟩
  · exact ⟨_, G.v_InvalidNumber, G.xc_InvalidNumber, G.ki_InvalidNumber_TimesError⟩
  · exact ⟨_, G.v_LimitExceeded, G.xc_LimitExceeded, G.ki_LimitExceeded_TimesError⟩
  · exact ⟨_, G.v_UnknownName, G.xc_UnknownName, G.ki_UnknownName_TimesError⟩
  · exact ⟨_, G.v_Stuck, G.xc_Stuck, G.ki_Stuck_TimesError⟩
  · exact ⟨_, G.v_TooLate, G.xc_TooLate, G.ki_TooLate_TimesError⟩
  · exact ⟨_, G.v_NothingToUndo, G.xc_NothingToUndo, G.ki_NothingToUndo_TimesError⟩
theorem Gx.tab_ValueError (G : Gx P w K mg base) (d : String) (b : Bool) (h : K01.tab_ValueError.lookup d = some b) : ∃ D, G.T.cv d = .ref D ∧ ExcC K D ∧ PySem.W.kitOne K (.ref D) (.type "ValueError") = some b := by
  have hm := lookup_mem h
  simp only [K01.tab_ValueError, List.mem_cons, Prod.mk.injEq, List.not_mem_nil, or_false] at hm
  rcases hm with ⟨rfl, rfl⟩ | ⟨rfl, rfl⟩ | ⟨rfl, rfl⟩ | ⟨rfl, rfl⟩ | ⟨rfl, rfl⟩ | ⟨rfl, rfl⟩ | ⟨rfl, rfl⟩ | ⟨rfl, rfl⟩ | ⟨rfl, rfl⟩ | ⟨rfl, rfl⟩ | ⟨rfl, rfl⟩ | ⟨rfl, rfl⟩ | ⟨rfl, rfl⟩ | ⟨rfl, rfl⟩
  · exact ⟨_, G.v_InvalidProgram, G.xc_InvalidProgram, G.ki_InvalidProgram_ValueError⟩
  · exact ⟨_, G.v_InvalidSetting, G.xc_InvalidSetting, G.ki_InvalidSetting_ValueError⟩
  · exact ⟨_, G.v_InvalidRange, G.xc_InvalidRange, G.ki_InvalidRange_ValueError⟩
  · exact ⟨_, G.v_InvalidShape, G.xc_InvalidShape, G.ki_InvalidShape_ValueError⟩
  · exact ⟨_, G.v_InvalidJournal, G.xc_InvalidJournal, G.ki_InvalidJournal_ValueError⟩
  · exact ⟨_, G.v_InvalidSighting, G.xc_InvalidSighting, G.ki_InvalidSighting_ValueError⟩
  · exact ⟨_, G.v_InvalidText, G.xc_InvalidText, G.ki_InvalidText_ValueError⟩
  · exact ⟨_, G.v_InvalidCommand, G.xc_InvalidCommand, G.ki_InvalidCommand_ValueError⟩
  · exact ⟨_, G.v_InvalidNumber, G.xc_InvalidNumber, G.ki_InvalidNumber_ValueError⟩
  · exact ⟨_, G.v_LimitExceeded, G.xc_LimitExceeded, G.ki_LimitExceeded_ValueError⟩
  · exact ⟨_, G.v_UnknownName, G.xc_UnknownName, G.ki_UnknownName_ValueError⟩
  · exact ⟨_, G.v_Stuck, G.xc_Stuck, G.ki_Stuck_ValueError⟩
  · exact ⟨_, G.v_TooLate, G.xc_TooLate, G.ki_TooLate_ValueError⟩
  · exact ⟨_, G.v_NothingToUndo, G.xc_NothingToUndo, G.ki_NothingToUndo_ValueError⟩
theorem Gx.tab_OverflowError (G : Gx P w K mg base) (d : String) (b : Bool) (h : K01.tab_OverflowError.lookup d = some b) : ∃ D, G.T.cv d = .ref D ∧ ExcC K D ∧ PySem.W.kitOne K (.ref D) (.type "OverflowError") = some b := by
  have hm := lookup_mem h
  simp only [K01.tab_OverflowError, List.mem_cons, Prod.mk.injEq, List.not_mem_nil, or_false] at hm
  rcases hm with ⟨rfl, rfl⟩ | ⟨rfl, rfl⟩ | ⟨rfl, rfl⟩ | ⟨rfl, rfl⟩ | ⟨rfl, rfl⟩ | ⟨rfl, rfl⟩ | ⟨rfl, rfl⟩ | ⟨rfl, rfl⟩ | ⟨rfl, rfl⟩ | ⟨rfl, rfl⟩ | ⟨rfl, rfl⟩ | ⟨rfl, rfl⟩ | ⟨rfl, rfl⟩ | ⟨rfl, rfl⟩
  · exact ⟨_, G.v_InvalidProgram, G.xc_InvalidProgram, G.ki_InvalidProgram_OverflowError⟩
  · exact ⟨_, G.v_InvalidSetting, G.xc_InvalidSetting, G.ki_InvalidSetting_OverflowError⟩
  · exact ⟨_, G.v_InvalidRange, G.xc_InvalidRange, G.ki_InvalidRange_OverflowError⟩
  · exact ⟨_, G.v_InvalidShape, G.xc_InvalidShape, G.ki_InvalidShape_OverflowError⟩
  · exact ⟨_, G.v_InvalidJournal, G.xc_InvalidJournal, G.ki_InvalidJournal_OverflowError⟩
  · exact ⟨_, G.v_InvalidSighting, G.xc_InvalidSighting, G.ki_InvalidSighting_OverflowError⟩
  · exact ⟨_, G.v_InvalidText, G.xc_InvalidText, G.ki_InvalidText_OverflowError⟩
  · exact ⟨_, G.v_InvalidCommand, G.xc_InvalidCommand, G.ki_InvalidCommand_OverflowError⟩
  · exact ⟨_, G.v_InvalidNumber, G.xc_InvalidNumber, G.ki_InvalidNumber_OverflowError⟩
  · exact ⟨_, G.v_LimitExceeded, G.xc_LimitExceeded, G.ki_LimitExceeded_OverflowError⟩
  · exact ⟨_, G.v_UnknownName, G.xc_UnknownName, G.ki_UnknownName_OverflowError⟩
  · exact ⟨_, G.v_Stuck, G.xc_Stuck, G.ki_Stuck_OverflowError⟩
  · exact ⟨_, G.v_TooLate, G.xc_TooLate, G.ki_TooLate_OverflowError⟩
  · exact ⟨_, G.v_NothingToUndo, G.xc_NothingToUndo, G.ki_NothingToUndo_OverflowError⟩
theorem Gx.tab_KeyError (G : Gx P w K mg base) (d : String) (b : Bool) (h : K01.tab_KeyError.lookup d = some b) : ∃ D, G.T.cv d = .ref D ∧ ExcC K D ∧ PySem.W.kitOne K (.ref D) (.type "KeyError") = some b := by
  have hm := lookup_mem h
  simp only [K01.tab_KeyError, List.mem_cons, Prod.mk.injEq, List.not_mem_nil, or_false] at hm
  rcases hm with ⟨rfl, rfl⟩ | ⟨rfl, rfl⟩ | ⟨rfl, rfl⟩ | ⟨rfl, rfl⟩ | ⟨rfl, rfl⟩ | ⟨rfl, rfl⟩ | ⟨rfl, rfl⟩ | ⟨rfl, rfl⟩ | ⟨rfl, rfl⟩ | ⟨rfl, rfl⟩ | ⟨rfl, rfl⟩ | ⟨rfl, rfl⟩ | ⟨rfl, rfl⟩ | ⟨rfl, rfl⟩
  · exact ⟨_, G.v_InvalidProgram, G.xc_InvalidProgram, G.ki_InvalidProgram_KeyError⟩
  · exact ⟨_, G.v_InvalidSetting, G.xc_InvalidSetting, G.ki_InvalidSetting_KeyError⟩
  · exact ⟨_, G.v_InvalidRange, G.xc_InvalidRange, G.ki_InvalidRange_KeyError⟩
  · exact ⟨_, G.v_InvalidShape, G.xc_InvalidShape, G.ki_InvalidShape_KeyError⟩
  · exact ⟨_, G.v_InvalidJournal, G.xc_InvalidJournal, G.ki_InvalidJournal_KeyError⟩
  · exact ⟨_, G.v_InvalidSighting, G.xc_InvalidSighting, G.ki_InvalidSighting_KeyError⟩
  · exact ⟨_, G.v_InvalidText, G.xc_InvalidText, G.ki_InvalidText_KeyError⟩
  · exact ⟨_, G.v_InvalidCommand, G.xc_InvalidCommand, G.ki_InvalidCommand_KeyError⟩
  · exact ⟨_, G.v_InvalidNumber, G.xc_InvalidNumber, G.ki_InvalidNumber_KeyError⟩
  · exact ⟨_, G.v_LimitExceeded, G.xc_LimitExceeded, G.ki_LimitExceeded_KeyError⟩
  · exact ⟨_, G.v_UnknownName, G.xc_UnknownName, G.ki_UnknownName_KeyError⟩
  · exact ⟨_, G.v_Stuck, G.xc_Stuck, G.ki_Stuck_KeyError⟩
  · exact ⟨_, G.v_TooLate, G.xc_TooLate, G.ki_TooLate_KeyError⟩
  · exact ⟨_, G.v_NothingToUndo, G.xc_NothingToUndo, G.ki_NothingToUndo_KeyError⟩
theorem Gx.tab_RuntimeError (G : Gx P w K mg base) (d : String) (b : Bool) (h : K01.tab_RuntimeError.lookup d = some b) : ∃ D, G.T.cv d = .ref D ∧ ExcC K D ∧ PySem.W.kitOne K (.ref D) (.type "RuntimeError") = some b := by
  have hm := lookup_mem h
  simp only [K01.tab_RuntimeError, List.mem_cons, Prod.mk.injEq, List.not_mem_nil, or_false] at hm
  rcases hm with ⟨rfl, rfl⟩ | ⟨rfl, rfl⟩ | ⟨rfl, rfl⟩ | ⟨rfl, rfl⟩ | ⟨rfl, rfl⟩ | ⟨rfl, rfl⟩ | ⟨rfl, rfl⟩ | ⟨rfl, rfl⟩ | ⟨rfl, rfl⟩ | ⟨rfl, rfl⟩ | ⟨rfl, rfl⟩ | ⟨rfl, rfl⟩ | ⟨rfl, rfl⟩ | ⟨rfl, rfl⟩
  · exact ⟨_, G.v_InvalidProgram, G.xc_InvalidProgram, G.ki_InvalidProgram_RuntimeError⟩
  · exact ⟨_, G.v_InvalidSetting, G.xc_InvalidSetting, G.ki_InvalidSetting_RuntimeError⟩
  · exact ⟨_, G.v_InvalidRange, G.xc_InvalidRange, G.ki_InvalidRange_RuntimeError⟩
  · exact ⟨_, G.v_InvalidShape, G.xc_InvalidShape, G.ki_InvalidShape_RuntimeError⟩
  · exact ⟨_, G.v_InvalidJournal, G.xc_InvalidJournal, G.ki_InvalidJournal_RuntimeError⟩
  · exact ⟨_, G.v_InvalidSighting, G.xc_InvalidSighting, G.ki_InvalidSighting_RuntimeError⟩
  · exact ⟨_, G.v_InvalidText, G.xc_InvalidText, G.ki_InvalidText_RuntimeError⟩
  · exact ⟨_, G.v_InvalidCommand, G.xc_InvalidCommand, G.ki_InvalidCommand_RuntimeError⟩
  · exact ⟨_, G.v_InvalidNumber, G.xc_InvalidNumber, G.ki_InvalidNumber_RuntimeError⟩
  · exact ⟨_, G.v_LimitExceeded, G.xc_LimitExceeded, G.ki_LimitExceeded_RuntimeError⟩
  · exact ⟨_, G.v_UnknownName, G.xc_UnknownName, G.ki_UnknownName_RuntimeError⟩
  · exact ⟨_, G.v_Stuck, G.xc_Stuck, G.ki_Stuck_RuntimeError⟩
  · exact ⟨_, G.v_TooLate, G.xc_TooLate, G.ki_TooLate_RuntimeError⟩
  · exact ⟨_, G.v_NothingToUndo, G.xc_NothingToUndo, G.ki_NothingToUndo_RuntimeError⟩
theorem ok__law_numbers (G : Gx P w K mg base) : FnOk P w K mg base (L2.CX P w) 2 G.f__law_numbers G.d__law_numbers ["_law_cell", "_law_salt", "_law_sizes"] (spV G.T 3 m__law_numbers) := fn_def G.F__law_numbers sc__law_numbers (fun cdv A outer s H E hr => by
  have hu := hr.units
  have S := sc__law_numbers
  exact (sss_cons (ss_set 3 S.nd (se_b (call_max2 rfl) rc_max rfl G.b_max (by decide +kernel) (sa_cons (se_var 0) (sa_cons (se_op op_sub ro_sub (se_neg se_int) (se_var 0)) sa_nil))))
    (sss_cons (ss_set 4 S.nd (se_var 3))
    (sss_cons (ss_set 5 S.nd (se_lst sa_nil))
    (sss_cons (ss_for (si_range1 rfl G.b_range (sa_cons (se_b call_len rc_len rfl G.b_len PySem.boot_len (sa_cons (se_var 2) sa_nil)) sa_nil) (len_cons len_nil)) (sg_name 6 S.nd) (sss_one (ss_if (st_w (sw_and (st_cmp op_ge ro_ge (se_var 3) (se_op op_pow ro_pow se_int se_int) (nomark _)) (sw_and1 (st_cmp op_gt ro_gt (se_var 4) se_int (nomark _))))) (sss_cons (ss_expr (se_append (se_var 5) (se_op op_modN ro_mod (se_var 4) (se_ix (se_var 2) (se_var 6)))))
    (sss_one (ss_set 4 S.nd (se_op op_fdivG ro_div (se_var 4) (se_ix (se_var 2) (se_var 6)))))) (sss_cons (ss_set 7 S.nd (se_op op_modN ro_mod (se_op op_pow ro_pow (se_op op_addA ro_add (se_op op_addA ro_add (se_op op_modN ro_mod (se_var 3) se_int) (se_op op_mulA ro_mul se_int (se_var 1))) se_int) se_int) se_int))
    (sss_cons (ss_set 7 S.nd (se_op op_modN ro_mod (se_op op_mulA ro_mul (se_op op_addA ro_add (se_var 7) (se_op op_mulA ro_mul se_int (se_op op_addA ro_add (se_var 6) se_int))) (se_op op_addA ro_add (se_var 6) se_int)) se_int))
    (sss_cons (ss_set 7 S.nd (se_op op_modN ro_mod (se_op op_mulA ro_mul (se_op op_modN ro_mod (se_op op_pow ro_pow (se_var 7) se_int) se_int) se_int) se_int))
    (sss_one (ss_expr (se_append (se_var 5) (se_op op_modN ro_mod (se_op op_fdivG ro_div (se_var 7) se_int) (se_ix (se_var 2) (se_var 6))))))))))))
    (sss_one (ss_ret (se_var 5))))))))
theorem ok__law_draw (G : Gx P w K mg base) : FnOk P w K mg base (L2.CX P w) 2 G.f__law_draw G.d__law_draw ["_law_state", "_law_many"] (spV G.T 2 m__law_draw) := fn_def G.F__law_draw sc__law_draw (fun cdv A outer s H E hr => by
  have hu := hr.units
  have S := sc__law_draw
  exact (sss_cons (ss_set 2 S.nd (se_ix (se_var 0) se_int))
    (sss_cons (ss_asg (se_op op_addA ro_add (se_var 2) se_int) (sg_sub (se_var 0) se_int))
    (sss_one (ss_ret (se_if (st_cmp op_lt ro_lt (se_var 2) (se_b call_len rc_len rfl G.b_len PySem.boot_len (sa_cons (se_ix (se_var 0) se_int) sa_nil)) (nomark _)) (se_op op_modN ro_mod (se_bt call_int1 rc_int rfl G.b_int (by decide +kernel) (sa_cons (se_ix (se_ix (se_var 0) se_int) (se_var 2)) sa_nil)) (se_var 1)) se_int))))))
theorem ok__law_kinds (G : Gx P w K mg base) : FnOk P w K mg base (L2.CX P w) 2 G.f__law_kinds G.d__law_kinds ["_law_e"] (spV G.T 1 m__law_kinds) := fn_def G.F__law_kinds sc__law_kinds (fun cdv A outer s H E hr => by
  have hu := hr.units
  have S := sc__law_kinds
  exact (sss_cons (ss_set 1 S.nd (se_lst (sa_cons (se_iv (G.tab_InvalidProgram) rfl G.b_isinstance (se_var 0) (pe_glob (v := .ref G.c.InvalidProgram) rfl G.e_InvalidProgram.mgC rfl) (fun _ r => r)) (sa_cons (se_iv (G.tab_InvalidSetting) rfl G.b_isinstance (se_var 0) (pe_glob (v := .ref G.c.InvalidSetting) rfl G.e_InvalidSetting.mgC rfl) (fun _ r => r)) (sa_cons (se_iv (G.tab_InvalidRange) rfl G.b_isinstance (se_var 0) (pe_glob (v := .ref G.c.InvalidRange) rfl G.e_InvalidRange.mgC rfl) (fun _ r => r)) sa_nil)))))
    (sss_cons (ss_set 1 S.nd (se_op op_addA ro_add (se_var 1) (se_lst (sa_cons (se_iv (G.tab_InvalidShape) rfl G.b_isinstance (se_var 0) (pe_glob (v := .ref G.c.InvalidShape) rfl G.e_InvalidShape.mgC rfl) (fun _ r => r)) (sa_cons (se_iv (G.tab_InvalidJournal) rfl G.b_isinstance (se_var 0) (pe_glob (v := .ref G.c.InvalidJournal) rfl G.e_InvalidJournal.mgC rfl) (fun _ r => r)) (sa_cons (se_iv (G.tab_InvalidSighting) rfl G.b_isinstance (se_var 0) (pe_glob (v := .ref G.c.InvalidSighting) rfl G.e_InvalidSighting.mgC rfl) (fun _ r => r)) sa_nil))))))
    (sss_cons (ss_set 1 S.nd (se_op op_addA ro_add (se_var 1) (se_lst (sa_cons (se_iv (G.tab_InvalidText) rfl G.b_isinstance (se_var 0) (pe_glob (v := .ref G.c.InvalidText) rfl G.e_InvalidText.mgC rfl) (fun _ r => r)) (sa_cons (se_iv (G.tab_InvalidCommand) rfl G.b_isinstance (se_var 0) (pe_glob (v := .ref G.c.InvalidCommand) rfl G.e_InvalidCommand.mgC rfl) (fun _ r => r)) (sa_cons (se_iv (G.tab_InvalidNumber) rfl G.b_isinstance (se_var 0) (pe_glob (v := .ref G.c.InvalidNumber) rfl G.e_InvalidNumber.mgC rfl) (fun _ r => r)) sa_nil))))))
    (sss_cons (ss_set 1 S.nd (se_op op_addA ro_add (se_var 1) (se_lst (sa_cons (se_iv (G.tab_LimitExceeded) rfl G.b_isinstance (se_var 0) (pe_glob (v := .ref G.c.LimitExceeded) rfl G.e_LimitExceeded.mgC rfl) (fun _ r => r)) (sa_cons (se_iv (G.tab_UnknownName) rfl G.b_isinstance (se_var 0) (pe_glob (v := .ref G.c.UnknownName) rfl G.e_UnknownName.mgC rfl) (fun _ r => r)) (sa_cons (se_iv (G.tab_Stuck) rfl G.b_isinstance (se_var 0) (pe_glob (v := .ref G.c.Stuck) rfl G.e_Stuck.mgC rfl) (fun _ r => r)) sa_nil))))))
    (sss_one (ss_ret (se_op op_addA ro_add (se_var 1) (se_lst (sa_cons (se_iv (G.tab_TooLate) rfl G.b_isinstance (se_var 0) (pe_glob (v := .ref G.c.TooLate) rfl G.e_TooLate.mgC rfl) (fun _ r => r)) (sa_cons (se_iv (G.tab_NothingToUndo) rfl G.b_isinstance (se_var 0) (pe_glob (v := .ref G.c.NothingToUndo) rfl G.e_NothingToUndo.mgC rfl) (fun _ r => r)) sa_nil)))))))))))
theorem ok__law_bases (G : Gx P w K mg base) : FnOk P w K mg base (L2.CX P w) 2 G.f__law_bases G.d__law_bases ["_law_e"] (spV G.T 1 m__law_bases) := fn_def G.F__law_bases sc__law_bases (fun cdv A outer s H E hr => by
  have hu := hr.units
  have S := sc__law_bases
  exact (sss_cons (ss_set 1 S.nd (se_lst (sa_cons (se_iv (G.tab_TimesError) rfl G.b_isinstance (se_var 0) (pe_glob (v := .ref G.kTimesError) rfl G.m_TimesError rfl) (fun _ r => r)) (sa_cons (se_iv (G.tab_ValueError) rfl G.b_isinstance (se_var 0) (pe_bltn (v := .ty "ValueError") rfl G.b_ValueError (by decide +kernel) rfl) (fun _ r => r)) (sa_cons (se_iv (G.tab_OverflowError) rfl G.b_isinstance (se_var 0) (pe_bltn (v := .ty "OverflowError") rfl G.b_OverflowError (by decide +kernel) rfl) (fun _ r => r)) sa_nil)))))
    (sss_one (ss_ret (se_op op_addA ro_add (se_var 1) (se_lst (sa_cons (se_iv (G.tab_KeyError) rfl G.b_isinstance (se_var 0) (pe_bltn (v := .ty "KeyError") rfl G.b_KeyError (by decide +kernel) rfl) (fun _ r => r)) (sa_cons (se_iv (G.tab_RuntimeError) rfl G.b_isinstance (se_var 0) (pe_bltn (v := .ty "RuntimeError") rfl G.b_RuntimeError (by decide +kernel) rfl) (fun _ r => r)) sa_nil))))))))
theorem ok__law_made (G : Gx P w K mg base) : FnOk P w K mg base (L2.CX P w) 3 G.f__law_made G.d__law_made ["_law_one"] (spV G.T 1 m__law_made) := fn_def G.F__law_made sc__law_made (fun cdv A outer s H E hr => by
  have hu := hr.units
  have S := sc__law_made
  exact (sss_cons (ss_set 1 S.nd (se_lst (sa_cons (se_mkV G.e_InvalidProgram G.v_InvalidProgram (hr.mono (by decide)) rfl (sa_cons (se_var 0) sa_nil)) (sa_cons (se_mkV G.e_InvalidSetting G.v_InvalidSetting (hr.mono (by decide)) rfl (sa_cons (se_var 0) sa_nil)) (sa_cons (se_mkV G.e_InvalidRange G.v_InvalidRange (hr.mono (by decide)) rfl (sa_cons (se_var 0) sa_nil)) (sa_cons (se_mkV G.e_InvalidShape G.v_InvalidShape (hr.mono (by decide)) rfl (sa_cons (se_var 0) sa_nil)) (sa_cons (se_mkV G.e_InvalidJournal G.v_InvalidJournal (hr.mono (by decide)) rfl (sa_cons (se_var 0) sa_nil)) sa_nil)))))))
    (sss_cons (ss_set 1 S.nd (se_op op_addA ro_add (se_var 1) (se_lst (sa_cons (se_mkV G.e_InvalidSighting G.v_InvalidSighting (hr.mono (by decide)) rfl (sa_cons (se_var 0) sa_nil)) (sa_cons (se_mkV G.e_InvalidText G.v_InvalidText (hr.mono (by decide)) rfl (sa_cons (se_var 0) sa_nil)) (sa_cons (se_mkV G.e_InvalidCommand G.v_InvalidCommand (hr.mono (by decide)) rfl (sa_cons (se_var 0) sa_nil)) (sa_cons (se_mkV G.e_InvalidNumber G.v_InvalidNumber (hr.mono (by decide)) rfl (sa_cons (se_var 0) sa_nil)) sa_nil)))))))
    (sss_one (ss_ret (se_op op_addA ro_add (se_var 1) (se_lst (sa_cons (se_mkV G.e_LimitExceeded G.v_LimitExceeded (hr.mono (by decide)) rfl (sa_cons (se_var 0) sa_nil)) (sa_cons (se_mkV G.e_UnknownName G.v_UnknownName (hr.mono (by decide)) rfl (sa_cons (se_var 0) sa_nil)) (sa_cons (se_mkV G.e_Stuck G.v_Stuck (hr.mono (by decide)) rfl (sa_cons (se_var 0) sa_nil)) (sa_cons (se_mkV G.e_TooLate G.v_TooLate (hr.mono (by decide)) rfl (sa_cons (se_var 0) sa_nil)) (sa_cons (se_mkV G.e_NothingToUndo G.v_NothingToUndo (hr.mono (by decide)) rfl (sa_cons (se_var 0) sa_nil)) sa_nil))))))))))))
theorem ok__law_named (G : Gx P w K mg base) : FnOk P w K mg base (L2.CX P w) 3 G.f__law_named G.d__law_named ["_law_one"] (spV G.T 1 m__law_named) := fn_def G.F__law_named sc__law_named (fun cdv A outer s H E hr => by
  have hu := hr.units
  have S := sc__law_named
  exact (sss_cons (ss_set 1 S.nd (se_lst (sa_cons (se_mkVK G.e_InvalidProgram G.v_InvalidProgram (hr.mono (by decide)) rfl (se_var 0)) (sa_cons (se_mkVK G.e_InvalidSetting G.v_InvalidSetting (hr.mono (by decide)) rfl (se_var 0)) (sa_cons (se_mkVK G.e_InvalidRange G.v_InvalidRange (hr.mono (by decide)) rfl (se_var 0)) (sa_cons (se_mkVK G.e_InvalidShape G.v_InvalidShape (hr.mono (by decide)) rfl (se_var 0)) sa_nil))))))
    (sss_cons (ss_set 1 S.nd (se_op op_addA ro_add (se_var 1) (se_lst (sa_cons (se_mkVK G.e_InvalidJournal G.v_InvalidJournal (hr.mono (by decide)) rfl (se_var 0)) (sa_cons (se_mkVK G.e_InvalidSighting G.v_InvalidSighting (hr.mono (by decide)) rfl (se_var 0)) (sa_cons (se_mkVK G.e_InvalidText G.v_InvalidText (hr.mono (by decide)) rfl (se_var 0)) sa_nil))))))
    (sss_cons (ss_set 1 S.nd (se_op op_addA ro_add (se_var 1) (se_lst (sa_cons (se_mkVK G.e_InvalidCommand G.v_InvalidCommand (hr.mono (by decide)) rfl (se_var 0)) (sa_cons (se_mkVK G.e_InvalidNumber G.v_InvalidNumber (hr.mono (by decide)) rfl (se_var 0)) (sa_cons (se_mkVK G.e_LimitExceeded G.v_LimitExceeded (hr.mono (by decide)) rfl (se_var 0)) sa_nil))))))
    (sss_one (ss_ret (se_op op_addA ro_add (se_var 1) (se_lst (sa_cons (se_mkVK G.e_UnknownName G.v_UnknownName (hr.mono (by decide)) rfl (se_var 0)) (sa_cons (se_mkVK G.e_Stuck G.v_Stuck (hr.mono (by decide)) rfl (se_var 0)) (sa_cons (se_mkVK G.e_TooLate G.v_TooLate (hr.mono (by decide)) rfl (se_var 0)) (sa_cons (se_mkVK G.e_NothingToUndo G.v_NothingToUndo (hr.mono (by decide)) rfl (se_var 0)) sa_nil))))))))))))
theorem ok__law_fields (G : Gx P w K mg base) : FnOk P w K mg base (L2.CX P w) 2 G.f__law_fields G.d__law_fields ["_law_some"] (spV G.T 1 m__law_fields) := fn_def G.F__law_fields sc__law_fields (fun cdv A outer s H E hr => by
  have hu := hr.units
  have S := sc__law_fields
  exact (sss_cons (ss_set 1 S.nd (se_lst (sa_cons (se_er G.xf_InvalidProgram G.no_InvalidProgram G.v_InvalidProgram (se_ix (se_var 0) se_int)) (sa_cons (se_er G.xf_InvalidSetting G.no_InvalidSetting G.v_InvalidSetting (se_ix (se_var 0) se_int)) (sa_cons (se_er G.xf_InvalidRange G.no_InvalidRange G.v_InvalidRange (se_ix (se_var 0) se_int)) (sa_cons (se_er G.xf_InvalidShape G.no_InvalidShape G.v_InvalidShape (se_ix (se_var 0) se_int)) (sa_cons (se_er G.xf_InvalidJournal G.no_InvalidJournal G.v_InvalidJournal (se_ix (se_var 0) se_int)) (sa_cons (se_er G.xf_InvalidSighting G.no_InvalidSighting G.v_InvalidSighting (se_ix (se_var 0) se_int)) (sa_cons (se_er G.xf_InvalidText G.no_InvalidText G.v_InvalidText (se_ix (se_var 0) se_int)) sa_nil)))))))))
    (sss_cons (ss_set 1 S.nd (se_op op_addA ro_add (se_var 1) (se_lst (sa_cons (se_er G.xf_InvalidCommand G.no_InvalidCommand G.v_InvalidCommand (se_ix (se_var 0) se_int)) (sa_cons (se_er G.xf_InvalidNumber G.no_InvalidNumber G.v_InvalidNumber (se_ix (se_var 0) se_int)) (sa_cons (se_er G.xf_LimitExceeded G.no_LimitExceeded G.v_LimitExceeded (se_ix (se_var 0) se_int)) (sa_cons (se_er G.xf_UnknownName G.no_UnknownName G.v_UnknownName (se_ix (se_var 0) se_int)) (sa_cons (se_er G.xf_Stuck G.no_Stuck G.v_Stuck (se_ix (se_var 0) se_int)) (sa_cons (se_er G.xf_TooLate G.no_TooLate G.v_TooLate (se_ix (se_var 0) se_int)) sa_nil)))))))))
    (sss_one (ss_ret (se_op op_addA ro_add (se_var 1) (se_lst (sa_cons (se_er G.xf_NothingToUndo G.no_NothingToUndo G.v_NothingToUndo (se_ix (se_var 0) se_int)) sa_nil))))))))
theorem ok__law_raised (G : Gx P w K mg base) : FnG P w K mg base G.T 3 G.f__law_raised 1 m__law_raised := fn_defG G.F__law_raised sc__law_raised G.n__law_raised (fun cdv A outer s H E hr hgd => by
  have hu := hr.units
  have S := sc__law_raised
  exact (sss_one (ss_try (c := .ref G.kTimesError) (okc := fun v => v = .ref G.c.InvalidRange) (sM := fun ad j => mRet (suA__law_raised ad j)) 1 S.nd ⟨rfl, by decide, Or.inl G.m_TimesError⟩ (exmC_ok (by rw [G.v_InvalidRange]; exact G.te_InvalidRange_TimesError)) (fun v e => by rw [exmC_c e]; exact G.v_InvalidRange) (fun pn xe => (sss_one (ss_raiseH G.e_InvalidRange G.v_InvalidRange (hr.mono (by decide)) rfl (sa_cons (se_var 0) sa_nil)))) (fun ad oe cls dd pn j hk hz hf => sss_one (ss_ret (se_b (call_reprE hgd hu) rc_reprE rfl G.b_repr (by decide +kernel) (sa_cons (se_xf 1 G.xf_InvalidRange G.no_InvalidRange hz hf hk) sa_nil)))) (fun a j r h w h2 hl e => hind_ret (fA := suA__law_raised) (f := su0__law_raised) (i := 1) suI__law_raised a j r h w h2 hl e))))
theorem ok_law (G : Gx P w K mg base) : FnG P w K mg base G.T 4 G.f_law 1 m_law := fn_defG G.F_law sc_law G.n_law (fun cdv A outer s H E hr hgd => by
  have hu := hr.units
  have S := sc_law
  exact (sss_cons (ss_for (si_enum rfl G.b_enumerate (sa_cons (se_op op_addA ro_add (se_slice (se_var 0) so_none (so_some se_int)) (se_op op_mulA ro_mul (se_lst (sa_cons se_int sa_nil)) (se_bt call_int1 rc_int rfl G.b_int (by decide +kernel) (sa_cons (se_cmp (op_eqD hu) ro_eq (se_var 0) (se_lst sa_nil) (nomark _)) sa_nil)))) sa_nil)) (sg_seq (sgs_cons (sg_name 1 S.nd) (sgs_cons (sg_name 2 S.nd) sgs_nil))) (sss_local [1, 2] trivial (sss_cons (ss_set 3 S.nd (se_lst (sa_cons (se_call (can_ok (ok__law_numbers G) (hr.mono (by decide)) G.n__law_numbers) rfl G.g__law_numbers G.k__law_numbers (sa_cons (se_var 2) (sa_cons (se_op op_addA ro_add se_int (se_var 1)) (sa_cons (se_op op_mulA ro_mul (se_lst (sa_cons se_int sa_nil)) se_int) sa_nil)))) (sa_cons se_int sa_nil))))
    (sss_cons (ss_set 4 S.nd (se_ix (se_lst (sa_cons se_non (sa_cons (se_op op_pow ro_pow (se_call (can_ok (ok__law_draw G) (hr.mono (by decide)) G.n__law_draw) rfl G.g__law_draw G.k__law_draw (sa_cons (se_var 3) (sa_cons se_int sa_nil))) se_int) (sa_cons se_str (sa_cons (se_tup (sa_cons se_str (sa_cons se_int sa_nil))) (sa_cons (se_lst (sa_cons se_int sa_nil)) (sa_cons (se_neg se_int) (sa_cons se_str (sa_cons se_bl sa_nil))))))))) (se_call (can_ok (ok__law_draw G) (hr.mono (by decide)) G.n__law_draw) rfl G.g__law_draw G.k__law_draw (sa_cons (se_var 3) (sa_cons se_int sa_nil)))))
    (sss_local1 4 [4] trivial (fun _ => trivial) (sss_cons (ss_set 5 S.nd (se_call (can_ok (ok__law_made G) (hr.mono (by decide)) G.n__law_made) rfl G.g__law_made G.k__law_made (sa_cons (se_var 4) sa_nil)))
    (sss_cons (ss_gc (ss_for (si_enum rfl G.b_enumerate (sa_cons (se_var 5) sa_nil)) (sg_seq (sgs_cons (sg_name 6 S.nd) (sgs_cons (sg_name 7 S.nd) sgs_nil))) (sss_gc (sss_cons (ss_if (st_cmp (op_neD hu) ro_ne (se_call (can_ok (ok__law_kinds G) (hr.mono (by decide)) G.n__law_kinds) rfl G.g__law_kinds G.k__law_kinds (sa_cons (se_var 7) sa_nil)) (se_lc 8 S.nd (si_range1 rfl G.b_range (sa_cons se_int sa_nil) (len_cons len_nil)) (blkOk_by (own := [("_law_other", 8)]) (N := ["_law_script", "_law_k", "_law_cell", "_law_state", "_law_one", "_law_some", "_law_at", "_law_error", "_law_other", "_law_field", "_law_rows", "_law_kept"]) (sc := defScope s_law) (by decide +kernel)) (fun _ _ _ _ _ => pg_name (i := 8) S.nd rfl (Or.inl rfl)) (fun _ _ _ _ _ => (se_cmp (op_eqD hu) ro_eq (se_var 6) (se_var 8) (nomark _)))) (nomark _)) (sss_one (ss_ret se_bl)) sss_nil)
    (sss_one (ss_if (st_cmp (op_neD hu) ro_ne (se_call (can_ok (ok__law_bases G) (hr.mono (by decide)) G.n__law_bases) rfl G.g__law_bases G.k__law_bases (sa_cons (se_var 7) sa_nil)) (se_lst (sa_cons (se_cmp op_lt ro_lt (se_var 6) se_int (nomark _)) (sa_cons (se_cmp (op_eqD hu) ro_eq (se_var 6) se_int (nomark _)) (sa_cons (se_cmp (op_eqD hu) ro_eq (se_var 6) se_int (nomark _)) (sa_cons (se_cmp (op_eqD hu) ro_eq (se_var 6) se_int (nomark _)) (sa_cons (se_cmp op_gt ro_gt (se_var 6) se_int (nomark _)) sa_nil)))))) (nomark _)) (sss_one (ss_ret se_bl)) sss_nil))))))
    (sss_cons (ss_gc (ss_if (st_cmp (op_neD hu) ro_ne (se_lc 9 S.nd (si_seq (se_op op_addA ro_add (se_call (can_ok (ok__law_fields G) (hr.mono (by decide)) G.n__law_fields) rfl G.g__law_fields G.k__law_fields (sa_cons (se_var 5) sa_nil)) (se_call (can_ok (ok__law_fields G) (hr.mono (by decide)) G.n__law_fields) rfl G.g__law_fields G.k__law_fields (sa_cons (se_call (can_ok (ok__law_named G) (hr.mono (by decide)) G.n__law_named) rfl G.g__law_named G.k__law_named (sa_cons (se_var 4) sa_nil)) sa_nil)))) (blkOk_by (own := [("_law_field", 9)]) (N := ["_law_script", "_law_k", "_law_cell", "_law_state", "_law_one", "_law_some", "_law_at", "_law_error", "_law_other", "_law_field", "_law_rows", "_law_kept"]) (sc := defScope s_law) (by decide +kernel)) (fun _ _ _ _ _ => pg_name (i := 9) S.nd rfl (Or.inl rfl)) (fun _ _ _ _ _ => (se_b (call_reprE hgd hu) rc_reprE rfl G.b_repr (by decide +kernel) (sa_cons (se_var 9) sa_nil)))) (se_op op_mulA ro_mul (se_lst (sa_cons (se_b (call_reprE hgd hu) rc_reprE rfl G.b_repr (by decide +kernel) (sa_cons (se_var 4) sa_nil)) sa_nil)) se_int) (nomark _)) (sss_one (ss_ret se_bl)) sss_nil))
    (sss_cons (ss_if (st_cmp (op_neD hu) ro_ne (se_call (can_G (ok__law_raised G) (hr.mono (by decide)) hgd) rfl G.g__law_raised G.k__law_raised (sa_cons (se_var 4) sa_nil)) (se_b (call_reprE hgd hu) rc_reprE rfl G.b_repr (by decide +kernel) (sa_cons (se_var 4) sa_nil)) (nomark _)) (sss_one (ss_ret se_bl)) sss_nil)
    (sss_cons (ss_set 10 S.nd (se_lst (sa_cons (se_var 4) sa_nil)))
    (sss_cons (ss_set 11 S.nd (se_lst (sa_cons (se_mkV G.e_InvalidSetting G.v_InvalidSetting (hr.mono (by decide)) rfl (sa_cons (se_var 10) sa_nil)) (sa_cons (se_mkV G.e_TooLate G.v_TooLate (hr.mono (by decide)) rfl (sa_cons (se_var 10) sa_nil)) sa_nil))))
    (sss_cons (ss_expr (se_append (se_var 10) se_int))
    (sss_one (ss_if (st_cmp (op_neD hu) ro_ne (se_lst (sa_cons (se_er G.xf_InvalidSetting G.no_InvalidSetting G.v_InvalidSetting (se_ix (se_var 11) se_int)) (sa_cons (se_er G.xf_TooLate G.no_TooLate G.v_TooLate (se_ix (se_var 11) se_int)) sa_nil))) (se_lst (sa_cons (se_var 10) (sa_cons (se_var 10) sa_nil))) (nomark _)) (sss_one (ss_ret se_bl)) sss_nil))))))))))))))
    (sss_one (ss_ret se_bl))))
end
end K01
end
section
namespace K01
open PySem PySem.Spec PyProof.Rows L2 VL
def kitTab (K : PySem.W.Frag) (cs : List Addr) (vs : List Value) : List (List (Option Bool)) := cs.map fun c => vs.map fun v => PySem.W.kitOne K (.ref c) v
abbrev s_init_InvalidProgram : Stmt := inClass (top 2) 0
theorem sc_init_InvalidProgram : FnScope ["self", "place"] ["self", "place"] (defScope s_init_InvalidProgram) := ⟨rfl, rfl, rfl, by decide +kernel, rfl, by decide +kernel, by decide +kernel⟩
theorem ok_init_InvalidProgram {P : Program} {w : World} {K : PySem.W.Frag} {mg : Str → Option Value} {base : Heap} {f C : Addr} {fd : FuncData} (F : Fun K "__init__" "InvalidProgram.__init__" s_init_InvalidProgram f fd) (T : OexH K C) (no : PySem.W.findIn K (.ref C) "place" = some none) : FnOk P w K mg base CX0 1 f fd ["self", "place"] (spInit K C "place") := by
  refine F.ok sc_init_InvalidProgram (fun vs H Q E h => ?_) (fun cdv A outer s H vs Q E hr h => ?_)
  · obtain ⟨a, v, rfl, _⟩ := h
    rfl
  · obtain ⟨a, v, rfl, ha, k⟩ := h
    exact ⟨_, pss_one (ps_ostH (pv 0) (pv 1)), _, rfl, _, rfl, a, C, rfl, T, no, ha, fun dx hd ne => k dx hd ne⟩
abbrev s_init_InvalidSetting : Stmt := inClass (top 3) 0
theorem sc_init_InvalidSetting : FnScope ["self", "value"] ["self", "value"] (defScope s_init_InvalidSetting) := ⟨rfl, rfl, rfl, by decide +kernel, rfl, by decide +kernel, by decide +kernel⟩
theorem ok_init_InvalidSetting {P : Program} {w : World} {K : PySem.W.Frag} {mg : Str → Option Value} {base : Heap} {f C : Addr} {fd : FuncData} (F : Fun K "__init__" "InvalidSetting.__init__" s_init_InvalidSetting f fd) (T : OexH K C) (no : PySem.W.findIn K (.ref C) "value" = some none) : FnOk P w K mg base CX0 1 f fd ["self", "value"] (spInit K C "value") := by
  refine F.ok sc_init_InvalidSetting (fun vs H Q E h => ?_) (fun cdv A outer s H vs Q E hr h => ?_)
  · obtain ⟨a, v, rfl, _⟩ := h
    rfl
  · obtain ⟨a, v, rfl, ha, k⟩ := h
    exact ⟨_, pss_one (ps_ostH (pv 0) (pv 1)), _, rfl, _, rfl, a, C, rfl, T, no, ha, fun dx hd ne => k dx hd ne⟩
abbrev s_init_InvalidRange : Stmt := inClass (top 4) 0
theorem sc_init_InvalidRange : FnScope ["self", "value"] ["self", "value"] (defScope s_init_InvalidRange) := ⟨rfl, rfl, rfl, by decide +kernel, rfl, by decide +kernel, by decide +kernel⟩
theorem ok_init_InvalidRange {P : Program} {w : World} {K : PySem.W.Frag} {mg : Str → Option Value} {base : Heap} {f C : Addr} {fd : FuncData} (F : Fun K "__init__" "InvalidRange.__init__" s_init_InvalidRange f fd) (T : OexH K C) (no : PySem.W.findIn K (.ref C) "value" = some none) : FnOk P w K mg base CX0 1 f fd ["self", "value"] (spInit K C "value") := by
  refine F.ok sc_init_InvalidRange (fun vs H Q E h => ?_) (fun cdv A outer s H vs Q E hr h => ?_)
  · obtain ⟨a, v, rfl, _⟩ := h
    rfl
  · obtain ⟨a, v, rfl, ha, k⟩ := h
    exact ⟨_, pss_one (ps_ostH (pv 0) (pv 1)), _, rfl, _, rfl, a, C, rfl, T, no, ha, fun dx hd ne => k dx hd ne⟩
abbrev s_init_InvalidShape : Stmt := inClass (top 5) 0
theorem sc_init_InvalidShape : FnScope ["self", "value"] ["self", "value"] (defScope s_init_InvalidShape) := ⟨rfl, rfl, rfl, by decide +kernel, rfl, by decide +kernel, by decide +kernel⟩
theorem ok_init_InvalidShape {P : Program} {w : World} {K : PySem.W.Frag} {mg : Str → Option Value} {base : Heap} {f C : Addr} {fd : FuncData} (F : Fun K "__init__" "InvalidShape.__init__" s_init_InvalidShape f fd) (T : OexH K C) (no : PySem.W.findIn K (.ref C) "value" = some none) : FnOk P w K mg base CX0 1 f fd ["self", "value"] (spInit K C "value") := by
  refine F.ok sc_init_InvalidShape (fun vs H Q E h => ?_) (fun cdv A outer s H vs Q E hr h => ?_)
  · obtain ⟨a, v, rfl, _⟩ := h
    rfl
  · obtain ⟨a, v, rfl, ha, k⟩ := h
    exact ⟨_, pss_one (ps_ostH (pv 0) (pv 1)), _, rfl, _, rfl, a, C, rfl, T, no, ha, fun dx hd ne => k dx hd ne⟩
abbrev s_init_InvalidJournal : Stmt := inClass (top 6) 0
theorem sc_init_InvalidJournal : FnScope ["self", "index"] ["self", "index"] (defScope s_init_InvalidJournal) := ⟨rfl, rfl, rfl, by decide +kernel, rfl, by decide +kernel, by decide +kernel⟩
theorem ok_init_InvalidJournal {P : Program} {w : World} {K : PySem.W.Frag} {mg : Str → Option Value} {base : Heap} {f C : Addr} {fd : FuncData} (F : Fun K "__init__" "InvalidJournal.__init__" s_init_InvalidJournal f fd) (T : OexH K C) (no : PySem.W.findIn K (.ref C) "index" = some none) : FnOk P w K mg base CX0 1 f fd ["self", "index"] (spInit K C "index") := by
  refine F.ok sc_init_InvalidJournal (fun vs H Q E h => ?_) (fun cdv A outer s H vs Q E hr h => ?_)
  · obtain ⟨a, v, rfl, _⟩ := h
    rfl
  · obtain ⟨a, v, rfl, ha, k⟩ := h
    exact ⟨_, pss_one (ps_ostH (pv 0) (pv 1)), _, rfl, _, rfl, a, C, rfl, T, no, ha, fun dx hd ne => k dx hd ne⟩
abbrev s_init_InvalidSighting : Stmt := inClass (top 7) 0
theorem sc_init_InvalidSighting : FnScope ["self", "index"] ["self", "index"] (defScope s_init_InvalidSighting) := ⟨rfl, rfl, rfl, by decide +kernel, rfl, by decide +kernel, by decide +kernel⟩
theorem ok_init_InvalidSighting {P : Program} {w : World} {K : PySem.W.Frag} {mg : Str → Option Value} {base : Heap} {f C : Addr} {fd : FuncData} (F : Fun K "__init__" "InvalidSighting.__init__" s_init_InvalidSighting f fd) (T : OexH K C) (no : PySem.W.findIn K (.ref C) "index" = some none) : FnOk P w K mg base CX0 1 f fd ["self", "index"] (spInit K C "index") := by
  refine F.ok sc_init_InvalidSighting (fun vs H Q E h => ?_) (fun cdv A outer s H vs Q E hr h => ?_)
  · obtain ⟨a, v, rfl, _⟩ := h
    rfl
  · obtain ⟨a, v, rfl, ha, k⟩ := h
    exact ⟨_, pss_one (ps_ostH (pv 0) (pv 1)), _, rfl, _, rfl, a, C, rfl, T, no, ha, fun dx hd ne => k dx hd ne⟩
abbrev s_init_InvalidText : Stmt := inClass (top 8) 0
theorem sc_init_InvalidText : FnScope ["self", "place"] ["self", "place"] (defScope s_init_InvalidText) := ⟨rfl, rfl, rfl, by decide +kernel, rfl, by decide +kernel, by decide +kernel⟩
theorem ok_init_InvalidText {P : Program} {w : World} {K : PySem.W.Frag} {mg : Str → Option Value} {base : Heap} {f C : Addr} {fd : FuncData} (F : Fun K "__init__" "InvalidText.__init__" s_init_InvalidText f fd) (T : OexH K C) (no : PySem.W.findIn K (.ref C) "place" = some none) : FnOk P w K mg base CX0 1 f fd ["self", "place"] (spInit K C "place") := by
  refine F.ok sc_init_InvalidText (fun vs H Q E h => ?_) (fun cdv A outer s H vs Q E hr h => ?_)
  · obtain ⟨a, v, rfl, _⟩ := h
    rfl
  · obtain ⟨a, v, rfl, ha, k⟩ := h
    exact ⟨_, pss_one (ps_ostH (pv 0) (pv 1)), _, rfl, _, rfl, a, C, rfl, T, no, ha, fun dx hd ne => k dx hd ne⟩
abbrev s_init_InvalidCommand : Stmt := inClass (top 9) 0
theorem sc_init_InvalidCommand : FnScope ["self", "word"] ["self", "word"] (defScope s_init_InvalidCommand) := ⟨rfl, rfl, rfl, by decide +kernel, rfl, by decide +kernel, by decide +kernel⟩
theorem ok_init_InvalidCommand {P : Program} {w : World} {K : PySem.W.Frag} {mg : Str → Option Value} {base : Heap} {f C : Addr} {fd : FuncData} (F : Fun K "__init__" "InvalidCommand.__init__" s_init_InvalidCommand f fd) (T : OexH K C) (no : PySem.W.findIn K (.ref C) "word" = some none) : FnOk P w K mg base CX0 1 f fd ["self", "word"] (spInit K C "word") := by
  refine F.ok sc_init_InvalidCommand (fun vs H Q E h => ?_) (fun cdv A outer s H vs Q E hr h => ?_)
  · obtain ⟨a, v, rfl, _⟩ := h
    rfl
  · obtain ⟨a, v, rfl, ha, k⟩ := h
    exact ⟨_, pss_one (ps_ostH (pv 0) (pv 1)), _, rfl, _, rfl, a, C, rfl, T, no, ha, fun dx hd ne => k dx hd ne⟩
abbrev s_init_InvalidNumber : Stmt := inClass (top 10) 0
theorem sc_init_InvalidNumber : FnScope ["self", "value"] ["self", "value"] (defScope s_init_InvalidNumber) := ⟨rfl, rfl, rfl, by decide +kernel, rfl, by decide +kernel, by decide +kernel⟩
theorem ok_init_InvalidNumber {P : Program} {w : World} {K : PySem.W.Frag} {mg : Str → Option Value} {base : Heap} {f C : Addr} {fd : FuncData} (F : Fun K "__init__" "InvalidNumber.__init__" s_init_InvalidNumber f fd) (T : OexH K C) (no : PySem.W.findIn K (.ref C) "value" = some none) : FnOk P w K mg base CX0 1 f fd ["self", "value"] (spInit K C "value") := by
  refine F.ok sc_init_InvalidNumber (fun vs H Q E h => ?_) (fun cdv A outer s H vs Q E hr h => ?_)
  · obtain ⟨a, v, rfl, _⟩ := h
    rfl
  · obtain ⟨a, v, rfl, ha, k⟩ := h
    exact ⟨_, pss_one (ps_ostH (pv 0) (pv 1)), _, rfl, _, rfl, a, C, rfl, T, no, ha, fun dx hd ne => k dx hd ne⟩
abbrev s_init_LimitExceeded : Stmt := inClass (top 11) 0
theorem sc_init_LimitExceeded : FnScope ["self", "limit"] ["self", "limit"] (defScope s_init_LimitExceeded) := ⟨rfl, rfl, rfl, by decide +kernel, rfl, by decide +kernel, by decide +kernel⟩
theorem ok_init_LimitExceeded {P : Program} {w : World} {K : PySem.W.Frag} {mg : Str → Option Value} {base : Heap} {f C : Addr} {fd : FuncData} (F : Fun K "__init__" "LimitExceeded.__init__" s_init_LimitExceeded f fd) (T : OexH K C) (no : PySem.W.findIn K (.ref C) "limit" = some none) : FnOk P w K mg base CX0 1 f fd ["self", "limit"] (spInit K C "limit") := by
  refine F.ok sc_init_LimitExceeded (fun vs H Q E h => ?_) (fun cdv A outer s H vs Q E hr h => ?_)
  · obtain ⟨a, v, rfl, _⟩ := h
    rfl
  · obtain ⟨a, v, rfl, ha, k⟩ := h
    exact ⟨_, pss_one (ps_ostH (pv 0) (pv 1)), _, rfl, _, rfl, a, C, rfl, T, no, ha, fun dx hd ne => k dx hd ne⟩
abbrev s_init_UnknownName : Stmt := inClass (top 12) 0
theorem sc_init_UnknownName : FnScope ["self", "name"] ["self", "name"] (defScope s_init_UnknownName) := ⟨rfl, rfl, rfl, by decide +kernel, rfl, by decide +kernel, by decide +kernel⟩
theorem ok_init_UnknownName {P : Program} {w : World} {K : PySem.W.Frag} {mg : Str → Option Value} {base : Heap} {f C : Addr} {fd : FuncData} (F : Fun K "__init__" "UnknownName.__init__" s_init_UnknownName f fd) (T : OexH K C) (no : PySem.W.findIn K (.ref C) "name" = some none) : FnOk P w K mg base CX0 1 f fd ["self", "name"] (spInit K C "name") := by
  refine F.ok sc_init_UnknownName (fun vs H Q E h => ?_) (fun cdv A outer s H vs Q E hr h => ?_)
  · obtain ⟨a, v, rfl, _⟩ := h
    rfl
  · obtain ⟨a, v, rfl, ha, k⟩ := h
    exact ⟨_, pss_one (ps_ostH (pv 0) (pv 1)), _, rfl, _, rfl, a, C, rfl, T, no, ha, fun dx hd ne => k dx hd ne⟩
abbrev s_init_Stuck : Stmt := inClass (top 13) 0
theorem sc_init_Stuck : FnScope ["self", "blocked"] ["self", "blocked"] (defScope s_init_Stuck) := ⟨rfl, rfl, rfl, by decide +kernel, rfl, by decide +kernel, by decide +kernel⟩
theorem ok_init_Stuck {P : Program} {w : World} {K : PySem.W.Frag} {mg : Str → Option Value} {base : Heap} {f C : Addr} {fd : FuncData} (F : Fun K "__init__" "Stuck.__init__" s_init_Stuck f fd) (T : OexH K C) (no : PySem.W.findIn K (.ref C) "blocked" = some none) : FnOk P w K mg base CX0 1 f fd ["self", "blocked"] (spInit K C "blocked") := by
  refine F.ok sc_init_Stuck (fun vs H Q E h => ?_) (fun cdv A outer s H vs Q E hr h => ?_)
  · obtain ⟨a, v, rfl, _⟩ := h
    rfl
  · obtain ⟨a, v, rfl, ha, k⟩ := h
    exact ⟨_, pss_one (ps_ostH (pv 0) (pv 1)), _, rfl, _, rfl, a, C, rfl, T, no, ha, fun dx hd ne => k dx hd ne⟩
abbrev s_init_TooLate : Stmt := inClass (top 14) 0
theorem sc_init_TooLate : FnScope ["self", "place"] ["self", "place"] (defScope s_init_TooLate) := ⟨rfl, rfl, rfl, by decide +kernel, rfl, by decide +kernel, by decide +kernel⟩
theorem ok_init_TooLate {P : Program} {w : World} {K : PySem.W.Frag} {mg : Str → Option Value} {base : Heap} {f C : Addr} {fd : FuncData} (F : Fun K "__init__" "TooLate.__init__" s_init_TooLate f fd) (T : OexH K C) (no : PySem.W.findIn K (.ref C) "place" = some none) : FnOk P w K mg base CX0 1 f fd ["self", "place"] (spInit K C "place") := by
  refine F.ok sc_init_TooLate (fun vs H Q E h => ?_) (fun cdv A outer s H vs Q E hr h => ?_)
  · obtain ⟨a, v, rfl, _⟩ := h
    rfl
  · obtain ⟨a, v, rfl, ha, k⟩ := h
    exact ⟨_, pss_one (ps_ostH (pv 0) (pv 1)), _, rfl, _, rfl, a, C, rfl, T, no, ha, fun dx hd ne => k dx hd ne⟩
abbrev s_init_NothingToUndo : Stmt := inClass (top 15) 0
theorem sc_init_NothingToUndo : FnScope ["self", "name"] ["self", "name"] (defScope s_init_NothingToUndo) := ⟨rfl, rfl, rfl, by decide +kernel, rfl, by decide +kernel, by decide +kernel⟩
theorem ok_init_NothingToUndo {P : Program} {w : World} {K : PySem.W.Frag} {mg : Str → Option Value} {base : Heap} {f C : Addr} {fd : FuncData} (F : Fun K "__init__" "NothingToUndo.__init__" s_init_NothingToUndo f fd) (T : OexH K C) (no : PySem.W.findIn K (.ref C) "name" = some none) : FnOk P w K mg base CX0 1 f fd ["self", "name"] (spInit K C "name") := by
  refine F.ok sc_init_NothingToUndo (fun vs H Q E h => ?_) (fun cdv A outer s H vs Q E hr h => ?_)
  · obtain ⟨a, v, rfl, _⟩ := h
    rfl
  · obtain ⟨a, v, rfl, ha, k⟩ := h
    exact ⟨_, pss_one (ps_ostH (pv 0) (pv 1)), _, rfl, _, rfl, a, C, rfl, T, no, ha, fun dx hd ne => k dx hd ne⟩
theorem mk {w : World} {K : PySem.W.Frag} {h : Heap} {mg : Str → Option Value} {fa : Addr} (X : K.In h) (G : h.Ns mainGlobals mg) (hfa : mg "law" = some (.ref fa)) (true_ : ∀ (ns : List Int), ns.length ≤ 63 → (∀ z ∈ ns, Builtin.Int.intBits z ≤ 1048576) → ∃ h', m_law [.ref 0] [.rol (ns.map W.int)] = .val (.bl true) h')
    {f_xlawnumbers : Addr} {od_xlawnumbers an_xlawnumbers : Option Addr} {sl_xlawnumbers : Array (Option Value)} {oc_xlawnumbers kV_xlawnumbers dc_xlawnumbers pm_xlawnumbers ct_xlawnumbers cd_xlawnumbers : Value}
    {f_xlawdraw : Addr} {od_xlawdraw an_xlawdraw : Option Addr} {sl_xlawdraw : Array (Option Value)} {oc_xlawdraw kV_xlawdraw dc_xlawdraw pm_xlawdraw ct_xlawdraw cd_xlawdraw : Value}
    {f_xlawkinds : Addr} {od_xlawkinds an_xlawkinds : Option Addr} {sl_xlawkinds : Array (Option Value)} {oc_xlawkinds kV_xlawkinds dc_xlawkinds pm_xlawkinds ct_xlawkinds cd_xlawkinds : Value}
    {f_xlawbases : Addr} {od_xlawbases an_xlawbases : Option Addr} {sl_xlawbases : Array (Option Value)} {oc_xlawbases kV_xlawbases dc_xlawbases pm_xlawbases ct_xlawbases cd_xlawbases : Value}
    {f_xlawmade : Addr} {od_xlawmade an_xlawmade : Option Addr} {sl_xlawmade : Array (Option Value)} {oc_xlawmade kV_xlawmade dc_xlawmade pm_xlawmade ct_xlawmade cd_xlawmade : Value}
    {f_xlawnamed : Addr} {od_xlawnamed an_xlawnamed : Option Addr} {sl_xlawnamed : Array (Option Value)} {oc_xlawnamed kV_xlawnamed dc_xlawnamed pm_xlawnamed ct_xlawnamed cd_xlawnamed : Value}
    {f_xlawfields : Addr} {od_xlawfields an_xlawfields : Option Addr} {sl_xlawfields : Array (Option Value)} {oc_xlawfields kV_xlawfields dc_xlawfields pm_xlawfields ct_xlawfields cd_xlawfields : Value}
    {f_xlawraised : Addr} {od_xlawraised an_xlawraised : Option Addr} {sl_xlawraised : Array (Option Value)} {oc_xlawraised kV_xlawraised dc_xlawraised pm_xlawraised ct_xlawraised cd_xlawraised : Value}
    {f_xlaw : Addr} {od_xlaw an_xlaw : Option Addr} {sl_xlaw : Array (Option Value)} {oc_xlaw kV_xlaw dc_xlaw pm_xlaw ct_xlaw cd_xlaw : Value}
    {kTimesError : Addr}
    {C_InvalidProgram fI_InvalidProgram : Addr} {nm_InvalidProgram q0_InvalidProgram : Str} {N_InvalidProgram : Addr} {bs_InvalidProgram : List Value} {sn_InvalidProgram : List Str} {sub_InvalidProgram : List Value} {ab_InvalidProgram : Bool} {col_InvalidProgram : Option Bool} {dd_InvalidProgram : Option Addr} {m0_InvalidProgram m1_InvalidProgram m2_InvalidProgram m3_InvalidProgram m5_InvalidProgram : Option Value} {odi_InvalidProgram ani_InvalidProgram : Option Addr} {sli_InvalidProgram : Array (Option Value)} {oci_InvalidProgram kVi_InvalidProgram dci_InvalidProgram pmi_InvalidProgram cdi_InvalidProgram cti_InvalidProgram : Value}
    {C_InvalidSetting fI_InvalidSetting : Addr} {nm_InvalidSetting q0_InvalidSetting : Str} {N_InvalidSetting : Addr} {bs_InvalidSetting : List Value} {sn_InvalidSetting : List Str} {sub_InvalidSetting : List Value} {ab_InvalidSetting : Bool} {col_InvalidSetting : Option Bool} {dd_InvalidSetting : Option Addr} {m0_InvalidSetting m1_InvalidSetting m2_InvalidSetting m3_InvalidSetting m5_InvalidSetting : Option Value} {odi_InvalidSetting ani_InvalidSetting : Option Addr} {sli_InvalidSetting : Array (Option Value)} {oci_InvalidSetting kVi_InvalidSetting dci_InvalidSetting pmi_InvalidSetting cdi_InvalidSetting cti_InvalidSetting : Value}
    {C_InvalidRange fI_InvalidRange : Addr} {nm_InvalidRange q0_InvalidRange : Str} {N_InvalidRange : Addr} {bs_InvalidRange : List Value} {sn_InvalidRange : List Str} {sub_InvalidRange : List Value} {ab_InvalidRange : Bool} {col_InvalidRange : Option Bool} {dd_InvalidRange : Option Addr} {m0_InvalidRange m1_InvalidRange m2_InvalidRange m3_InvalidRange m5_InvalidRange : Option Value} {odi_InvalidRange ani_InvalidRange : Option Addr} {sli_InvalidRange : Array (Option Value)} {oci_InvalidRange kVi_InvalidRange dci_InvalidRange pmi_InvalidRange cdi_InvalidRange cti_InvalidRange : Value}
    {C_InvalidShape fI_InvalidShape : Addr} {nm_InvalidShape q0_InvalidShape : Str} {N_InvalidShape : Addr} {bs_InvalidShape : List Value} {sn_InvalidShape : List Str} {sub_InvalidShape : List Value} {ab_InvalidShape : Bool} {col_InvalidShape : Option Bool} {dd_InvalidShape : Option Addr} {m0_InvalidShape m1_InvalidShape m2_InvalidShape m3_InvalidShape m5_InvalidShape : Option Value} {odi_InvalidShape ani_InvalidShape : Option Addr} {sli_InvalidShape : Array (Option Value)} {oci_InvalidShape kVi_InvalidShape dci_InvalidShape pmi_InvalidShape cdi_InvalidShape cti_InvalidShape : Value}
    {C_InvalidJournal fI_InvalidJournal : Addr} {nm_InvalidJournal q0_InvalidJournal : Str} {N_InvalidJournal : Addr} {bs_InvalidJournal : List Value} {sn_InvalidJournal : List Str} {sub_InvalidJournal : List Value} {ab_InvalidJournal : Bool} {col_InvalidJournal : Option Bool} {dd_InvalidJournal : Option Addr} {m0_InvalidJournal m1_InvalidJournal m2_InvalidJournal m3_InvalidJournal m5_InvalidJournal : Option Value} {odi_InvalidJournal ani_InvalidJournal : Option Addr} {sli_InvalidJournal : Array (Option Value)} {oci_InvalidJournal kVi_InvalidJournal dci_InvalidJournal pmi_InvalidJournal cdi_InvalidJournal cti_InvalidJournal : Value}
    {C_InvalidSighting fI_InvalidSighting : Addr} {nm_InvalidSighting q0_InvalidSighting : Str} {N_InvalidSighting : Addr} {bs_InvalidSighting : List Value} {sn_InvalidSighting : List Str} {sub_InvalidSighting : List Value} {ab_InvalidSighting : Bool} {col_InvalidSighting : Option Bool} {dd_InvalidSighting : Option Addr} {m0_InvalidSighting m1_InvalidSighting m2_InvalidSighting m3_InvalidSighting m5_InvalidSighting : Option Value} {odi_InvalidSighting ani_InvalidSighting : Option Addr} {sli_InvalidSighting : Array (Option Value)} {oci_InvalidSighting kVi_InvalidSighting dci_InvalidSighting pmi_InvalidSighting cdi_InvalidSighting cti_InvalidSighting : Value}
    {C_InvalidText fI_InvalidText : Addr} {nm_InvalidText q0_InvalidText : Str} {N_InvalidText : Addr} {bs_InvalidText : List Value} {sn_InvalidText : List Str} {sub_InvalidText : List Value} {ab_InvalidText : Bool} {col_InvalidText : Option Bool} {dd_InvalidText : Option Addr} {m0_InvalidText m1_InvalidText m2_InvalidText m3_InvalidText m5_InvalidText : Option Value} {odi_InvalidText ani_InvalidText : Option Addr} {sli_InvalidText : Array (Option Value)} {oci_InvalidText kVi_InvalidText dci_InvalidText pmi_InvalidText cdi_InvalidText cti_InvalidText : Value}
    {C_InvalidCommand fI_InvalidCommand : Addr} {nm_InvalidCommand q0_InvalidCommand : Str} {N_InvalidCommand : Addr} {bs_InvalidCommand : List Value} {sn_InvalidCommand : List Str} {sub_InvalidCommand : List Value} {ab_InvalidCommand : Bool} {col_InvalidCommand : Option Bool} {dd_InvalidCommand : Option Addr} {m0_InvalidCommand m1_InvalidCommand m2_InvalidCommand m3_InvalidCommand m5_InvalidCommand : Option Value} {odi_InvalidCommand ani_InvalidCommand : Option Addr} {sli_InvalidCommand : Array (Option Value)} {oci_InvalidCommand kVi_InvalidCommand dci_InvalidCommand pmi_InvalidCommand cdi_InvalidCommand cti_InvalidCommand : Value}
    {C_InvalidNumber fI_InvalidNumber : Addr} {nm_InvalidNumber q0_InvalidNumber : Str} {N_InvalidNumber : Addr} {bs_InvalidNumber : List Value} {sn_InvalidNumber : List Str} {sub_InvalidNumber : List Value} {ab_InvalidNumber : Bool} {col_InvalidNumber : Option Bool} {dd_InvalidNumber : Option Addr} {m0_InvalidNumber m1_InvalidNumber m2_InvalidNumber m3_InvalidNumber m5_InvalidNumber : Option Value} {odi_InvalidNumber ani_InvalidNumber : Option Addr} {sli_InvalidNumber : Array (Option Value)} {oci_InvalidNumber kVi_InvalidNumber dci_InvalidNumber pmi_InvalidNumber cdi_InvalidNumber cti_InvalidNumber : Value}
    {C_LimitExceeded fI_LimitExceeded : Addr} {nm_LimitExceeded q0_LimitExceeded : Str} {N_LimitExceeded : Addr} {bs_LimitExceeded : List Value} {sn_LimitExceeded : List Str} {sub_LimitExceeded : List Value} {ab_LimitExceeded : Bool} {col_LimitExceeded : Option Bool} {dd_LimitExceeded : Option Addr} {m0_LimitExceeded m1_LimitExceeded m2_LimitExceeded m3_LimitExceeded m5_LimitExceeded : Option Value} {odi_LimitExceeded ani_LimitExceeded : Option Addr} {sli_LimitExceeded : Array (Option Value)} {oci_LimitExceeded kVi_LimitExceeded dci_LimitExceeded pmi_LimitExceeded cdi_LimitExceeded cti_LimitExceeded : Value}
    {C_UnknownName fI_UnknownName : Addr} {nm_UnknownName q0_UnknownName : Str} {N_UnknownName : Addr} {bs_UnknownName : List Value} {sn_UnknownName : List Str} {sub_UnknownName : List Value} {ab_UnknownName : Bool} {col_UnknownName : Option Bool} {dd_UnknownName : Option Addr} {m0_UnknownName m1_UnknownName m2_UnknownName m3_UnknownName m5_UnknownName : Option Value} {odi_UnknownName ani_UnknownName : Option Addr} {sli_UnknownName : Array (Option Value)} {oci_UnknownName kVi_UnknownName dci_UnknownName pmi_UnknownName cdi_UnknownName cti_UnknownName : Value}
    {C_Stuck fI_Stuck : Addr} {nm_Stuck q0_Stuck : Str} {N_Stuck : Addr} {bs_Stuck : List Value} {sn_Stuck : List Str} {sub_Stuck : List Value} {ab_Stuck : Bool} {col_Stuck : Option Bool} {dd_Stuck : Option Addr} {m0_Stuck m1_Stuck m2_Stuck m3_Stuck m5_Stuck : Option Value} {odi_Stuck ani_Stuck : Option Addr} {sli_Stuck : Array (Option Value)} {oci_Stuck kVi_Stuck dci_Stuck pmi_Stuck cdi_Stuck cti_Stuck : Value}
    {C_TooLate fI_TooLate : Addr} {nm_TooLate q0_TooLate : Str} {N_TooLate : Addr} {bs_TooLate : List Value} {sn_TooLate : List Str} {sub_TooLate : List Value} {ab_TooLate : Bool} {col_TooLate : Option Bool} {dd_TooLate : Option Addr} {m0_TooLate m1_TooLate m2_TooLate m3_TooLate m5_TooLate : Option Value} {odi_TooLate ani_TooLate : Option Addr} {sli_TooLate : Array (Option Value)} {oci_TooLate kVi_TooLate dci_TooLate pmi_TooLate cdi_TooLate cti_TooLate : Value}
    {C_NothingToUndo fI_NothingToUndo : Addr} {nm_NothingToUndo q0_NothingToUndo : Str} {N_NothingToUndo : Addr} {bs_NothingToUndo : List Value} {sn_NothingToUndo : List Str} {sub_NothingToUndo : List Value} {ab_NothingToUndo : Bool} {col_NothingToUndo : Option Bool} {dd_NothingToUndo : Option Addr} {m0_NothingToUndo m1_NothingToUndo m2_NothingToUndo m3_NothingToUndo m5_NothingToUndo : Option Value} {odi_NothingToUndo ani_NothingToUndo : Option Addr} {sli_NothingToUndo : Array (Option Value)} {oci_NothingToUndo kVi_NothingToUndo dci_NothingToUndo pmi_NothingToUndo cdi_NothingToUndo cti_NothingToUndo : Value}
    (a_xlawnumbers : PySem.W.nsIn K mainGlobals "_law_numbers" = some (some (.ref f_xlawnumbers)))
    (l_xlawnumbers : K.lookup f_xlawnumbers = some ⟨oc_xlawnumbers, od_xlawnumbers, .func (PySem.W.fnOf "_law_numbers" "_law_numbers" (defArgs s__law_numbers) (defBody s__law_numbers) (defScope s__law_numbers) .none kV_xlawnumbers dc_xlawnumbers pm_xlawnumbers an_xlawnumbers cd_xlawnumbers ct_xlawnumbers), sl_xlawnumbers⟩)
    (c_xlawnumbers1 : PySem.W.codeIn K cd_xlawnumbers "_law_numbers" = true)
    (k_xlawnumbers : PySem.W.keepIn K (.ref f_xlawnumbers) = true)
    (a_xlawdraw : PySem.W.nsIn K mainGlobals "_law_draw" = some (some (.ref f_xlawdraw)))
    (l_xlawdraw : K.lookup f_xlawdraw = some ⟨oc_xlawdraw, od_xlawdraw, .func (PySem.W.fnOf "_law_draw" "_law_draw" (defArgs s__law_draw) (defBody s__law_draw) (defScope s__law_draw) .none kV_xlawdraw dc_xlawdraw pm_xlawdraw an_xlawdraw cd_xlawdraw ct_xlawdraw), sl_xlawdraw⟩)
    (c_xlawdraw1 : PySem.W.codeIn K cd_xlawdraw "_law_draw" = true)
    (k_xlawdraw : PySem.W.keepIn K (.ref f_xlawdraw) = true)
    (a_xlawkinds : PySem.W.nsIn K mainGlobals "_law_kinds" = some (some (.ref f_xlawkinds)))
    (l_xlawkinds : K.lookup f_xlawkinds = some ⟨oc_xlawkinds, od_xlawkinds, .func (PySem.W.fnOf "_law_kinds" "_law_kinds" (defArgs s__law_kinds) (defBody s__law_kinds) (defScope s__law_kinds) .none kV_xlawkinds dc_xlawkinds pm_xlawkinds an_xlawkinds cd_xlawkinds ct_xlawkinds), sl_xlawkinds⟩)
    (c_xlawkinds1 : PySem.W.codeIn K cd_xlawkinds "_law_kinds" = true)
    (k_xlawkinds : PySem.W.keepIn K (.ref f_xlawkinds) = true)
    (a_xlawbases : PySem.W.nsIn K mainGlobals "_law_bases" = some (some (.ref f_xlawbases)))
    (l_xlawbases : K.lookup f_xlawbases = some ⟨oc_xlawbases, od_xlawbases, .func (PySem.W.fnOf "_law_bases" "_law_bases" (defArgs s__law_bases) (defBody s__law_bases) (defScope s__law_bases) .none kV_xlawbases dc_xlawbases pm_xlawbases an_xlawbases cd_xlawbases ct_xlawbases), sl_xlawbases⟩)
    (c_xlawbases1 : PySem.W.codeIn K cd_xlawbases "_law_bases" = true)
    (k_xlawbases : PySem.W.keepIn K (.ref f_xlawbases) = true)
    (a_xlawmade : PySem.W.nsIn K mainGlobals "_law_made" = some (some (.ref f_xlawmade)))
    (l_xlawmade : K.lookup f_xlawmade = some ⟨oc_xlawmade, od_xlawmade, .func (PySem.W.fnOf "_law_made" "_law_made" (defArgs s__law_made) (defBody s__law_made) (defScope s__law_made) .none kV_xlawmade dc_xlawmade pm_xlawmade an_xlawmade cd_xlawmade ct_xlawmade), sl_xlawmade⟩)
    (c_xlawmade1 : PySem.W.codeIn K cd_xlawmade "_law_made" = true)
    (k_xlawmade : PySem.W.keepIn K (.ref f_xlawmade) = true)
    (a_xlawnamed : PySem.W.nsIn K mainGlobals "_law_named" = some (some (.ref f_xlawnamed)))
    (l_xlawnamed : K.lookup f_xlawnamed = some ⟨oc_xlawnamed, od_xlawnamed, .func (PySem.W.fnOf "_law_named" "_law_named" (defArgs s__law_named) (defBody s__law_named) (defScope s__law_named) .none kV_xlawnamed dc_xlawnamed pm_xlawnamed an_xlawnamed cd_xlawnamed ct_xlawnamed), sl_xlawnamed⟩)
    (c_xlawnamed1 : PySem.W.codeIn K cd_xlawnamed "_law_named" = true)
    (k_xlawnamed : PySem.W.keepIn K (.ref f_xlawnamed) = true)
    (a_xlawfields : PySem.W.nsIn K mainGlobals "_law_fields" = some (some (.ref f_xlawfields)))
    (l_xlawfields : K.lookup f_xlawfields = some ⟨oc_xlawfields, od_xlawfields, .func (PySem.W.fnOf "_law_fields" "_law_fields" (defArgs s__law_fields) (defBody s__law_fields) (defScope s__law_fields) .none kV_xlawfields dc_xlawfields pm_xlawfields an_xlawfields cd_xlawfields ct_xlawfields), sl_xlawfields⟩)
    (c_xlawfields1 : PySem.W.codeIn K cd_xlawfields "_law_fields" = true)
    (k_xlawfields : PySem.W.keepIn K (.ref f_xlawfields) = true)
    (a_xlawraised : PySem.W.nsIn K mainGlobals "_law_raised" = some (some (.ref f_xlawraised)))
    (l_xlawraised : K.lookup f_xlawraised = some ⟨oc_xlawraised, od_xlawraised, .func (PySem.W.fnOf "_law_raised" "_law_raised" (defArgs s__law_raised) (defBody s__law_raised) (defScope s__law_raised) .none kV_xlawraised dc_xlawraised pm_xlawraised an_xlawraised cd_xlawraised ct_xlawraised), sl_xlawraised⟩)
    (c_xlawraised1 : PySem.W.codeIn K cd_xlawraised "_law_raised" = true)
    (k_xlawraised : PySem.W.keepIn K (.ref f_xlawraised) = true)
    (a_xlaw : PySem.W.nsIn K mainGlobals "law" = some (some (.ref f_xlaw)))
    (l_xlaw : K.lookup f_xlaw = some ⟨oc_xlaw, od_xlaw, .func (PySem.W.fnOf "law" "law" (defArgs s_law) (defBody s_law) (defScope s_law) .none kV_xlaw dc_xlaw pm_xlaw an_xlaw cd_xlaw ct_xlaw), sl_xlaw⟩)
    (c_xlaw1 : PySem.W.codeIn K cd_xlaw "law" = true)
    (k_xlaw : PySem.W.keepIn K (.ref f_xlaw) = true)
    (mTimesError : PySem.W.nsIn K mainGlobals "TimesError" = some (some (.ref kTimesError)))
    (eKTimesError : PySem.W.subIn K (.ref kTimesError) (.type "BaseException") = some true)
    (tKTimesError : PySem.W.typeIn K (.ref kTimesError) = some (.type "type"))
    (hKTimesError : PySem.W.hasDictIn K kTimesError = true)
    (aC_InvalidProgram : PySem.W.nsIn K mainGlobals "InvalidProgram" = some (some (.ref C_InvalidProgram)))
    (xL_InvalidProgram : K.lookup C_InvalidProgram = some (excClassObj nm_InvalidProgram q0_InvalidProgram C_InvalidProgram N_InvalidProgram bs_InvalidProgram [.ref kTimesError, .type "Exception", .type "BaseException", .type "object"] true sn_InvalidProgram sub_InvalidProgram ab_InvalidProgram col_InvalidProgram dd_InvalidProgram m0_InvalidProgram m1_InvalidProgram m2_InvalidProgram m3_InvalidProgram m5_InvalidProgram "Exception.__new__"))
    (sa_InvalidProgram : PySem.W.findIn K (.ref C_InvalidProgram) "__setattr__" = some (some (.builtin "object.__setattr__")))
    (ga_InvalidProgram : PySem.W.findIn K (.ref C_InvalidProgram) "__getattribute__" = some (some (.builtin "BaseException.__getattribute__")))
    (gg_InvalidProgram : PySem.W.findIn K (.ref C_InvalidProgram) "__getattr__" = some none)
    (nb_InvalidProgram : PySem.W.findIn K (.ref C_InvalidProgram) "place" = some none)
    (a1_InvalidProgram : PySem.W.findIn K (.ref C_InvalidProgram) "__init__" = some (some (.ref fI_InvalidProgram)))
    (t1_InvalidProgram : PySem.W.typeIn K (.ref fI_InvalidProgram) = some (.type "function"))
    (l1_InvalidProgram : K.lookup fI_InvalidProgram = some ⟨oci_InvalidProgram, odi_InvalidProgram, .func (PySem.W.fnOf "__init__" "InvalidProgram.__init__" (defArgs s_init_InvalidProgram) (defBody s_init_InvalidProgram) (defScope s_init_InvalidProgram) .none kVi_InvalidProgram dci_InvalidProgram pmi_InvalidProgram ani_InvalidProgram cdi_InvalidProgram cti_InvalidProgram), sli_InvalidProgram⟩)
    (c1_InvalidProgram : PySem.W.codeIn K cdi_InvalidProgram "InvalidProgram.__init__" = true)
    (k1_InvalidProgram : PySem.W.keepIn K (.ref fI_InvalidProgram) = true)
    (kC_InvalidProgram : PySem.W.keepIn K (.ref C_InvalidProgram) = true)
    (eC_InvalidProgram : PySem.W.subIn K (.ref C_InvalidProgram) (.type "BaseException") = some true)
    (tC_InvalidProgram : PySem.W.typeIn K (.ref C_InvalidProgram) = some (.type "type"))
    (hC_InvalidProgram : PySem.W.hasDictIn K C_InvalidProgram = true)
    (hcl_InvalidProgram : PySem.W.findIn K (.ref C_InvalidProgram) "__class__" = some (some (.builtin "object.__class__")))
    (hmo_InvalidProgram : PySem.W.mroIn K C_InvalidProgram (.type "object") = some true)
    (aC_InvalidSetting : PySem.W.nsIn K mainGlobals "InvalidSetting" = some (some (.ref C_InvalidSetting)))
    (xL_InvalidSetting : K.lookup C_InvalidSetting = some (excClassObj nm_InvalidSetting q0_InvalidSetting C_InvalidSetting N_InvalidSetting bs_InvalidSetting [.ref kTimesError, .type "Exception", .type "BaseException", .type "object"] true sn_InvalidSetting sub_InvalidSetting ab_InvalidSetting col_InvalidSetting dd_InvalidSetting m0_InvalidSetting m1_InvalidSetting m2_InvalidSetting m3_InvalidSetting m5_InvalidSetting "Exception.__new__"))
    (sa_InvalidSetting : PySem.W.findIn K (.ref C_InvalidSetting) "__setattr__" = some (some (.builtin "object.__setattr__")))
    (ga_InvalidSetting : PySem.W.findIn K (.ref C_InvalidSetting) "__getattribute__" = some (some (.builtin "BaseException.__getattribute__")))
    (gg_InvalidSetting : PySem.W.findIn K (.ref C_InvalidSetting) "__getattr__" = some none)
    (nb_InvalidSetting : PySem.W.findIn K (.ref C_InvalidSetting) "value" = some none)
    (a1_InvalidSetting : PySem.W.findIn K (.ref C_InvalidSetting) "__init__" = some (some (.ref fI_InvalidSetting)))
    (t1_InvalidSetting : PySem.W.typeIn K (.ref fI_InvalidSetting) = some (.type "function"))
    (l1_InvalidSetting : K.lookup fI_InvalidSetting = some ⟨oci_InvalidSetting, odi_InvalidSetting, .func (PySem.W.fnOf "__init__" "InvalidSetting.__init__" (defArgs s_init_InvalidSetting) (defBody s_init_InvalidSetting) (defScope s_init_InvalidSetting) .none kVi_InvalidSetting dci_InvalidSetting pmi_InvalidSetting ani_InvalidSetting cdi_InvalidSetting cti_InvalidSetting), sli_InvalidSetting⟩)
    (c1_InvalidSetting : PySem.W.codeIn K cdi_InvalidSetting "InvalidSetting.__init__" = true)
    (k1_InvalidSetting : PySem.W.keepIn K (.ref fI_InvalidSetting) = true)
    (kC_InvalidSetting : PySem.W.keepIn K (.ref C_InvalidSetting) = true)
    (eC_InvalidSetting : PySem.W.subIn K (.ref C_InvalidSetting) (.type "BaseException") = some true)
    (tC_InvalidSetting : PySem.W.typeIn K (.ref C_InvalidSetting) = some (.type "type"))
    (hC_InvalidSetting : PySem.W.hasDictIn K C_InvalidSetting = true)
    (hcl_InvalidSetting : PySem.W.findIn K (.ref C_InvalidSetting) "__class__" = some (some (.builtin "object.__class__")))
    (hmo_InvalidSetting : PySem.W.mroIn K C_InvalidSetting (.type "object") = some true)
    (aC_InvalidRange : PySem.W.nsIn K mainGlobals "InvalidRange" = some (some (.ref C_InvalidRange)))
    (xL_InvalidRange : K.lookup C_InvalidRange = some (excClassObj nm_InvalidRange q0_InvalidRange C_InvalidRange N_InvalidRange bs_InvalidRange [.ref kTimesError, .type "Exception", .type "BaseException", .type "object"] true sn_InvalidRange sub_InvalidRange ab_InvalidRange col_InvalidRange dd_InvalidRange m0_InvalidRange m1_InvalidRange m2_InvalidRange m3_InvalidRange m5_InvalidRange "Exception.__new__"))
    (sa_InvalidRange : PySem.W.findIn K (.ref C_InvalidRange) "__setattr__" = some (some (.builtin "object.__setattr__")))
    (ga_InvalidRange : PySem.W.findIn K (.ref C_InvalidRange) "__getattribute__" = some (some (.builtin "BaseException.__getattribute__")))
    (gg_InvalidRange : PySem.W.findIn K (.ref C_InvalidRange) "__getattr__" = some none)
    (nb_InvalidRange : PySem.W.findIn K (.ref C_InvalidRange) "value" = some none)
    (a1_InvalidRange : PySem.W.findIn K (.ref C_InvalidRange) "__init__" = some (some (.ref fI_InvalidRange)))
    (t1_InvalidRange : PySem.W.typeIn K (.ref fI_InvalidRange) = some (.type "function"))
    (l1_InvalidRange : K.lookup fI_InvalidRange = some ⟨oci_InvalidRange, odi_InvalidRange, .func (PySem.W.fnOf "__init__" "InvalidRange.__init__" (defArgs s_init_InvalidRange) (defBody s_init_InvalidRange) (defScope s_init_InvalidRange) .none kVi_InvalidRange dci_InvalidRange pmi_InvalidRange ani_InvalidRange cdi_InvalidRange cti_InvalidRange), sli_InvalidRange⟩)
    (c1_InvalidRange : PySem.W.codeIn K cdi_InvalidRange "InvalidRange.__init__" = true)
    (k1_InvalidRange : PySem.W.keepIn K (.ref fI_InvalidRange) = true)
    (kC_InvalidRange : PySem.W.keepIn K (.ref C_InvalidRange) = true)
    (eC_InvalidRange : PySem.W.subIn K (.ref C_InvalidRange) (.type "BaseException") = some true)
    (tC_InvalidRange : PySem.W.typeIn K (.ref C_InvalidRange) = some (.type "type"))
    (hC_InvalidRange : PySem.W.hasDictIn K C_InvalidRange = true)
    (hcl_InvalidRange : PySem.W.findIn K (.ref C_InvalidRange) "__class__" = some (some (.builtin "object.__class__")))
    (hmo_InvalidRange : PySem.W.mroIn K C_InvalidRange (.type "object") = some true)
    (aC_InvalidShape : PySem.W.nsIn K mainGlobals "InvalidShape" = some (some (.ref C_InvalidShape)))
    (xL_InvalidShape : K.lookup C_InvalidShape = some (excClassObj nm_InvalidShape q0_InvalidShape C_InvalidShape N_InvalidShape bs_InvalidShape [.ref kTimesError, .type "Exception", .type "BaseException", .type "object"] true sn_InvalidShape sub_InvalidShape ab_InvalidShape col_InvalidShape dd_InvalidShape m0_InvalidShape m1_InvalidShape m2_InvalidShape m3_InvalidShape m5_InvalidShape "Exception.__new__"))
    (sa_InvalidShape : PySem.W.findIn K (.ref C_InvalidShape) "__setattr__" = some (some (.builtin "object.__setattr__")))
    (ga_InvalidShape : PySem.W.findIn K (.ref C_InvalidShape) "__getattribute__" = some (some (.builtin "BaseException.__getattribute__")))
    (gg_InvalidShape : PySem.W.findIn K (.ref C_InvalidShape) "__getattr__" = some none)
    (nb_InvalidShape : PySem.W.findIn K (.ref C_InvalidShape) "value" = some none)
    (a1_InvalidShape : PySem.W.findIn K (.ref C_InvalidShape) "__init__" = some (some (.ref fI_InvalidShape)))
    (t1_InvalidShape : PySem.W.typeIn K (.ref fI_InvalidShape) = some (.type "function"))
    (l1_InvalidShape : K.lookup fI_InvalidShape = some ⟨oci_InvalidShape, odi_InvalidShape, .func (PySem.W.fnOf "__init__" "InvalidShape.__init__" (defArgs s_init_InvalidShape) (defBody s_init_InvalidShape) (defScope s_init_InvalidShape) .none kVi_InvalidShape dci_InvalidShape pmi_InvalidShape ani_InvalidShape cdi_InvalidShape cti_InvalidShape), sli_InvalidShape⟩)
    (c1_InvalidShape : PySem.W.codeIn K cdi_InvalidShape "InvalidShape.__init__" = true)
    (k1_InvalidShape : PySem.W.keepIn K (.ref fI_InvalidShape) = true)
    (kC_InvalidShape : PySem.W.keepIn K (.ref C_InvalidShape) = true)
    (eC_InvalidShape : PySem.W.subIn K (.ref C_InvalidShape) (.type "BaseException") = some true)
    (tC_InvalidShape : PySem.W.typeIn K (.ref C_InvalidShape) = some (.type "type"))
    (hC_InvalidShape : PySem.W.hasDictIn K C_InvalidShape = true)
    (hcl_InvalidShape : PySem.W.findIn K (.ref C_InvalidShape) "__class__" = some (some (.builtin "object.__class__")))
    (hmo_InvalidShape : PySem.W.mroIn K C_InvalidShape (.type "object") = some true)
    (aC_InvalidJournal : PySem.W.nsIn K mainGlobals "InvalidJournal" = some (some (.ref C_InvalidJournal)))
    (xL_InvalidJournal : K.lookup C_InvalidJournal = some (excClassObj nm_InvalidJournal q0_InvalidJournal C_InvalidJournal N_InvalidJournal bs_InvalidJournal [.ref kTimesError, .type "Exception", .type "BaseException", .type "object"] true sn_InvalidJournal sub_InvalidJournal ab_InvalidJournal col_InvalidJournal dd_InvalidJournal m0_InvalidJournal m1_InvalidJournal m2_InvalidJournal m3_InvalidJournal m5_InvalidJournal "Exception.__new__"))
    (sa_InvalidJournal : PySem.W.findIn K (.ref C_InvalidJournal) "__setattr__" = some (some (.builtin "object.__setattr__")))
    (ga_InvalidJournal : PySem.W.findIn K (.ref C_InvalidJournal) "__getattribute__" = some (some (.builtin "BaseException.__getattribute__")))
    (gg_InvalidJournal : PySem.W.findIn K (.ref C_InvalidJournal) "__getattr__" = some none)
    (nb_InvalidJournal : PySem.W.findIn K (.ref C_InvalidJournal) "index" = some none)
    (a1_InvalidJournal : PySem.W.findIn K (.ref C_InvalidJournal) "__init__" = some (some (.ref fI_InvalidJournal)))
    (t1_InvalidJournal : PySem.W.typeIn K (.ref fI_InvalidJournal) = some (.type "function"))
    (l1_InvalidJournal : K.lookup fI_InvalidJournal = some ⟨oci_InvalidJournal, odi_InvalidJournal, .func (PySem.W.fnOf "__init__" "InvalidJournal.__init__" (defArgs s_init_InvalidJournal) (defBody s_init_InvalidJournal) (defScope s_init_InvalidJournal) .none kVi_InvalidJournal dci_InvalidJournal pmi_InvalidJournal ani_InvalidJournal cdi_InvalidJournal cti_InvalidJournal), sli_InvalidJournal⟩)
    (c1_InvalidJournal : PySem.W.codeIn K cdi_InvalidJournal "InvalidJournal.__init__" = true)
    (k1_InvalidJournal : PySem.W.keepIn K (.ref fI_InvalidJournal) = true)
    (kC_InvalidJournal : PySem.W.keepIn K (.ref C_InvalidJournal) = true)
    (eC_InvalidJournal : PySem.W.subIn K (.ref C_InvalidJournal) (.type "BaseException") = some true)
    (tC_InvalidJournal : PySem.W.typeIn K (.ref C_InvalidJournal) = some (.type "type"))
    (hC_InvalidJournal : PySem.W.hasDictIn K C_InvalidJournal = true)
    (hcl_InvalidJournal : PySem.W.findIn K (.ref C_InvalidJournal) "__class__" = some (some (.builtin "object.__class__")))
    (hmo_InvalidJournal : PySem.W.mroIn K C_InvalidJournal (.type "object") = some true)
    (aC_InvalidSighting : PySem.W.nsIn K mainGlobals "InvalidSighting" = some (some (.ref C_InvalidSighting)))
    (xL_InvalidSighting : K.lookup C_InvalidSighting = some (excClassObj nm_InvalidSighting q0_InvalidSighting C_InvalidSighting N_InvalidSighting bs_InvalidSighting [.ref kTimesError, .type "Exception", .type "BaseException", .type "object"] true sn_InvalidSighting sub_InvalidSighting ab_InvalidSighting col_InvalidSighting dd_InvalidSighting m0_InvalidSighting m1_InvalidSighting m2_InvalidSighting m3_InvalidSighting m5_InvalidSighting "Exception.__new__"))
    (sa_InvalidSighting : PySem.W.findIn K (.ref C_InvalidSighting) "__setattr__" = some (some (.builtin "object.__setattr__")))
    (ga_InvalidSighting : PySem.W.findIn K (.ref C_InvalidSighting) "__getattribute__" = some (some (.builtin "BaseException.__getattribute__")))
    (gg_InvalidSighting : PySem.W.findIn K (.ref C_InvalidSighting) "__getattr__" = some none)
    (nb_InvalidSighting : PySem.W.findIn K (.ref C_InvalidSighting) "index" = some none)
    (a1_InvalidSighting : PySem.W.findIn K (.ref C_InvalidSighting) "__init__" = some (some (.ref fI_InvalidSighting)))
    (t1_InvalidSighting : PySem.W.typeIn K (.ref fI_InvalidSighting) = some (.type "function"))
    (l1_InvalidSighting : K.lookup fI_InvalidSighting = some ⟨oci_InvalidSighting, odi_InvalidSighting, .func (PySem.W.fnOf "__init__" "InvalidSighting.__init__" (defArgs s_init_InvalidSighting) (defBody s_init_InvalidSighting) (defScope s_init_InvalidSighting) .none kVi_InvalidSighting dci_InvalidSighting pmi_InvalidSighting ani_InvalidSighting cdi_InvalidSighting cti_InvalidSighting), sli_InvalidSighting⟩)
    (c1_InvalidSighting : PySem.W.codeIn K cdi_InvalidSighting "InvalidSighting.__init__" = true)
    (k1_InvalidSighting : PySem.W.keepIn K (.ref fI_InvalidSighting) = true)
    (kC_InvalidSighting : PySem.W.keepIn K (.ref C_InvalidSighting) = true)
    (eC_InvalidSighting : PySem.W.subIn K (.ref C_InvalidSighting) (.type "BaseException") = some true)
    (tC_InvalidSighting : PySem.W.typeIn K (.ref C_InvalidSighting) = some (.type "type"))
    (hC_InvalidSighting : PySem.W.hasDictIn K C_InvalidSighting = true)
    (hcl_InvalidSighting : PySem.W.findIn K (.ref C_InvalidSighting) "__class__" = some (some (.builtin "object.__class__")))
    (hmo_InvalidSighting : PySem.W.mroIn K C_InvalidSighting (.type "object") = some true)
    (aC_InvalidText : PySem.W.nsIn K mainGlobals "InvalidText" = some (some (.ref C_InvalidText)))
    (xL_InvalidText : K.lookup C_InvalidText = some (excClassObj nm_InvalidText q0_InvalidText C_InvalidText N_InvalidText bs_InvalidText [.ref kTimesError, .type "Exception", .type "BaseException", .type "object"] true sn_InvalidText sub_InvalidText ab_InvalidText col_InvalidText dd_InvalidText m0_InvalidText m1_InvalidText m2_InvalidText m3_InvalidText m5_InvalidText "Exception.__new__"))
    (sa_InvalidText : PySem.W.findIn K (.ref C_InvalidText) "__setattr__" = some (some (.builtin "object.__setattr__")))
    (ga_InvalidText : PySem.W.findIn K (.ref C_InvalidText) "__getattribute__" = some (some (.builtin "BaseException.__getattribute__")))
    (gg_InvalidText : PySem.W.findIn K (.ref C_InvalidText) "__getattr__" = some none)
    (nb_InvalidText : PySem.W.findIn K (.ref C_InvalidText) "place" = some none)
    (a1_InvalidText : PySem.W.findIn K (.ref C_InvalidText) "__init__" = some (some (.ref fI_InvalidText)))
    (t1_InvalidText : PySem.W.typeIn K (.ref fI_InvalidText) = some (.type "function"))
    (l1_InvalidText : K.lookup fI_InvalidText = some ⟨oci_InvalidText, odi_InvalidText, .func (PySem.W.fnOf "__init__" "InvalidText.__init__" (defArgs s_init_InvalidText) (defBody s_init_InvalidText) (defScope s_init_InvalidText) .none kVi_InvalidText dci_InvalidText pmi_InvalidText ani_InvalidText cdi_InvalidText cti_InvalidText), sli_InvalidText⟩)
    (c1_InvalidText : PySem.W.codeIn K cdi_InvalidText "InvalidText.__init__" = true)
    (k1_InvalidText : PySem.W.keepIn K (.ref fI_InvalidText) = true)
    (kC_InvalidText : PySem.W.keepIn K (.ref C_InvalidText) = true)
    (eC_InvalidText : PySem.W.subIn K (.ref C_InvalidText) (.type "BaseException") = some true)
    (tC_InvalidText : PySem.W.typeIn K (.ref C_InvalidText) = some (.type "type"))
    (hC_InvalidText : PySem.W.hasDictIn K C_InvalidText = true)
    (hcl_InvalidText : PySem.W.findIn K (.ref C_InvalidText) "__class__" = some (some (.builtin "object.__class__")))
    (hmo_InvalidText : PySem.W.mroIn K C_InvalidText (.type "object") = some true)
    (aC_InvalidCommand : PySem.W.nsIn K mainGlobals "InvalidCommand" = some (some (.ref C_InvalidCommand)))
    (xL_InvalidCommand : K.lookup C_InvalidCommand = some (excClassObj nm_InvalidCommand q0_InvalidCommand C_InvalidCommand N_InvalidCommand bs_InvalidCommand [.ref kTimesError, .type "Exception", .type "BaseException", .type "object"] true sn_InvalidCommand sub_InvalidCommand ab_InvalidCommand col_InvalidCommand dd_InvalidCommand m0_InvalidCommand m1_InvalidCommand m2_InvalidCommand m3_InvalidCommand m5_InvalidCommand "Exception.__new__"))
    (sa_InvalidCommand : PySem.W.findIn K (.ref C_InvalidCommand) "__setattr__" = some (some (.builtin "object.__setattr__")))
    (ga_InvalidCommand : PySem.W.findIn K (.ref C_InvalidCommand) "__getattribute__" = some (some (.builtin "BaseException.__getattribute__")))
    (gg_InvalidCommand : PySem.W.findIn K (.ref C_InvalidCommand) "__getattr__" = some none)
    (nb_InvalidCommand : PySem.W.findIn K (.ref C_InvalidCommand) "word" = some none)
    (a1_InvalidCommand : PySem.W.findIn K (.ref C_InvalidCommand) "__init__" = some (some (.ref fI_InvalidCommand)))
    (t1_InvalidCommand : PySem.W.typeIn K (.ref fI_InvalidCommand) = some (.type "function"))
    (l1_InvalidCommand : K.lookup fI_InvalidCommand = some ⟨oci_InvalidCommand, odi_InvalidCommand, .func (PySem.W.fnOf "__init__" "InvalidCommand.__init__" (defArgs s_init_InvalidCommand) (defBody s_init_InvalidCommand) (defScope s_init_InvalidCommand) .none kVi_InvalidCommand dci_InvalidCommand pmi_InvalidCommand ani_InvalidCommand cdi_InvalidCommand cti_InvalidCommand), sli_InvalidCommand⟩)
    (c1_InvalidCommand : PySem.W.codeIn K cdi_InvalidCommand "InvalidCommand.__init__" = true)
    (k1_InvalidCommand : PySem.W.keepIn K (.ref fI_InvalidCommand) = true)
    (kC_InvalidCommand : PySem.W.keepIn K (.ref C_InvalidCommand) = true)
    (eC_InvalidCommand : PySem.W.subIn K (.ref C_InvalidCommand) (.type "BaseException") = some true)
    (tC_InvalidCommand : PySem.W.typeIn K (.ref C_InvalidCommand) = some (.type "type"))
    (hC_InvalidCommand : PySem.W.hasDictIn K C_InvalidCommand = true)
    (hcl_InvalidCommand : PySem.W.findIn K (.ref C_InvalidCommand) "__class__" = some (some (.builtin "object.__class__")))
    (hmo_InvalidCommand : PySem.W.mroIn K C_InvalidCommand (.type "object") = some true)
    (aC_InvalidNumber : PySem.W.nsIn K mainGlobals "InvalidNumber" = some (some (.ref C_InvalidNumber)))
    (xL_InvalidNumber : K.lookup C_InvalidNumber = some (excClassObj nm_InvalidNumber q0_InvalidNumber C_InvalidNumber N_InvalidNumber bs_InvalidNumber [.type "ValueError", .type "Exception", .type "BaseException", .type "object"] true sn_InvalidNumber sub_InvalidNumber ab_InvalidNumber col_InvalidNumber dd_InvalidNumber m0_InvalidNumber m1_InvalidNumber m2_InvalidNumber m3_InvalidNumber m5_InvalidNumber "ValueError.__new__"))
    (sa_InvalidNumber : PySem.W.findIn K (.ref C_InvalidNumber) "__setattr__" = some (some (.builtin "object.__setattr__")))
    (ga_InvalidNumber : PySem.W.findIn K (.ref C_InvalidNumber) "__getattribute__" = some (some (.builtin "BaseException.__getattribute__")))
    (gg_InvalidNumber : PySem.W.findIn K (.ref C_InvalidNumber) "__getattr__" = some none)
    (nb_InvalidNumber : PySem.W.findIn K (.ref C_InvalidNumber) "value" = some none)
    (a1_InvalidNumber : PySem.W.findIn K (.ref C_InvalidNumber) "__init__" = some (some (.ref fI_InvalidNumber)))
    (t1_InvalidNumber : PySem.W.typeIn K (.ref fI_InvalidNumber) = some (.type "function"))
    (l1_InvalidNumber : K.lookup fI_InvalidNumber = some ⟨oci_InvalidNumber, odi_InvalidNumber, .func (PySem.W.fnOf "__init__" "InvalidNumber.__init__" (defArgs s_init_InvalidNumber) (defBody s_init_InvalidNumber) (defScope s_init_InvalidNumber) .none kVi_InvalidNumber dci_InvalidNumber pmi_InvalidNumber ani_InvalidNumber cdi_InvalidNumber cti_InvalidNumber), sli_InvalidNumber⟩)
    (c1_InvalidNumber : PySem.W.codeIn K cdi_InvalidNumber "InvalidNumber.__init__" = true)
    (k1_InvalidNumber : PySem.W.keepIn K (.ref fI_InvalidNumber) = true)
    (kC_InvalidNumber : PySem.W.keepIn K (.ref C_InvalidNumber) = true)
    (eC_InvalidNumber : PySem.W.subIn K (.ref C_InvalidNumber) (.type "BaseException") = some true)
    (tC_InvalidNumber : PySem.W.typeIn K (.ref C_InvalidNumber) = some (.type "type"))
    (hC_InvalidNumber : PySem.W.hasDictIn K C_InvalidNumber = true)
    (hcl_InvalidNumber : PySem.W.findIn K (.ref C_InvalidNumber) "__class__" = some (some (.builtin "object.__class__")))
    (hmo_InvalidNumber : PySem.W.mroIn K C_InvalidNumber (.type "object") = some true)
    (aC_LimitExceeded : PySem.W.nsIn K mainGlobals "LimitExceeded" = some (some (.ref C_LimitExceeded)))
    (xL_LimitExceeded : K.lookup C_LimitExceeded = some (excClassObj nm_LimitExceeded q0_LimitExceeded C_LimitExceeded N_LimitExceeded bs_LimitExceeded [.type "OverflowError", .type "ArithmeticError", .type "Exception", .type "BaseException", .type "object"] true sn_LimitExceeded sub_LimitExceeded ab_LimitExceeded col_LimitExceeded dd_LimitExceeded m0_LimitExceeded m1_LimitExceeded m2_LimitExceeded m3_LimitExceeded m5_LimitExceeded "OverflowError.__new__"))
    (sa_LimitExceeded : PySem.W.findIn K (.ref C_LimitExceeded) "__setattr__" = some (some (.builtin "object.__setattr__")))
    (ga_LimitExceeded : PySem.W.findIn K (.ref C_LimitExceeded) "__getattribute__" = some (some (.builtin "BaseException.__getattribute__")))
    (gg_LimitExceeded : PySem.W.findIn K (.ref C_LimitExceeded) "__getattr__" = some none)
    (nb_LimitExceeded : PySem.W.findIn K (.ref C_LimitExceeded) "limit" = some none)
    (a1_LimitExceeded : PySem.W.findIn K (.ref C_LimitExceeded) "__init__" = some (some (.ref fI_LimitExceeded)))
    (t1_LimitExceeded : PySem.W.typeIn K (.ref fI_LimitExceeded) = some (.type "function"))
    (l1_LimitExceeded : K.lookup fI_LimitExceeded = some ⟨oci_LimitExceeded, odi_LimitExceeded, .func (PySem.W.fnOf "__init__" "LimitExceeded.__init__" (defArgs s_init_LimitExceeded) (defBody s_init_LimitExceeded) (defScope s_init_LimitExceeded) .none kVi_LimitExceeded dci_LimitExceeded pmi_LimitExceeded ani_LimitExceeded cdi_LimitExceeded cti_LimitExceeded), sli_LimitExceeded⟩)
    (c1_LimitExceeded : PySem.W.codeIn K cdi_LimitExceeded "LimitExceeded.__init__" = true)
    (k1_LimitExceeded : PySem.W.keepIn K (.ref fI_LimitExceeded) = true)
    (kC_LimitExceeded : PySem.W.keepIn K (.ref C_LimitExceeded) = true)
    (eC_LimitExceeded : PySem.W.subIn K (.ref C_LimitExceeded) (.type "BaseException") = some true)
    (tC_LimitExceeded : PySem.W.typeIn K (.ref C_LimitExceeded) = some (.type "type"))
    (hC_LimitExceeded : PySem.W.hasDictIn K C_LimitExceeded = true)
    (hcl_LimitExceeded : PySem.W.findIn K (.ref C_LimitExceeded) "__class__" = some (some (.builtin "object.__class__")))
    (hmo_LimitExceeded : PySem.W.mroIn K C_LimitExceeded (.type "object") = some true)
    (aC_UnknownName : PySem.W.nsIn K mainGlobals "UnknownName" = some (some (.ref C_UnknownName)))
    (xL_UnknownName : K.lookup C_UnknownName = some (excClassObj nm_UnknownName q0_UnknownName C_UnknownName N_UnknownName bs_UnknownName [.type "KeyError", .type "LookupError", .type "Exception", .type "BaseException", .type "object"] true sn_UnknownName sub_UnknownName ab_UnknownName col_UnknownName dd_UnknownName m0_UnknownName m1_UnknownName m2_UnknownName m3_UnknownName m5_UnknownName "LookupError.__new__"))
    (sa_UnknownName : PySem.W.findIn K (.ref C_UnknownName) "__setattr__" = some (some (.builtin "object.__setattr__")))
    (ga_UnknownName : PySem.W.findIn K (.ref C_UnknownName) "__getattribute__" = some (some (.builtin "BaseException.__getattribute__")))
    (gg_UnknownName : PySem.W.findIn K (.ref C_UnknownName) "__getattr__" = some none)
    (nb_UnknownName : PySem.W.findIn K (.ref C_UnknownName) "name" = some none)
    (a1_UnknownName : PySem.W.findIn K (.ref C_UnknownName) "__init__" = some (some (.ref fI_UnknownName)))
    (t1_UnknownName : PySem.W.typeIn K (.ref fI_UnknownName) = some (.type "function"))
    (l1_UnknownName : K.lookup fI_UnknownName = some ⟨oci_UnknownName, odi_UnknownName, .func (PySem.W.fnOf "__init__" "UnknownName.__init__" (defArgs s_init_UnknownName) (defBody s_init_UnknownName) (defScope s_init_UnknownName) .none kVi_UnknownName dci_UnknownName pmi_UnknownName ani_UnknownName cdi_UnknownName cti_UnknownName), sli_UnknownName⟩)
    (c1_UnknownName : PySem.W.codeIn K cdi_UnknownName "UnknownName.__init__" = true)
    (k1_UnknownName : PySem.W.keepIn K (.ref fI_UnknownName) = true)
    (kC_UnknownName : PySem.W.keepIn K (.ref C_UnknownName) = true)
    (eC_UnknownName : PySem.W.subIn K (.ref C_UnknownName) (.type "BaseException") = some true)
    (tC_UnknownName : PySem.W.typeIn K (.ref C_UnknownName) = some (.type "type"))
    (hC_UnknownName : PySem.W.hasDictIn K C_UnknownName = true)
    (hcl_UnknownName : PySem.W.findIn K (.ref C_UnknownName) "__class__" = some (some (.builtin "object.__class__")))
    (hmo_UnknownName : PySem.W.mroIn K C_UnknownName (.type "object") = some true)
    (aC_Stuck : PySem.W.nsIn K mainGlobals "Stuck" = some (some (.ref C_Stuck)))
    (xL_Stuck : K.lookup C_Stuck = some (excClassObj nm_Stuck q0_Stuck C_Stuck N_Stuck bs_Stuck [.type "RuntimeError", .type "Exception", .type "BaseException", .type "object"] true sn_Stuck sub_Stuck ab_Stuck col_Stuck dd_Stuck m0_Stuck m1_Stuck m2_Stuck m3_Stuck m5_Stuck "RuntimeError.__new__"))
    (sa_Stuck : PySem.W.findIn K (.ref C_Stuck) "__setattr__" = some (some (.builtin "object.__setattr__")))
    (ga_Stuck : PySem.W.findIn K (.ref C_Stuck) "__getattribute__" = some (some (.builtin "BaseException.__getattribute__")))
    (gg_Stuck : PySem.W.findIn K (.ref C_Stuck) "__getattr__" = some none)
    (nb_Stuck : PySem.W.findIn K (.ref C_Stuck) "blocked" = some none)
    (a1_Stuck : PySem.W.findIn K (.ref C_Stuck) "__init__" = some (some (.ref fI_Stuck)))
    (t1_Stuck : PySem.W.typeIn K (.ref fI_Stuck) = some (.type "function"))
    (l1_Stuck : K.lookup fI_Stuck = some ⟨oci_Stuck, odi_Stuck, .func (PySem.W.fnOf "__init__" "Stuck.__init__" (defArgs s_init_Stuck) (defBody s_init_Stuck) (defScope s_init_Stuck) .none kVi_Stuck dci_Stuck pmi_Stuck ani_Stuck cdi_Stuck cti_Stuck), sli_Stuck⟩)
    (c1_Stuck : PySem.W.codeIn K cdi_Stuck "Stuck.__init__" = true)
    (k1_Stuck : PySem.W.keepIn K (.ref fI_Stuck) = true)
    (kC_Stuck : PySem.W.keepIn K (.ref C_Stuck) = true)
    (eC_Stuck : PySem.W.subIn K (.ref C_Stuck) (.type "BaseException") = some true)
    (tC_Stuck : PySem.W.typeIn K (.ref C_Stuck) = some (.type "type"))
    (hC_Stuck : PySem.W.hasDictIn K C_Stuck = true)
    (hcl_Stuck : PySem.W.findIn K (.ref C_Stuck) "__class__" = some (some (.builtin "object.__class__")))
    (hmo_Stuck : PySem.W.mroIn K C_Stuck (.type "object") = some true)
    (aC_TooLate : PySem.W.nsIn K mainGlobals "TooLate" = some (some (.ref C_TooLate)))
    (xL_TooLate : K.lookup C_TooLate = some (excClassObj nm_TooLate q0_TooLate C_TooLate N_TooLate bs_TooLate [.type "RuntimeError", .type "Exception", .type "BaseException", .type "object"] true sn_TooLate sub_TooLate ab_TooLate col_TooLate dd_TooLate m0_TooLate m1_TooLate m2_TooLate m3_TooLate m5_TooLate "RuntimeError.__new__"))
    (sa_TooLate : PySem.W.findIn K (.ref C_TooLate) "__setattr__" = some (some (.builtin "object.__setattr__")))
    (ga_TooLate : PySem.W.findIn K (.ref C_TooLate) "__getattribute__" = some (some (.builtin "BaseException.__getattribute__")))
    (gg_TooLate : PySem.W.findIn K (.ref C_TooLate) "__getattr__" = some none)
    (nb_TooLate : PySem.W.findIn K (.ref C_TooLate) "place" = some none)
    (a1_TooLate : PySem.W.findIn K (.ref C_TooLate) "__init__" = some (some (.ref fI_TooLate)))
    (t1_TooLate : PySem.W.typeIn K (.ref fI_TooLate) = some (.type "function"))
    (l1_TooLate : K.lookup fI_TooLate = some ⟨oci_TooLate, odi_TooLate, .func (PySem.W.fnOf "__init__" "TooLate.__init__" (defArgs s_init_TooLate) (defBody s_init_TooLate) (defScope s_init_TooLate) .none kVi_TooLate dci_TooLate pmi_TooLate ani_TooLate cdi_TooLate cti_TooLate), sli_TooLate⟩)
    (c1_TooLate : PySem.W.codeIn K cdi_TooLate "TooLate.__init__" = true)
    (k1_TooLate : PySem.W.keepIn K (.ref fI_TooLate) = true)
    (kC_TooLate : PySem.W.keepIn K (.ref C_TooLate) = true)
    (eC_TooLate : PySem.W.subIn K (.ref C_TooLate) (.type "BaseException") = some true)
    (tC_TooLate : PySem.W.typeIn K (.ref C_TooLate) = some (.type "type"))
    (hC_TooLate : PySem.W.hasDictIn K C_TooLate = true)
    (hcl_TooLate : PySem.W.findIn K (.ref C_TooLate) "__class__" = some (some (.builtin "object.__class__")))
    (hmo_TooLate : PySem.W.mroIn K C_TooLate (.type "object") = some true)
    (aC_NothingToUndo : PySem.W.nsIn K mainGlobals "NothingToUndo" = some (some (.ref C_NothingToUndo)))
    (xL_NothingToUndo : K.lookup C_NothingToUndo = some (excClassObj nm_NothingToUndo q0_NothingToUndo C_NothingToUndo N_NothingToUndo bs_NothingToUndo [.type "RuntimeError", .type "Exception", .type "BaseException", .type "object"] true sn_NothingToUndo sub_NothingToUndo ab_NothingToUndo col_NothingToUndo dd_NothingToUndo m0_NothingToUndo m1_NothingToUndo m2_NothingToUndo m3_NothingToUndo m5_NothingToUndo "RuntimeError.__new__"))
    (sa_NothingToUndo : PySem.W.findIn K (.ref C_NothingToUndo) "__setattr__" = some (some (.builtin "object.__setattr__")))
    (ga_NothingToUndo : PySem.W.findIn K (.ref C_NothingToUndo) "__getattribute__" = some (some (.builtin "BaseException.__getattribute__")))
    (gg_NothingToUndo : PySem.W.findIn K (.ref C_NothingToUndo) "__getattr__" = some none)
    (nb_NothingToUndo : PySem.W.findIn K (.ref C_NothingToUndo) "name" = some none)
    (a1_NothingToUndo : PySem.W.findIn K (.ref C_NothingToUndo) "__init__" = some (some (.ref fI_NothingToUndo)))
    (t1_NothingToUndo : PySem.W.typeIn K (.ref fI_NothingToUndo) = some (.type "function"))
    (l1_NothingToUndo : K.lookup fI_NothingToUndo = some ⟨oci_NothingToUndo, odi_NothingToUndo, .func (PySem.W.fnOf "__init__" "NothingToUndo.__init__" (defArgs s_init_NothingToUndo) (defBody s_init_NothingToUndo) (defScope s_init_NothingToUndo) .none kVi_NothingToUndo dci_NothingToUndo pmi_NothingToUndo ani_NothingToUndo cdi_NothingToUndo cti_NothingToUndo), sli_NothingToUndo⟩)
    (c1_NothingToUndo : PySem.W.codeIn K cdi_NothingToUndo "NothingToUndo.__init__" = true)
    (k1_NothingToUndo : PySem.W.keepIn K (.ref fI_NothingToUndo) = true)
    (kC_NothingToUndo : PySem.W.keepIn K (.ref C_NothingToUndo) = true)
    (eC_NothingToUndo : PySem.W.subIn K (.ref C_NothingToUndo) (.type "BaseException") = some true)
    (tC_NothingToUndo : PySem.W.typeIn K (.ref C_NothingToUndo) = some (.type "type"))
    (hC_NothingToUndo : PySem.W.hasDictIn K C_NothingToUndo = true)
    (hcl_NothingToUndo : PySem.W.findIn K (.ref C_NothingToUndo) "__class__" = some (some (.builtin "object.__class__")))
    (hmo_NothingToUndo : PySem.W.mroIn K C_NothingToUndo (.type "object") = some true)
    (sC_InvalidRange_TimesError : PySem.W.subIn K (.ref C_InvalidRange) (.ref kTimesError) = some true)
    (hgs : PySem.W.specialIn K (.builtin "object.__class__") "__get__" = some (some (.builtin "getset_descriptor.__get__")))
    (htk : PySem.W.takesIn K (.builtin "object.__class__") = some true)
    (kiAll : kitTab K [C_InvalidProgram, C_InvalidSetting, C_InvalidRange, C_InvalidShape, C_InvalidJournal, C_InvalidSighting, C_InvalidText, C_InvalidCommand, C_InvalidNumber, C_LimitExceeded, C_UnknownName, C_Stuck, C_TooLate, C_NothingToUndo] [.ref C_InvalidProgram, .ref C_InvalidSetting, .ref C_InvalidRange, .ref C_InvalidShape, .ref C_InvalidJournal, .ref C_InvalidSighting, .ref C_InvalidText, .ref C_InvalidCommand, .ref C_InvalidNumber, .ref C_LimitExceeded, .ref C_UnknownName, .ref C_Stuck, .ref C_TooLate, .ref C_NothingToUndo, .ref kTimesError, .type "ValueError", .type "OverflowError", .type "KeyError", .type "RuntimeError"] = [[some true, some false, some false, some false, some false, some false, some false, some false, some false, some false, some false, some false, some false, some false, some true, some false, some false, some false, some false], [some false, some true, some false, some false, some false, some false, some false, some false, some false, some false, some false, some false, some false, some false, some true, some false, some false, some false, some false], [some false, some false, some true, some false, some false, some false, some false, some false, some false, some false, some false, some false, some false, some false, some true, some false, some false, some false, some false], [some false, some false, some false, some true, some false, some false, some false, some false, some false, some false, some false, some false, some false, some false, some true, some false, some false, some false, some false], [some false, some false, some false, some false, some true, some false, some false, some false, some false, some false, some false, some false, some false, some false, some true, some false, some false, some false, some false], [some false, some false, some false, some false, some false, some true, some false, some false, some false, some false, some false, some false, some false, some false, some true, some false, some false, some false, some false], [some false, some false, some false, some false, some false, some false, some true, some false, some false, some false, some false, some false, some false, some false, some true, some false, some false, some false, some false], [some false, some false, some false, some false, some false, some false, some false, some true, some false, some false, some false, some false, some false, some false, some true, some false, some false, some false, some false], [some false, some false, some false, some false, some false, some false, some false, some false, some true, some false, some false, some false, some false, some false, some false, some true, some false, some false, some false], [some false, some false, some false, some false, some false, some false, some false, some false, some false, some true, some false, some false, some false, some false, some false, some false, some true, some false, some false], [some false, some false, some false, some false, some false, some false, some false, some false, some false, some false, some true, some false, some false, some false, some false, some false, some false, some true, some false], [some false, some false, some false, some false, some false, some false, some false, some false, some false, some false, some false, some true, some false, some false, some false, some false, some false, some false, some true], [some false, some false, some false, some false, some false, some false, some false, some false, some false, some false, some false, some false, some true, some false, some false, some false, some false, some false, some true], [some false, some false, some false, some false, some false, some false, some false, some false, some false, some false, some false, some false, some false, some true, some false, some false, some false, some false, some true]])
    (z_KeyError : PySem.W.nsIn K mainGlobals "KeyError" = some none)
    (z_OverflowError : PySem.W.nsIn K mainGlobals "OverflowError" = some none)
    (z_RuntimeError : PySem.W.nsIn K mainGlobals "RuntimeError" = some none)
    (z_ValueError : PySem.W.nsIn K mainGlobals "ValueError" = some none)
    (z_enumerate : PySem.W.nsIn K mainGlobals "enumerate" = some none)
    (z_int : PySem.W.nsIn K mainGlobals "int" = some none)
    (z_isinstance : PySem.W.nsIn K mainGlobals "isinstance" = some none)
    (z_len : PySem.W.nsIn K mainGlobals "len" = some none)
    (z_max : PySem.W.nsIn K mainGlobals "max" = some none)
    (z_range : PySem.W.nsIn K mainGlobals "range" = some none)
    (z_repr : PySem.W.nsIn K mainGlobals "repr" = some none)
    (Kl : K.all (fun p => !(p.2.cls == .type "list")) = true) : LawV PySem.Challenge.rw_whatiftimes_k01_error_classes w K 4 63 mg fa h := by
  have e := hfa.symm.trans (PySem.W.mg_of X G a_xlaw)
  cases e
  refine ⟨[], Tx.plain [] (cvOf ⟨C_InvalidProgram, C_InvalidSetting, C_InvalidRange, C_InvalidShape, C_InvalidJournal, C_InvalidSighting, C_InvalidText, C_InvalidCommand, C_InvalidNumber, C_LimitExceeded, C_UnknownName, C_Stuck, C_TooLate, C_NothingToUndo⟩), m_law, (fun p hp => by cases hp), (fun p hp => by cases hp), (fun p hp => by cases hp), Kl, (fun p hp => by cases hp), fun _ => trivial, fun base KB GB TB => ?_, true_⟩

  have oex_InvalidProgram : OexH K C_InvalidProgram := ⟨⟨"Exception", _, _, _, "Exception", _, F.excBase_Exception, F.store_Exception, nm_InvalidProgram, q0_InvalidProgram, N_InvalidProgram, bs_InvalidProgram, _, sn_InvalidProgram, sub_InvalidProgram, ab_InvalidProgram, col_InvalidProgram, dd_InvalidProgram, m0_InvalidProgram, m1_InvalidProgram, m2_InvalidProgram, m3_InvalidProgram, m5_InvalidProgram, xL_InvalidProgram, by first | decide +kernel | rfl, by first | decide +kernel | rfl, by first | decide +kernel | rfl, by first | decide +kernel | rfl⟩, sa_InvalidProgram, eC_InvalidProgram, tC_InvalidProgram, kC_InvalidProgram⟩
  have FI_InvalidProgram := fun_mk (st := s_init_InvalidProgram) l1_InvalidProgram c1_InvalidProgram k1_InvalidProgram
  have bI_InvalidProgram := FI_InvalidProgram.binds (ps := ["self", "place"]) fun _ _ _ _ _ _ us hl => match us, hl with | [_, _], _ => rfl
  have bK_InvalidProgram := kbind1 (fl := "place") (ps := ["self", "place"]) FI_InvalidProgram fun _ _ _ _ _ _ _ _ => rfl
  have oex_InvalidSetting : OexH K C_InvalidSetting := ⟨⟨"Exception", _, _, _, "Exception", _, F.excBase_Exception, F.store_Exception, nm_InvalidSetting, q0_InvalidSetting, N_InvalidSetting, bs_InvalidSetting, _, sn_InvalidSetting, sub_InvalidSetting, ab_InvalidSetting, col_InvalidSetting, dd_InvalidSetting, m0_InvalidSetting, m1_InvalidSetting, m2_InvalidSetting, m3_InvalidSetting, m5_InvalidSetting, xL_InvalidSetting, by first | decide +kernel | rfl, by first | decide +kernel | rfl, by first | decide +kernel | rfl, by first | decide +kernel | rfl⟩, sa_InvalidSetting, eC_InvalidSetting, tC_InvalidSetting, kC_InvalidSetting⟩
  have FI_InvalidSetting := fun_mk (st := s_init_InvalidSetting) l1_InvalidSetting c1_InvalidSetting k1_InvalidSetting
  have bI_InvalidSetting := FI_InvalidSetting.binds (ps := ["self", "value"]) fun _ _ _ _ _ _ us hl => match us, hl with | [_, _], _ => rfl
  have bK_InvalidSetting := kbind1 (fl := "value") (ps := ["self", "value"]) FI_InvalidSetting fun _ _ _ _ _ _ _ _ => rfl
  have oex_InvalidRange : OexH K C_InvalidRange := ⟨⟨"Exception", _, _, _, "Exception", _, F.excBase_Exception, F.store_Exception, nm_InvalidRange, q0_InvalidRange, N_InvalidRange, bs_InvalidRange, _, sn_InvalidRange, sub_InvalidRange, ab_InvalidRange, col_InvalidRange, dd_InvalidRange, m0_InvalidRange, m1_InvalidRange, m2_InvalidRange, m3_InvalidRange, m5_InvalidRange, xL_InvalidRange, by first | decide +kernel | rfl, by first | decide +kernel | rfl, by first | decide +kernel | rfl, by first | decide +kernel | rfl⟩, sa_InvalidRange, eC_InvalidRange, tC_InvalidRange, kC_InvalidRange⟩
  have FI_InvalidRange := fun_mk (st := s_init_InvalidRange) l1_InvalidRange c1_InvalidRange k1_InvalidRange
  have bI_InvalidRange := FI_InvalidRange.binds (ps := ["self", "value"]) fun _ _ _ _ _ _ us hl => match us, hl with | [_, _], _ => rfl
  have bK_InvalidRange := kbind1 (fl := "value") (ps := ["self", "value"]) FI_InvalidRange fun _ _ _ _ _ _ _ _ => rfl
  have oex_InvalidShape : OexH K C_InvalidShape := ⟨⟨"Exception", _, _, _, "Exception", _, F.excBase_Exception, F.store_Exception, nm_InvalidShape, q0_InvalidShape, N_InvalidShape, bs_InvalidShape, _, sn_InvalidShape, sub_InvalidShape, ab_InvalidShape, col_InvalidShape, dd_InvalidShape, m0_InvalidShape, m1_InvalidShape, m2_InvalidShape, m3_InvalidShape, m5_InvalidShape, xL_InvalidShape, by first | decide +kernel | rfl, by first | decide +kernel | rfl, by first | decide +kernel | rfl, by first | decide +kernel | rfl⟩, sa_InvalidShape, eC_InvalidShape, tC_InvalidShape, kC_InvalidShape⟩
  have FI_InvalidShape := fun_mk (st := s_init_InvalidShape) l1_InvalidShape c1_InvalidShape k1_InvalidShape
  have bI_InvalidShape := FI_InvalidShape.binds (ps := ["self", "value"]) fun _ _ _ _ _ _ us hl => match us, hl with | [_, _], _ => rfl
  have bK_InvalidShape := kbind1 (fl := "value") (ps := ["self", "value"]) FI_InvalidShape fun _ _ _ _ _ _ _ _ => rfl
  have oex_InvalidJournal : OexH K C_InvalidJournal := ⟨⟨"Exception", _, _, _, "Exception", _, F.excBase_Exception, F.store_Exception, nm_InvalidJournal, q0_InvalidJournal, N_InvalidJournal, bs_InvalidJournal, _, sn_InvalidJournal, sub_InvalidJournal, ab_InvalidJournal, col_InvalidJournal, dd_InvalidJournal, m0_InvalidJournal, m1_InvalidJournal, m2_InvalidJournal, m3_InvalidJournal, m5_InvalidJournal, xL_InvalidJournal, by first | decide +kernel | rfl, by first | decide +kernel | rfl, by first | decide +kernel | rfl, by first | decide +kernel | rfl⟩, sa_InvalidJournal, eC_InvalidJournal, tC_InvalidJournal, kC_InvalidJournal⟩
  have FI_InvalidJournal := fun_mk (st := s_init_InvalidJournal) l1_InvalidJournal c1_InvalidJournal k1_InvalidJournal
  have bI_InvalidJournal := FI_InvalidJournal.binds (ps := ["self", "index"]) fun _ _ _ _ _ _ us hl => match us, hl with | [_, _], _ => rfl
  have bK_InvalidJournal := kbind1 (fl := "index") (ps := ["self", "index"]) FI_InvalidJournal fun _ _ _ _ _ _ _ _ => rfl
  have oex_InvalidSighting : OexH K C_InvalidSighting := ⟨⟨"Exception", _, _, _, "Exception", _, F.excBase_Exception, F.store_Exception, nm_InvalidSighting, q0_InvalidSighting, N_InvalidSighting, bs_InvalidSighting, _, sn_InvalidSighting, sub_InvalidSighting, ab_InvalidSighting, col_InvalidSighting, dd_InvalidSighting, m0_InvalidSighting, m1_InvalidSighting, m2_InvalidSighting, m3_InvalidSighting, m5_InvalidSighting, xL_InvalidSighting, by first | decide +kernel | rfl, by first | decide +kernel | rfl, by first | decide +kernel | rfl, by first | decide +kernel | rfl⟩, sa_InvalidSighting, eC_InvalidSighting, tC_InvalidSighting, kC_InvalidSighting⟩
  have FI_InvalidSighting := fun_mk (st := s_init_InvalidSighting) l1_InvalidSighting c1_InvalidSighting k1_InvalidSighting
  have bI_InvalidSighting := FI_InvalidSighting.binds (ps := ["self", "index"]) fun _ _ _ _ _ _ us hl => match us, hl with | [_, _], _ => rfl
  have bK_InvalidSighting := kbind1 (fl := "index") (ps := ["self", "index"]) FI_InvalidSighting fun _ _ _ _ _ _ _ _ => rfl
  have oex_InvalidText : OexH K C_InvalidText := ⟨⟨"Exception", _, _, _, "Exception", _, F.excBase_Exception, F.store_Exception, nm_InvalidText, q0_InvalidText, N_InvalidText, bs_InvalidText, _, sn_InvalidText, sub_InvalidText, ab_InvalidText, col_InvalidText, dd_InvalidText, m0_InvalidText, m1_InvalidText, m2_InvalidText, m3_InvalidText, m5_InvalidText, xL_InvalidText, by first | decide +kernel | rfl, by first | decide +kernel | rfl, by first | decide +kernel | rfl, by first | decide +kernel | rfl⟩, sa_InvalidText, eC_InvalidText, tC_InvalidText, kC_InvalidText⟩
  have FI_InvalidText := fun_mk (st := s_init_InvalidText) l1_InvalidText c1_InvalidText k1_InvalidText
  have bI_InvalidText := FI_InvalidText.binds (ps := ["self", "place"]) fun _ _ _ _ _ _ us hl => match us, hl with | [_, _], _ => rfl
  have bK_InvalidText := kbind1 (fl := "place") (ps := ["self", "place"]) FI_InvalidText fun _ _ _ _ _ _ _ _ => rfl
  have oex_InvalidCommand : OexH K C_InvalidCommand := ⟨⟨"Exception", _, _, _, "Exception", _, F.excBase_Exception, F.store_Exception, nm_InvalidCommand, q0_InvalidCommand, N_InvalidCommand, bs_InvalidCommand, _, sn_InvalidCommand, sub_InvalidCommand, ab_InvalidCommand, col_InvalidCommand, dd_InvalidCommand, m0_InvalidCommand, m1_InvalidCommand, m2_InvalidCommand, m3_InvalidCommand, m5_InvalidCommand, xL_InvalidCommand, by first | decide +kernel | rfl, by first | decide +kernel | rfl, by first | decide +kernel | rfl, by first | decide +kernel | rfl⟩, sa_InvalidCommand, eC_InvalidCommand, tC_InvalidCommand, kC_InvalidCommand⟩
  have FI_InvalidCommand := fun_mk (st := s_init_InvalidCommand) l1_InvalidCommand c1_InvalidCommand k1_InvalidCommand
  have bI_InvalidCommand := FI_InvalidCommand.binds (ps := ["self", "word"]) fun _ _ _ _ _ _ us hl => match us, hl with | [_, _], _ => rfl
  have bK_InvalidCommand := kbind1 (fl := "word") (ps := ["self", "word"]) FI_InvalidCommand fun _ _ _ _ _ _ _ _ => rfl
  have oex_InvalidNumber : OexH K C_InvalidNumber := ⟨⟨"ValueError", _, _, _, "ValueError", _, F.excBase_ValueError, F.store_ValueError, nm_InvalidNumber, q0_InvalidNumber, N_InvalidNumber, bs_InvalidNumber, _, sn_InvalidNumber, sub_InvalidNumber, ab_InvalidNumber, col_InvalidNumber, dd_InvalidNumber, m0_InvalidNumber, m1_InvalidNumber, m2_InvalidNumber, m3_InvalidNumber, m5_InvalidNumber, xL_InvalidNumber, by first | decide +kernel | rfl, by first | decide +kernel | rfl, by first | decide +kernel | rfl, by first | decide +kernel | rfl⟩, sa_InvalidNumber, eC_InvalidNumber, tC_InvalidNumber, kC_InvalidNumber⟩
  have FI_InvalidNumber := fun_mk (st := s_init_InvalidNumber) l1_InvalidNumber c1_InvalidNumber k1_InvalidNumber
  have bI_InvalidNumber := FI_InvalidNumber.binds (ps := ["self", "value"]) fun _ _ _ _ _ _ us hl => match us, hl with | [_, _], _ => rfl
  have bK_InvalidNumber := kbind1 (fl := "value") (ps := ["self", "value"]) FI_InvalidNumber fun _ _ _ _ _ _ _ _ => rfl
  have oex_LimitExceeded : OexH K C_LimitExceeded := ⟨⟨"OverflowError", _, _, _, "OverflowError", _, F.excBase_OverflowError, F.store_OverflowError, nm_LimitExceeded, q0_LimitExceeded, N_LimitExceeded, bs_LimitExceeded, _, sn_LimitExceeded, sub_LimitExceeded, ab_LimitExceeded, col_LimitExceeded, dd_LimitExceeded, m0_LimitExceeded, m1_LimitExceeded, m2_LimitExceeded, m3_LimitExceeded, m5_LimitExceeded, xL_LimitExceeded, by first | decide +kernel | rfl, by first | decide +kernel | rfl, by first | decide +kernel | rfl, by first | decide +kernel | rfl⟩, sa_LimitExceeded, eC_LimitExceeded, tC_LimitExceeded, kC_LimitExceeded⟩
  have FI_LimitExceeded := fun_mk (st := s_init_LimitExceeded) l1_LimitExceeded c1_LimitExceeded k1_LimitExceeded
  have bI_LimitExceeded := FI_LimitExceeded.binds (ps := ["self", "limit"]) fun _ _ _ _ _ _ us hl => match us, hl with | [_, _], _ => rfl
  have bK_LimitExceeded := kbind1 (fl := "limit") (ps := ["self", "limit"]) FI_LimitExceeded fun _ _ _ _ _ _ _ _ => rfl
  have oex_UnknownName : OexH K C_UnknownName := ⟨⟨"LookupError", _, _, _, "KeyError", _, F.excBase_LookupError, VX.keyStore, nm_UnknownName, q0_UnknownName, N_UnknownName, bs_UnknownName, _, sn_UnknownName, sub_UnknownName, ab_UnknownName, col_UnknownName, dd_UnknownName, m0_UnknownName, m1_UnknownName, m2_UnknownName, m3_UnknownName, m5_UnknownName, xL_UnknownName, by first | decide +kernel | rfl, by first | decide +kernel | rfl, by first | decide +kernel | rfl, by first | decide +kernel | rfl⟩, sa_UnknownName, eC_UnknownName, tC_UnknownName, kC_UnknownName⟩
  have FI_UnknownName := fun_mk (st := s_init_UnknownName) l1_UnknownName c1_UnknownName k1_UnknownName
  have bI_UnknownName := FI_UnknownName.binds (ps := ["self", "name"]) fun _ _ _ _ _ _ us hl => match us, hl with | [_, _], _ => rfl
  have bK_UnknownName := kbind1 (fl := "name") (ps := ["self", "name"]) FI_UnknownName fun _ _ _ _ _ _ _ _ => rfl
  have oex_Stuck : OexH K C_Stuck := ⟨⟨"RuntimeError", _, _, _, "RuntimeError", _, F.excBase_RuntimeError, F.store_RuntimeError, nm_Stuck, q0_Stuck, N_Stuck, bs_Stuck, _, sn_Stuck, sub_Stuck, ab_Stuck, col_Stuck, dd_Stuck, m0_Stuck, m1_Stuck, m2_Stuck, m3_Stuck, m5_Stuck, xL_Stuck, by first | decide +kernel | rfl, by first | decide +kernel | rfl, by first | decide +kernel | rfl, by first | decide +kernel | rfl⟩, sa_Stuck, eC_Stuck, tC_Stuck, kC_Stuck⟩
  have FI_Stuck := fun_mk (st := s_init_Stuck) l1_Stuck c1_Stuck k1_Stuck
  have bI_Stuck := FI_Stuck.binds (ps := ["self", "blocked"]) fun _ _ _ _ _ _ us hl => match us, hl with | [_, _], _ => rfl
  have bK_Stuck := kbind1 (fl := "blocked") (ps := ["self", "blocked"]) FI_Stuck fun _ _ _ _ _ _ _ _ => rfl
  have oex_TooLate : OexH K C_TooLate := ⟨⟨"RuntimeError", _, _, _, "RuntimeError", _, F.excBase_RuntimeError, F.store_RuntimeError, nm_TooLate, q0_TooLate, N_TooLate, bs_TooLate, _, sn_TooLate, sub_TooLate, ab_TooLate, col_TooLate, dd_TooLate, m0_TooLate, m1_TooLate, m2_TooLate, m3_TooLate, m5_TooLate, xL_TooLate, by first | decide +kernel | rfl, by first | decide +kernel | rfl, by first | decide +kernel | rfl, by first | decide +kernel | rfl⟩, sa_TooLate, eC_TooLate, tC_TooLate, kC_TooLate⟩
  have FI_TooLate := fun_mk (st := s_init_TooLate) l1_TooLate c1_TooLate k1_TooLate
  have bI_TooLate := FI_TooLate.binds (ps := ["self", "place"]) fun _ _ _ _ _ _ us hl => match us, hl with | [_, _], _ => rfl
  have bK_TooLate := kbind1 (fl := "place") (ps := ["self", "place"]) FI_TooLate fun _ _ _ _ _ _ _ _ => rfl
  have oex_NothingToUndo : OexH K C_NothingToUndo := ⟨⟨"RuntimeError", _, _, _, "RuntimeError", _, F.excBase_RuntimeError, F.store_RuntimeError, nm_NothingToUndo, q0_NothingToUndo, N_NothingToUndo, bs_NothingToUndo, _, sn_NothingToUndo, sub_NothingToUndo, ab_NothingToUndo, col_NothingToUndo, dd_NothingToUndo, m0_NothingToUndo, m1_NothingToUndo, m2_NothingToUndo, m3_NothingToUndo, m5_NothingToUndo, xL_NothingToUndo, by first | decide +kernel | rfl, by first | decide +kernel | rfl, by first | decide +kernel | rfl, by first | decide +kernel | rfl⟩, sa_NothingToUndo, eC_NothingToUndo, tC_NothingToUndo, kC_NothingToUndo⟩
  have FI_NothingToUndo := fun_mk (st := s_init_NothingToUndo) l1_NothingToUndo c1_NothingToUndo k1_NothingToUndo
  have bI_NothingToUndo := FI_NothingToUndo.binds (ps := ["self", "name"]) fun _ _ _ _ _ _ us hl => match us, hl with | [_, _], _ => rfl
  have bK_NothingToUndo := kbind1 (fl := "name") (ps := ["self", "name"]) FI_NothingToUndo fun _ _ _ _ _ _ _ _ => rfl
  have F_xlawnumbers := fun_mk (st := s__law_numbers) l_xlawnumbers c_xlawnumbers1 k_xlawnumbers
  have b_xlawnumbers := F_xlawnumbers.binds (ps := ["_law_cell", "_law_salt", "_law_sizes"]) fun _ _ _ _ _ _ us hl => match us, hl with | [_, _, _], _ => rfl
  have F_xlawdraw := fun_mk (st := s__law_draw) l_xlawdraw c_xlawdraw1 k_xlawdraw
  have b_xlawdraw := F_xlawdraw.binds (ps := ["_law_state", "_law_many"]) fun _ _ _ _ _ _ us hl => match us, hl with | [_, _], _ => rfl
  have F_xlawkinds := fun_mk (st := s__law_kinds) l_xlawkinds c_xlawkinds1 k_xlawkinds
  have b_xlawkinds := F_xlawkinds.binds (ps := ["_law_e"]) fun _ _ _ _ _ _ us hl => match us, hl with | [_], _ => rfl
  have F_xlawbases := fun_mk (st := s__law_bases) l_xlawbases c_xlawbases1 k_xlawbases
  have b_xlawbases := F_xlawbases.binds (ps := ["_law_e"]) fun _ _ _ _ _ _ us hl => match us, hl with | [_], _ => rfl
  have F_xlawmade := fun_mk (st := s__law_made) l_xlawmade c_xlawmade1 k_xlawmade
  have b_xlawmade := F_xlawmade.binds (ps := ["_law_one"]) fun _ _ _ _ _ _ us hl => match us, hl with | [_], _ => rfl
  have F_xlawnamed := fun_mk (st := s__law_named) l_xlawnamed c_xlawnamed1 k_xlawnamed
  have b_xlawnamed := F_xlawnamed.binds (ps := ["_law_one"]) fun _ _ _ _ _ _ us hl => match us, hl with | [_], _ => rfl
  have F_xlawfields := fun_mk (st := s__law_fields) l_xlawfields c_xlawfields1 k_xlawfields
  have b_xlawfields := F_xlawfields.binds (ps := ["_law_some"]) fun _ _ _ _ _ _ us hl => match us, hl with | [_], _ => rfl
  have F_xlawraised := fun_mk (st := s__law_raised) l_xlawraised c_xlawraised1 k_xlawraised
  have b_xlawraised := F_xlawraised.binds (ps := ["_law_one"]) fun _ _ _ _ _ _ us hl => match us, hl with | [_], _ => rfl
  have F_xlaw := fun_mk (st := s_law) l_xlaw c_xlaw1 k_xlaw
  have b_xlaw := F_xlaw.binds (ps := ["_law_script"]) fun _ _ _ _ _ _ us hl => match us, hl with | [_], _ => rfl
  let G9 : Gx PySem.Challenge.rw_whatiftimes_k01_error_classes.prog w K mg base :=
    { c := ⟨C_InvalidProgram, C_InvalidSetting, C_InvalidRange, C_InvalidShape, C_InvalidJournal, C_InvalidSighting, C_InvalidText, C_InvalidCommand, C_InvalidNumber, C_LimitExceeded, C_UnknownName, C_Stuck, C_TooLate, C_NothingToUndo⟩,
      e_InvalidProgram := ⟨oex_InvalidProgram, PySem.W.mg_of X G aC_InvalidProgram, fI_InvalidProgram, _, a1_InvalidProgram, t1_InvalidProgram, ok_init_InvalidProgram FI_InvalidProgram oex_InvalidProgram nb_InvalidProgram, bI_InvalidProgram, bK_InvalidProgram⟩, xf_InvalidProgram := ⟨ga_InvalidProgram, gg_InvalidProgram, eC_InvalidProgram, hC_InvalidProgram⟩, no_InvalidProgram := nb_InvalidProgram, xc_InvalidProgram := ⟨ga_InvalidProgram, gg_InvalidProgram, eC_InvalidProgram, hC_InvalidProgram, hcl_InvalidProgram, hgs, htk, hmo_InvalidProgram⟩,
      e_InvalidSetting := ⟨oex_InvalidSetting, PySem.W.mg_of X G aC_InvalidSetting, fI_InvalidSetting, _, a1_InvalidSetting, t1_InvalidSetting, ok_init_InvalidSetting FI_InvalidSetting oex_InvalidSetting nb_InvalidSetting, bI_InvalidSetting, bK_InvalidSetting⟩, xf_InvalidSetting := ⟨ga_InvalidSetting, gg_InvalidSetting, eC_InvalidSetting, hC_InvalidSetting⟩, no_InvalidSetting := nb_InvalidSetting, xc_InvalidSetting := ⟨ga_InvalidSetting, gg_InvalidSetting, eC_InvalidSetting, hC_InvalidSetting, hcl_InvalidSetting, hgs, htk, hmo_InvalidSetting⟩,
      e_InvalidRange := ⟨oex_InvalidRange, PySem.W.mg_of X G aC_InvalidRange, fI_InvalidRange, _, a1_InvalidRange, t1_InvalidRange, ok_init_InvalidRange FI_InvalidRange oex_InvalidRange nb_InvalidRange, bI_InvalidRange, bK_InvalidRange⟩, xf_InvalidRange := ⟨ga_InvalidRange, gg_InvalidRange, eC_InvalidRange, hC_InvalidRange⟩, no_InvalidRange := nb_InvalidRange, xc_InvalidRange := ⟨ga_InvalidRange, gg_InvalidRange, eC_InvalidRange, hC_InvalidRange, hcl_InvalidRange, hgs, htk, hmo_InvalidRange⟩,
      e_InvalidShape := ⟨oex_InvalidShape, PySem.W.mg_of X G aC_InvalidShape, fI_InvalidShape, _, a1_InvalidShape, t1_InvalidShape, ok_init_InvalidShape FI_InvalidShape oex_InvalidShape nb_InvalidShape, bI_InvalidShape, bK_InvalidShape⟩, xf_InvalidShape := ⟨ga_InvalidShape, gg_InvalidShape, eC_InvalidShape, hC_InvalidShape⟩, no_InvalidShape := nb_InvalidShape, xc_InvalidShape := ⟨ga_InvalidShape, gg_InvalidShape, eC_InvalidShape, hC_InvalidShape, hcl_InvalidShape, hgs, htk, hmo_InvalidShape⟩,
      e_InvalidJournal := ⟨oex_InvalidJournal, PySem.W.mg_of X G aC_InvalidJournal, fI_InvalidJournal, _, a1_InvalidJournal, t1_InvalidJournal, ok_init_InvalidJournal FI_InvalidJournal oex_InvalidJournal nb_InvalidJournal, bI_InvalidJournal, bK_InvalidJournal⟩, xf_InvalidJournal := ⟨ga_InvalidJournal, gg_InvalidJournal, eC_InvalidJournal, hC_InvalidJournal⟩, no_InvalidJournal := nb_InvalidJournal, xc_InvalidJournal := ⟨ga_InvalidJournal, gg_InvalidJournal, eC_InvalidJournal, hC_InvalidJournal, hcl_InvalidJournal, hgs, htk, hmo_InvalidJournal⟩,
      e_InvalidSighting := ⟨oex_InvalidSighting, PySem.W.mg_of X G aC_InvalidSighting, fI_InvalidSighting, _, a1_InvalidSighting, t1_InvalidSighting, ok_init_InvalidSighting FI_InvalidSighting oex_InvalidSighting nb_InvalidSighting, bI_InvalidSighting, bK_InvalidSighting⟩, xf_InvalidSighting := ⟨ga_InvalidSighting, gg_InvalidSighting, eC_InvalidSighting, hC_InvalidSighting⟩, no_InvalidSighting := nb_InvalidSighting, xc_InvalidSighting := ⟨ga_InvalidSighting, gg_InvalidSighting, eC_InvalidSighting, hC_InvalidSighting, hcl_InvalidSighting, hgs, htk, hmo_InvalidSighting⟩,
      e_InvalidText := ⟨oex_InvalidText, PySem.W.mg_of X G aC_InvalidText, fI_InvalidText, _, a1_InvalidText, t1_InvalidText, ok_init_InvalidText FI_InvalidText oex_InvalidText nb_InvalidText, bI_InvalidText, bK_InvalidText⟩, xf_InvalidText := ⟨ga_InvalidText, gg_InvalidText, eC_InvalidText, hC_InvalidText⟩, no_InvalidText := nb_InvalidText, xc_InvalidText := ⟨ga_InvalidText, gg_InvalidText, eC_InvalidText, hC_InvalidText, hcl_InvalidText, hgs, htk, hmo_InvalidText⟩,
      e_InvalidCommand := ⟨oex_InvalidCommand, PySem.W.mg_of X G aC_InvalidCommand, fI_InvalidCommand, _, a1_InvalidCommand, t1_InvalidCommand, ok_init_InvalidCommand FI_InvalidCommand oex_InvalidCommand nb_InvalidCommand, bI_InvalidCommand, bK_InvalidCommand⟩, xf_InvalidCommand := ⟨ga_InvalidCommand, gg_InvalidCommand, eC_InvalidCommand, hC_InvalidCommand⟩, no_InvalidCommand := nb_InvalidCommand, xc_InvalidCommand := ⟨ga_InvalidCommand, gg_InvalidCommand, eC_InvalidCommand, hC_InvalidCommand, hcl_InvalidCommand, hgs, htk, hmo_InvalidCommand⟩,
      e_InvalidNumber := ⟨oex_InvalidNumber, PySem.W.mg_of X G aC_InvalidNumber, fI_InvalidNumber, _, a1_InvalidNumber, t1_InvalidNumber, ok_init_InvalidNumber FI_InvalidNumber oex_InvalidNumber nb_InvalidNumber, bI_InvalidNumber, bK_InvalidNumber⟩, xf_InvalidNumber := ⟨ga_InvalidNumber, gg_InvalidNumber, eC_InvalidNumber, hC_InvalidNumber⟩, no_InvalidNumber := nb_InvalidNumber, xc_InvalidNumber := ⟨ga_InvalidNumber, gg_InvalidNumber, eC_InvalidNumber, hC_InvalidNumber, hcl_InvalidNumber, hgs, htk, hmo_InvalidNumber⟩,
      e_LimitExceeded := ⟨oex_LimitExceeded, PySem.W.mg_of X G aC_LimitExceeded, fI_LimitExceeded, _, a1_LimitExceeded, t1_LimitExceeded, ok_init_LimitExceeded FI_LimitExceeded oex_LimitExceeded nb_LimitExceeded, bI_LimitExceeded, bK_LimitExceeded⟩, xf_LimitExceeded := ⟨ga_LimitExceeded, gg_LimitExceeded, eC_LimitExceeded, hC_LimitExceeded⟩, no_LimitExceeded := nb_LimitExceeded, xc_LimitExceeded := ⟨ga_LimitExceeded, gg_LimitExceeded, eC_LimitExceeded, hC_LimitExceeded, hcl_LimitExceeded, hgs, htk, hmo_LimitExceeded⟩,
      e_UnknownName := ⟨oex_UnknownName, PySem.W.mg_of X G aC_UnknownName, fI_UnknownName, _, a1_UnknownName, t1_UnknownName, ok_init_UnknownName FI_UnknownName oex_UnknownName nb_UnknownName, bI_UnknownName, bK_UnknownName⟩, xf_UnknownName := ⟨ga_UnknownName, gg_UnknownName, eC_UnknownName, hC_UnknownName⟩, no_UnknownName := nb_UnknownName, xc_UnknownName := ⟨ga_UnknownName, gg_UnknownName, eC_UnknownName, hC_UnknownName, hcl_UnknownName, hgs, htk, hmo_UnknownName⟩,
      e_Stuck := ⟨oex_Stuck, PySem.W.mg_of X G aC_Stuck, fI_Stuck, _, a1_Stuck, t1_Stuck, ok_init_Stuck FI_Stuck oex_Stuck nb_Stuck, bI_Stuck, bK_Stuck⟩, xf_Stuck := ⟨ga_Stuck, gg_Stuck, eC_Stuck, hC_Stuck⟩, no_Stuck := nb_Stuck, xc_Stuck := ⟨ga_Stuck, gg_Stuck, eC_Stuck, hC_Stuck, hcl_Stuck, hgs, htk, hmo_Stuck⟩,
      e_TooLate := ⟨oex_TooLate, PySem.W.mg_of X G aC_TooLate, fI_TooLate, _, a1_TooLate, t1_TooLate, ok_init_TooLate FI_TooLate oex_TooLate nb_TooLate, bI_TooLate, bK_TooLate⟩, xf_TooLate := ⟨ga_TooLate, gg_TooLate, eC_TooLate, hC_TooLate⟩, no_TooLate := nb_TooLate, xc_TooLate := ⟨ga_TooLate, gg_TooLate, eC_TooLate, hC_TooLate, hcl_TooLate, hgs, htk, hmo_TooLate⟩,
      e_NothingToUndo := ⟨oex_NothingToUndo, PySem.W.mg_of X G aC_NothingToUndo, fI_NothingToUndo, _, a1_NothingToUndo, t1_NothingToUndo, ok_init_NothingToUndo FI_NothingToUndo oex_NothingToUndo nb_NothingToUndo, bI_NothingToUndo, bK_NothingToUndo⟩, xf_NothingToUndo := ⟨ga_NothingToUndo, gg_NothingToUndo, eC_NothingToUndo, hC_NothingToUndo⟩, no_NothingToUndo := nb_NothingToUndo, xc_NothingToUndo := ⟨ga_NothingToUndo, gg_NothingToUndo, eC_NothingToUndo, hC_NothingToUndo, hcl_NothingToUndo, hgs, htk, hmo_NothingToUndo⟩,
      kTimesError := kTimesError, m_TimesError := PySem.W.mg_of X G mTimesError,
      te_InvalidRange_TimesError := PySem.W.exm_ref eKTimesError hKTimesError tKTimesError sC_InvalidRange_TimesError,
      ki_InvalidProgram_InvalidProgram := congrArg (fun l => (l.getD 0 []).getD 0 none) kiAll,
      ki_InvalidProgram_InvalidSetting := congrArg (fun l => (l.getD 0 []).getD 1 none) kiAll,
      ki_InvalidProgram_InvalidRange := congrArg (fun l => (l.getD 0 []).getD 2 none) kiAll,
      ki_InvalidProgram_InvalidShape := congrArg (fun l => (l.getD 0 []).getD 3 none) kiAll,
      ki_InvalidProgram_InvalidJournal := congrArg (fun l => (l.getD 0 []).getD 4 none) kiAll,
      ki_InvalidProgram_InvalidSighting := congrArg (fun l => (l.getD 0 []).getD 5 none) kiAll,
      ki_InvalidProgram_InvalidText := congrArg (fun l => (l.getD 0 []).getD 6 none) kiAll,
      ki_InvalidProgram_InvalidCommand := congrArg (fun l => (l.getD 0 []).getD 7 none) kiAll,
      ki_InvalidProgram_InvalidNumber := congrArg (fun l => (l.getD 0 []).getD 8 none) kiAll,
      ki_InvalidProgram_LimitExceeded := congrArg (fun l => (l.getD 0 []).getD 9 none) kiAll,
      ki_InvalidProgram_UnknownName := congrArg (fun l => (l.getD 0 []).getD 10 none) kiAll,
      ki_InvalidProgram_Stuck := congrArg (fun l => (l.getD 0 []).getD 11 none) kiAll,
      ki_InvalidProgram_TooLate := congrArg (fun l => (l.getD 0 []).getD 12 none) kiAll,
      ki_InvalidProgram_NothingToUndo := congrArg (fun l => (l.getD 0 []).getD 13 none) kiAll,
      ki_InvalidProgram_TimesError := congrArg (fun l => (l.getD 0 []).getD 14 none) kiAll,
      ki_InvalidProgram_ValueError := congrArg (fun l => (l.getD 0 []).getD 15 none) kiAll,
      ki_InvalidProgram_OverflowError := congrArg (fun l => (l.getD 0 []).getD 16 none) kiAll,
      ki_InvalidProgram_KeyError := congrArg (fun l => (l.getD 0 []).getD 17 none) kiAll,
      ki_InvalidProgram_RuntimeError := congrArg (fun l => (l.getD 0 []).getD 18 none) kiAll,
      ki_InvalidSetting_InvalidProgram := congrArg (fun l => (l.getD 1 []).getD 0 none) kiAll,
      ki_InvalidSetting_InvalidSetting := congrArg (fun l => (l.getD 1 []).getD 1 none) kiAll,
      ki_InvalidSetting_InvalidRange := congrArg (fun l => (l.getD 1 []).getD 2 none) kiAll,
      ki_InvalidSetting_InvalidShape := congrArg (fun l => (l.getD 1 []).getD 3 none) kiAll,
      ki_InvalidSetting_InvalidJournal := congrArg (fun l => (l.getD 1 []).getD 4 none) kiAll,
      ki_InvalidSetting_InvalidSighting := congrArg (fun l => (l.getD 1 []).getD 5 none) kiAll,
      ki_InvalidSetting_InvalidText := congrArg (fun l => (l.getD 1 []).getD 6 none) kiAll,
      ki_InvalidSetting_InvalidCommand := congrArg (fun l => (l.getD 1 []).getD 7 none) kiAll,
      ki_InvalidSetting_InvalidNumber := congrArg (fun l => (l.getD 1 []).getD 8 none) kiAll,
      ki_InvalidSetting_LimitExceeded := congrArg (fun l => (l.getD 1 []).getD 9 none) kiAll,
      ki_InvalidSetting_UnknownName := congrArg (fun l => (l.getD 1 []).getD 10 none) kiAll,
      ki_InvalidSetting_Stuck := congrArg (fun l => (l.getD 1 []).getD 11 none) kiAll,
      ki_InvalidSetting_TooLate := congrArg (fun l => (l.getD 1 []).getD 12 none) kiAll,
      ki_InvalidSetting_NothingToUndo := congrArg (fun l => (l.getD 1 []).getD 13 none) kiAll,
      ki_InvalidSetting_TimesError := congrArg (fun l => (l.getD 1 []).getD 14 none) kiAll,
      ki_InvalidSetting_ValueError := congrArg (fun l => (l.getD 1 []).getD 15 none) kiAll,
      ki_InvalidSetting_OverflowError := congrArg (fun l => (l.getD 1 []).getD 16 none) kiAll,
      ki_InvalidSetting_KeyError := congrArg (fun l => (l.getD 1 []).getD 17 none) kiAll,
      ki_InvalidSetting_RuntimeError := congrArg (fun l => (l.getD 1 []).getD 18 none) kiAll,
      ki_InvalidRange_InvalidProgram := congrArg (fun l => (l.getD 2 []).getD 0 none) kiAll,
      ki_InvalidRange_InvalidSetting := congrArg (fun l => (l.getD 2 []).getD 1 none) kiAll,
      ki_InvalidRange_InvalidRange := congrArg (fun l => (l.getD 2 []).getD 2 none) kiAll,
      ki_InvalidRange_InvalidShape := congrArg (fun l => (l.getD 2 []).getD 3 none) kiAll,
      ki_InvalidRange_InvalidJournal := congrArg (fun l => (l.getD 2 []).getD 4 none) kiAll,
      ki_InvalidRange_InvalidSighting := congrArg (fun l => (l.getD 2 []).getD 5 none) kiAll,
      ki_InvalidRange_InvalidText := congrArg (fun l => (l.getD 2 []).getD 6 none) kiAll,
      ki_InvalidRange_InvalidCommand := congrArg (fun l => (l.getD 2 []).getD 7 none) kiAll,
      ki_InvalidRange_InvalidNumber := congrArg (fun l => (l.getD 2 []).getD 8 none) kiAll,
      ki_InvalidRange_LimitExceeded := congrArg (fun l => (l.getD 2 []).getD 9 none) kiAll,
      ki_InvalidRange_UnknownName := congrArg (fun l => (l.getD 2 []).getD 10 none) kiAll,
      ki_InvalidRange_Stuck := congrArg (fun l => (l.getD 2 []).getD 11 none) kiAll,
      ki_InvalidRange_TooLate := congrArg (fun l => (l.getD 2 []).getD 12 none) kiAll,
      ki_InvalidRange_NothingToUndo := congrArg (fun l => (l.getD 2 []).getD 13 none) kiAll,
      ki_InvalidRange_TimesError := congrArg (fun l => (l.getD 2 []).getD 14 none) kiAll,
      ki_InvalidRange_ValueError := congrArg (fun l => (l.getD 2 []).getD 15 none) kiAll,
      ki_InvalidRange_OverflowError := congrArg (fun l => (l.getD 2 []).getD 16 none) kiAll,
      ki_InvalidRange_KeyError := congrArg (fun l => (l.getD 2 []).getD 17 none) kiAll,
      ki_InvalidRange_RuntimeError := congrArg (fun l => (l.getD 2 []).getD 18 none) kiAll,
      ki_InvalidShape_InvalidProgram := congrArg (fun l => (l.getD 3 []).getD 0 none) kiAll,
      ki_InvalidShape_InvalidSetting := congrArg (fun l => (l.getD 3 []).getD 1 none) kiAll,
      ki_InvalidShape_InvalidRange := congrArg (fun l => (l.getD 3 []).getD 2 none) kiAll,
      ki_InvalidShape_InvalidShape := congrArg (fun l => (l.getD 3 []).getD 3 none) kiAll,
      ki_InvalidShape_InvalidJournal := congrArg (fun l => (l.getD 3 []).getD 4 none) kiAll,
      ki_InvalidShape_InvalidSighting := congrArg (fun l => (l.getD 3 []).getD 5 none) kiAll,
      ki_InvalidShape_InvalidText := congrArg (fun l => (l.getD 3 []).getD 6 none) kiAll,
      ki_InvalidShape_InvalidCommand := congrArg (fun l => (l.getD 3 []).getD 7 none) kiAll,
      ki_InvalidShape_InvalidNumber := congrArg (fun l => (l.getD 3 []).getD 8 none) kiAll,
      ki_InvalidShape_LimitExceeded := congrArg (fun l => (l.getD 3 []).getD 9 none) kiAll,
      ki_InvalidShape_UnknownName := congrArg (fun l => (l.getD 3 []).getD 10 none) kiAll,
      ki_InvalidShape_Stuck := congrArg (fun l => (l.getD 3 []).getD 11 none) kiAll,
      ki_InvalidShape_TooLate := congrArg (fun l => (l.getD 3 []).getD 12 none) kiAll,
      ki_InvalidShape_NothingToUndo := congrArg (fun l => (l.getD 3 []).getD 13 none) kiAll,
      ki_InvalidShape_TimesError := congrArg (fun l => (l.getD 3 []).getD 14 none) kiAll,
      ki_InvalidShape_ValueError := congrArg (fun l => (l.getD 3 []).getD 15 none) kiAll,
      ki_InvalidShape_OverflowError := congrArg (fun l => (l.getD 3 []).getD 16 none) kiAll,
      ki_InvalidShape_KeyError := congrArg (fun l => (l.getD 3 []).getD 17 none) kiAll,
      ki_InvalidShape_RuntimeError := congrArg (fun l => (l.getD 3 []).getD 18 none) kiAll,
      ki_InvalidJournal_InvalidProgram := congrArg (fun l => (l.getD 4 []).getD 0 none) kiAll,
      ki_InvalidJournal_InvalidSetting := congrArg (fun l => (l.getD 4 []).getD 1 none) kiAll,
      ki_InvalidJournal_InvalidRange := congrArg (fun l => (l.getD 4 []).getD 2 none) kiAll,
      ki_InvalidJournal_InvalidShape := congrArg (fun l => (l.getD 4 []).getD 3 none) kiAll,
      ki_InvalidJournal_InvalidJournal := congrArg (fun l => (l.getD 4 []).getD 4 none) kiAll,
      ki_InvalidJournal_InvalidSighting := congrArg (fun l => (l.getD 4 []).getD 5 none) kiAll,
      ki_InvalidJournal_InvalidText := congrArg (fun l => (l.getD 4 []).getD 6 none) kiAll,
      ki_InvalidJournal_InvalidCommand := congrArg (fun l => (l.getD 4 []).getD 7 none) kiAll,
      ki_InvalidJournal_InvalidNumber := congrArg (fun l => (l.getD 4 []).getD 8 none) kiAll,
      ki_InvalidJournal_LimitExceeded := congrArg (fun l => (l.getD 4 []).getD 9 none) kiAll,
      ki_InvalidJournal_UnknownName := congrArg (fun l => (l.getD 4 []).getD 10 none) kiAll,
      ki_InvalidJournal_Stuck := congrArg (fun l => (l.getD 4 []).getD 11 none) kiAll,
      ki_InvalidJournal_TooLate := congrArg (fun l => (l.getD 4 []).getD 12 none) kiAll,
      ki_InvalidJournal_NothingToUndo := congrArg (fun l => (l.getD 4 []).getD 13 none) kiAll,
      ki_InvalidJournal_TimesError := congrArg (fun l => (l.getD 4 []).getD 14 none) kiAll,
      ki_InvalidJournal_ValueError := congrArg (fun l => (l.getD 4 []).getD 15 none) kiAll,
      ki_InvalidJournal_OverflowError := congrArg (fun l => (l.getD 4 []).getD 16 none) kiAll,
      ki_InvalidJournal_KeyError := congrArg (fun l => (l.getD 4 []).getD 17 none) kiAll,
      ki_InvalidJournal_RuntimeError := congrArg (fun l => (l.getD 4 []).getD 18 none) kiAll,
      ki_InvalidSighting_InvalidProgram := congrArg (fun l => (l.getD 5 []).getD 0 none) kiAll,
      ki_InvalidSighting_InvalidSetting := congrArg (fun l => (l.getD 5 []).getD 1 none) kiAll,
      ki_InvalidSighting_InvalidRange := congrArg (fun l => (l.getD 5 []).getD 2 none) kiAll,
      ki_InvalidSighting_InvalidShape := congrArg (fun l => (l.getD 5 []).getD 3 none) kiAll,
      ki_InvalidSighting_InvalidJournal := congrArg (fun l => (l.getD 5 []).getD 4 none) kiAll,
      ki_InvalidSighting_InvalidSighting := congrArg (fun l => (l.getD 5 []).getD 5 none) kiAll,
      ki_InvalidSighting_InvalidText := congrArg (fun l => (l.getD 5 []).getD 6 none) kiAll,
      ki_InvalidSighting_InvalidCommand := congrArg (fun l => (l.getD 5 []).getD 7 none) kiAll,
      ki_InvalidSighting_InvalidNumber := congrArg (fun l => (l.getD 5 []).getD 8 none) kiAll,
      ki_InvalidSighting_LimitExceeded := congrArg (fun l => (l.getD 5 []).getD 9 none) kiAll,
      ki_InvalidSighting_UnknownName := congrArg (fun l => (l.getD 5 []).getD 10 none) kiAll,
      ki_InvalidSighting_Stuck := congrArg (fun l => (l.getD 5 []).getD 11 none) kiAll,
      ki_InvalidSighting_TooLate := congrArg (fun l => (l.getD 5 []).getD 12 none) kiAll,
      ki_InvalidSighting_NothingToUndo := congrArg (fun l => (l.getD 5 []).getD 13 none) kiAll,
      ki_InvalidSighting_TimesError := congrArg (fun l => (l.getD 5 []).getD 14 none) kiAll,
      ki_InvalidSighting_ValueError := congrArg (fun l => (l.getD 5 []).getD 15 none) kiAll,
      ki_InvalidSighting_OverflowError := congrArg (fun l => (l.getD 5 []).getD 16 none) kiAll,
      ki_InvalidSighting_KeyError := congrArg (fun l => (l.getD 5 []).getD 17 none) kiAll,
      ki_InvalidSighting_RuntimeError := congrArg (fun l => (l.getD 5 []).getD 18 none) kiAll,
      ki_InvalidText_InvalidProgram := congrArg (fun l => (l.getD 6 []).getD 0 none) kiAll,
      ki_InvalidText_InvalidSetting := congrArg (fun l => (l.getD 6 []).getD 1 none) kiAll,
      ki_InvalidText_InvalidRange := congrArg (fun l => (l.getD 6 []).getD 2 none) kiAll,
      ki_InvalidText_InvalidShape := congrArg (fun l => (l.getD 6 []).getD 3 none) kiAll,
      ki_InvalidText_InvalidJournal := congrArg (fun l => (l.getD 6 []).getD 4 none) kiAll,
      ki_InvalidText_InvalidSighting := congrArg (fun l => (l.getD 6 []).getD 5 none) kiAll,
      ki_InvalidText_InvalidText := congrArg (fun l => (l.getD 6 []).getD 6 none) kiAll,
      ki_InvalidText_InvalidCommand := congrArg (fun l => (l.getD 6 []).getD 7 none) kiAll,
      ki_InvalidText_InvalidNumber := congrArg (fun l => (l.getD 6 []).getD 8 none) kiAll,
      ki_InvalidText_LimitExceeded := congrArg (fun l => (l.getD 6 []).getD 9 none) kiAll,
      ki_InvalidText_UnknownName := congrArg (fun l => (l.getD 6 []).getD 10 none) kiAll,
      ki_InvalidText_Stuck := congrArg (fun l => (l.getD 6 []).getD 11 none) kiAll,
      ki_InvalidText_TooLate := congrArg (fun l => (l.getD 6 []).getD 12 none) kiAll,
      ki_InvalidText_NothingToUndo := congrArg (fun l => (l.getD 6 []).getD 13 none) kiAll,
      ki_InvalidText_TimesError := congrArg (fun l => (l.getD 6 []).getD 14 none) kiAll,
      ki_InvalidText_ValueError := congrArg (fun l => (l.getD 6 []).getD 15 none) kiAll,
      ki_InvalidText_OverflowError := congrArg (fun l => (l.getD 6 []).getD 16 none) kiAll,
      ki_InvalidText_KeyError := congrArg (fun l => (l.getD 6 []).getD 17 none) kiAll,
      ki_InvalidText_RuntimeError := congrArg (fun l => (l.getD 6 []).getD 18 none) kiAll,
      ki_InvalidCommand_InvalidProgram := congrArg (fun l => (l.getD 7 []).getD 0 none) kiAll,
      ki_InvalidCommand_InvalidSetting := congrArg (fun l => (l.getD 7 []).getD 1 none) kiAll,
      ki_InvalidCommand_InvalidRange := congrArg (fun l => (l.getD 7 []).getD 2 none) kiAll,
      ki_InvalidCommand_InvalidShape := congrArg (fun l => (l.getD 7 []).getD 3 none) kiAll,
      ki_InvalidCommand_InvalidJournal := congrArg (fun l => (l.getD 7 []).getD 4 none) kiAll,
      ki_InvalidCommand_InvalidSighting := congrArg (fun l => (l.getD 7 []).getD 5 none) kiAll,
      ki_InvalidCommand_InvalidText := congrArg (fun l => (l.getD 7 []).getD 6 none) kiAll,
      ki_InvalidCommand_InvalidCommand := congrArg (fun l => (l.getD 7 []).getD 7 none) kiAll,
      ki_InvalidCommand_InvalidNumber := congrArg (fun l => (l.getD 7 []).getD 8 none) kiAll,
      ki_InvalidCommand_LimitExceeded := congrArg (fun l => (l.getD 7 []).getD 9 none) kiAll,
      ki_InvalidCommand_UnknownName := congrArg (fun l => (l.getD 7 []).getD 10 none) kiAll,
      ki_InvalidCommand_Stuck := congrArg (fun l => (l.getD 7 []).getD 11 none) kiAll,
      ki_InvalidCommand_TooLate := congrArg (fun l => (l.getD 7 []).getD 12 none) kiAll,
      ki_InvalidCommand_NothingToUndo := congrArg (fun l => (l.getD 7 []).getD 13 none) kiAll,
      ki_InvalidCommand_TimesError := congrArg (fun l => (l.getD 7 []).getD 14 none) kiAll,
      ki_InvalidCommand_ValueError := congrArg (fun l => (l.getD 7 []).getD 15 none) kiAll,
      ki_InvalidCommand_OverflowError := congrArg (fun l => (l.getD 7 []).getD 16 none) kiAll,
      ki_InvalidCommand_KeyError := congrArg (fun l => (l.getD 7 []).getD 17 none) kiAll,
      ki_InvalidCommand_RuntimeError := congrArg (fun l => (l.getD 7 []).getD 18 none) kiAll,
      ki_InvalidNumber_InvalidProgram := congrArg (fun l => (l.getD 8 []).getD 0 none) kiAll,
      ki_InvalidNumber_InvalidSetting := congrArg (fun l => (l.getD 8 []).getD 1 none) kiAll,
      ki_InvalidNumber_InvalidRange := congrArg (fun l => (l.getD 8 []).getD 2 none) kiAll,
      ki_InvalidNumber_InvalidShape := congrArg (fun l => (l.getD 8 []).getD 3 none) kiAll,
      ki_InvalidNumber_InvalidJournal := congrArg (fun l => (l.getD 8 []).getD 4 none) kiAll,
      ki_InvalidNumber_InvalidSighting := congrArg (fun l => (l.getD 8 []).getD 5 none) kiAll,
      ki_InvalidNumber_InvalidText := congrArg (fun l => (l.getD 8 []).getD 6 none) kiAll,
      ki_InvalidNumber_InvalidCommand := congrArg (fun l => (l.getD 8 []).getD 7 none) kiAll,
      ki_InvalidNumber_InvalidNumber := congrArg (fun l => (l.getD 8 []).getD 8 none) kiAll,
      ki_InvalidNumber_LimitExceeded := congrArg (fun l => (l.getD 8 []).getD 9 none) kiAll,
      ki_InvalidNumber_UnknownName := congrArg (fun l => (l.getD 8 []).getD 10 none) kiAll,
      ki_InvalidNumber_Stuck := congrArg (fun l => (l.getD 8 []).getD 11 none) kiAll,
      ki_InvalidNumber_TooLate := congrArg (fun l => (l.getD 8 []).getD 12 none) kiAll,
      ki_InvalidNumber_NothingToUndo := congrArg (fun l => (l.getD 8 []).getD 13 none) kiAll,
      ki_InvalidNumber_TimesError := congrArg (fun l => (l.getD 8 []).getD 14 none) kiAll,
      ki_InvalidNumber_ValueError := congrArg (fun l => (l.getD 8 []).getD 15 none) kiAll,
      ki_InvalidNumber_OverflowError := congrArg (fun l => (l.getD 8 []).getD 16 none) kiAll,
      ki_InvalidNumber_KeyError := congrArg (fun l => (l.getD 8 []).getD 17 none) kiAll,
      ki_InvalidNumber_RuntimeError := congrArg (fun l => (l.getD 8 []).getD 18 none) kiAll,
      ki_LimitExceeded_InvalidProgram := congrArg (fun l => (l.getD 9 []).getD 0 none) kiAll,
      ki_LimitExceeded_InvalidSetting := congrArg (fun l => (l.getD 9 []).getD 1 none) kiAll,
      ki_LimitExceeded_InvalidRange := congrArg (fun l => (l.getD 9 []).getD 2 none) kiAll,
      ki_LimitExceeded_InvalidShape := congrArg (fun l => (l.getD 9 []).getD 3 none) kiAll,
      ki_LimitExceeded_InvalidJournal := congrArg (fun l => (l.getD 9 []).getD 4 none) kiAll,
      ki_LimitExceeded_InvalidSighting := congrArg (fun l => (l.getD 9 []).getD 5 none) kiAll,
      ki_LimitExceeded_InvalidText := congrArg (fun l => (l.getD 9 []).getD 6 none) kiAll,
      ki_LimitExceeded_InvalidCommand := congrArg (fun l => (l.getD 9 []).getD 7 none) kiAll,
      ki_LimitExceeded_InvalidNumber := congrArg (fun l => (l.getD 9 []).getD 8 none) kiAll,
      ki_LimitExceeded_LimitExceeded := congrArg (fun l => (l.getD 9 []).getD 9 none) kiAll,
      ki_LimitExceeded_UnknownName := congrArg (fun l => (l.getD 9 []).getD 10 none) kiAll,
      ki_LimitExceeded_Stuck := congrArg (fun l => (l.getD 9 []).getD 11 none) kiAll,
      ki_LimitExceeded_TooLate := congrArg (fun l => (l.getD 9 []).getD 12 none) kiAll,
      ki_LimitExceeded_NothingToUndo := congrArg (fun l => (l.getD 9 []).getD 13 none) kiAll,
      ki_LimitExceeded_TimesError := congrArg (fun l => (l.getD 9 []).getD 14 none) kiAll,
      ki_LimitExceeded_ValueError := congrArg (fun l => (l.getD 9 []).getD 15 none) kiAll,
      ki_LimitExceeded_OverflowError := congrArg (fun l => (l.getD 9 []).getD 16 none) kiAll,
      ki_LimitExceeded_KeyError := congrArg (fun l => (l.getD 9 []).getD 17 none) kiAll,
      ki_LimitExceeded_RuntimeError := congrArg (fun l => (l.getD 9 []).getD 18 none) kiAll,
      ki_UnknownName_InvalidProgram := congrArg (fun l => (l.getD 10 []).getD 0 none) kiAll,
      ki_UnknownName_InvalidSetting := congrArg (fun l => (l.getD 10 []).getD 1 none) kiAll,
      ki_UnknownName_InvalidRange := congrArg (fun l => (l.getD 10 []).getD 2 none) kiAll,
      ki_UnknownName_InvalidShape := congrArg (fun l => (l.getD 10 []).getD 3 none) kiAll,
      ki_UnknownName_InvalidJournal := congrArg (fun l => (l.getD 10 []).getD 4 none) kiAll,
      ki_UnknownName_InvalidSighting := congrArg (fun l => (l.getD 10 []).getD 5 none) kiAll,
      ki_UnknownName_InvalidText := congrArg (fun l => (l.getD 10 []).getD 6 none) kiAll,
      ki_UnknownName_InvalidCommand := congrArg (fun l => (l.getD 10 []).getD 7 none) kiAll,
      ki_UnknownName_InvalidNumber := congrArg (fun l => (l.getD 10 []).getD 8 none) kiAll,
      ki_UnknownName_LimitExceeded := congrArg (fun l => (l.getD 10 []).getD 9 none) kiAll,
      ki_UnknownName_UnknownName := congrArg (fun l => (l.getD 10 []).getD 10 none) kiAll,
      ki_UnknownName_Stuck := congrArg (fun l => (l.getD 10 []).getD 11 none) kiAll,
      ki_UnknownName_TooLate := congrArg (fun l => (l.getD 10 []).getD 12 none) kiAll,
      ki_UnknownName_NothingToUndo := congrArg (fun l => (l.getD 10 []).getD 13 none) kiAll,
      ki_UnknownName_TimesError := congrArg (fun l => (l.getD 10 []).getD 14 none) kiAll,
      ki_UnknownName_ValueError := congrArg (fun l => (l.getD 10 []).getD 15 none) kiAll,
      ki_UnknownName_OverflowError := congrArg (fun l => (l.getD 10 []).getD 16 none) kiAll,
      ki_UnknownName_KeyError := congrArg (fun l => (l.getD 10 []).getD 17 none) kiAll,
      ki_UnknownName_RuntimeError := congrArg (fun l => (l.getD 10 []).getD 18 none) kiAll,
      ki_Stuck_InvalidProgram := congrArg (fun l => (l.getD 11 []).getD 0 none) kiAll,
      ki_Stuck_InvalidSetting := congrArg (fun l => (l.getD 11 []).getD 1 none) kiAll,
      ki_Stuck_InvalidRange := congrArg (fun l => (l.getD 11 []).getD 2 none) kiAll,
      ki_Stuck_InvalidShape := congrArg (fun l => (l.getD 11 []).getD 3 none) kiAll,
      ki_Stuck_InvalidJournal := congrArg (fun l => (l.getD 11 []).getD 4 none) kiAll,
      ki_Stuck_InvalidSighting := congrArg (fun l => (l.getD 11 []).getD 5 none) kiAll,
      ki_Stuck_InvalidText := congrArg (fun l => (l.getD 11 []).getD 6 none) kiAll,
      ki_Stuck_InvalidCommand := congrArg (fun l => (l.getD 11 []).getD 7 none) kiAll,
      ki_Stuck_InvalidNumber := congrArg (fun l => (l.getD 11 []).getD 8 none) kiAll,
      ki_Stuck_LimitExceeded := congrArg (fun l => (l.getD 11 []).getD 9 none) kiAll,
      ki_Stuck_UnknownName := congrArg (fun l => (l.getD 11 []).getD 10 none) kiAll,
      ki_Stuck_Stuck := congrArg (fun l => (l.getD 11 []).getD 11 none) kiAll,
      ki_Stuck_TooLate := congrArg (fun l => (l.getD 11 []).getD 12 none) kiAll,
      ki_Stuck_NothingToUndo := congrArg (fun l => (l.getD 11 []).getD 13 none) kiAll,
      ki_Stuck_TimesError := congrArg (fun l => (l.getD 11 []).getD 14 none) kiAll,
      ki_Stuck_ValueError := congrArg (fun l => (l.getD 11 []).getD 15 none) kiAll,
      ki_Stuck_OverflowError := congrArg (fun l => (l.getD 11 []).getD 16 none) kiAll,
      ki_Stuck_KeyError := congrArg (fun l => (l.getD 11 []).getD 17 none) kiAll,
      ki_Stuck_RuntimeError := congrArg (fun l => (l.getD 11 []).getD 18 none) kiAll,
      ki_TooLate_InvalidProgram := congrArg (fun l => (l.getD 12 []).getD 0 none) kiAll,
      ki_TooLate_InvalidSetting := congrArg (fun l => (l.getD 12 []).getD 1 none) kiAll,
      ki_TooLate_InvalidRange := congrArg (fun l => (l.getD 12 []).getD 2 none) kiAll,
      ki_TooLate_InvalidShape := congrArg (fun l => (l.getD 12 []).getD 3 none) kiAll,
      ki_TooLate_InvalidJournal := congrArg (fun l => (l.getD 12 []).getD 4 none) kiAll,
      ki_TooLate_InvalidSighting := congrArg (fun l => (l.getD 12 []).getD 5 none) kiAll,
      ki_TooLate_InvalidText := congrArg (fun l => (l.getD 12 []).getD 6 none) kiAll,
      ki_TooLate_InvalidCommand := congrArg (fun l => (l.getD 12 []).getD 7 none) kiAll,
      ki_TooLate_InvalidNumber := congrArg (fun l => (l.getD 12 []).getD 8 none) kiAll,
      ki_TooLate_LimitExceeded := congrArg (fun l => (l.getD 12 []).getD 9 none) kiAll,
      ki_TooLate_UnknownName := congrArg (fun l => (l.getD 12 []).getD 10 none) kiAll,
      ki_TooLate_Stuck := congrArg (fun l => (l.getD 12 []).getD 11 none) kiAll,
      ki_TooLate_TooLate := congrArg (fun l => (l.getD 12 []).getD 12 none) kiAll,
      ki_TooLate_NothingToUndo := congrArg (fun l => (l.getD 12 []).getD 13 none) kiAll,
      ki_TooLate_TimesError := congrArg (fun l => (l.getD 12 []).getD 14 none) kiAll,
      ki_TooLate_ValueError := congrArg (fun l => (l.getD 12 []).getD 15 none) kiAll,
      ki_TooLate_OverflowError := congrArg (fun l => (l.getD 12 []).getD 16 none) kiAll,
      ki_TooLate_KeyError := congrArg (fun l => (l.getD 12 []).getD 17 none) kiAll,
      ki_TooLate_RuntimeError := congrArg (fun l => (l.getD 12 []).getD 18 none) kiAll,
      ki_NothingToUndo_InvalidProgram := congrArg (fun l => (l.getD 13 []).getD 0 none) kiAll,
      ki_NothingToUndo_InvalidSetting := congrArg (fun l => (l.getD 13 []).getD 1 none) kiAll,
      ki_NothingToUndo_InvalidRange := congrArg (fun l => (l.getD 13 []).getD 2 none) kiAll,
      ki_NothingToUndo_InvalidShape := congrArg (fun l => (l.getD 13 []).getD 3 none) kiAll,
      ki_NothingToUndo_InvalidJournal := congrArg (fun l => (l.getD 13 []).getD 4 none) kiAll,
      ki_NothingToUndo_InvalidSighting := congrArg (fun l => (l.getD 13 []).getD 5 none) kiAll,
      ki_NothingToUndo_InvalidText := congrArg (fun l => (l.getD 13 []).getD 6 none) kiAll,
      ki_NothingToUndo_InvalidCommand := congrArg (fun l => (l.getD 13 []).getD 7 none) kiAll,
      ki_NothingToUndo_InvalidNumber := congrArg (fun l => (l.getD 13 []).getD 8 none) kiAll,
      ki_NothingToUndo_LimitExceeded := congrArg (fun l => (l.getD 13 []).getD 9 none) kiAll,
      ki_NothingToUndo_UnknownName := congrArg (fun l => (l.getD 13 []).getD 10 none) kiAll,
      ki_NothingToUndo_Stuck := congrArg (fun l => (l.getD 13 []).getD 11 none) kiAll,
      ki_NothingToUndo_TooLate := congrArg (fun l => (l.getD 13 []).getD 12 none) kiAll,
      ki_NothingToUndo_NothingToUndo := congrArg (fun l => (l.getD 13 []).getD 13 none) kiAll,
      ki_NothingToUndo_TimesError := congrArg (fun l => (l.getD 13 []).getD 14 none) kiAll,
      ki_NothingToUndo_ValueError := congrArg (fun l => (l.getD 13 []).getD 15 none) kiAll,
      ki_NothingToUndo_OverflowError := congrArg (fun l => (l.getD 13 []).getD 16 none) kiAll,
      ki_NothingToUndo_KeyError := congrArg (fun l => (l.getD 13 []).getD 17 none) kiAll,
      ki_NothingToUndo_RuntimeError := congrArg (fun l => (l.getD 13 []).getD 18 none) kiAll,
      f__law_numbers := _, d__law_numbers := _, F__law_numbers := F_xlawnumbers, g__law_numbers := PySem.W.mg_of X G a_xlawnumbers, n__law_numbers := b_xlawnumbers, k__law_numbers := k_xlawnumbers,
      f__law_draw := _, d__law_draw := _, F__law_draw := F_xlawdraw, g__law_draw := PySem.W.mg_of X G a_xlawdraw, n__law_draw := b_xlawdraw, k__law_draw := k_xlawdraw,
      f__law_kinds := _, d__law_kinds := _, F__law_kinds := F_xlawkinds, g__law_kinds := PySem.W.mg_of X G a_xlawkinds, n__law_kinds := b_xlawkinds, k__law_kinds := k_xlawkinds,
      f__law_bases := _, d__law_bases := _, F__law_bases := F_xlawbases, g__law_bases := PySem.W.mg_of X G a_xlawbases, n__law_bases := b_xlawbases, k__law_bases := k_xlawbases,
      f__law_made := _, d__law_made := _, F__law_made := F_xlawmade, g__law_made := PySem.W.mg_of X G a_xlawmade, n__law_made := b_xlawmade, k__law_made := k_xlawmade,
      f__law_named := _, d__law_named := _, F__law_named := F_xlawnamed, g__law_named := PySem.W.mg_of X G a_xlawnamed, n__law_named := b_xlawnamed, k__law_named := k_xlawnamed,
      f__law_fields := _, d__law_fields := _, F__law_fields := F_xlawfields, g__law_fields := PySem.W.mg_of X G a_xlawfields, n__law_fields := b_xlawfields, k__law_fields := k_xlawfields,
      f__law_raised := _, d__law_raised := _, F__law_raised := F_xlawraised, g__law_raised := PySem.W.mg_of X G a_xlawraised, n__law_raised := b_xlawraised, k__law_raised := k_xlawraised,
      f_law := _, d_law := _, F_law := F_xlaw, g_law := PySem.W.mg_of X G a_xlaw, n_law := b_xlaw, k_law := k_xlaw,
      b_KeyError := PySem.W.mg_none_of X G z_KeyError, b_OverflowError := PySem.W.mg_none_of X G z_OverflowError, b_RuntimeError := PySem.W.mg_none_of X G z_RuntimeError, b_ValueError := PySem.W.mg_none_of X G z_ValueError, b_enumerate := PySem.W.mg_none_of X G z_enumerate, b_int := PySem.W.mg_none_of X G z_int, b_isinstance := PySem.W.mg_none_of X G z_isinstance, b_len := PySem.W.mg_none_of X G z_len, b_max := PySem.W.mg_none_of X G z_max, b_range := PySem.W.mg_none_of X G z_range, b_repr := PySem.W.mg_none_of X G z_repr }
  exact ok_law G9
end K01
end
section
namespace K01
open PySem L2 VL
theorem log_le {a b : Nat} (h : a < 2 ^ b) (hb : 0 < b) : a.log2 < b := PySem.Flt.log2_lt_of hb h

/-! ### loops over a range -/
theorem for_rng {n : Nat} {lo : Int} {s : Nat} {b : MS} (I : Nat → Ws → Hv → Prop) (step : ∀ i r h, i < n → I i r h → ∃ r' h', b (r.set s (some (.int (lo + i)))) h = .nx r' h' ∧ I (i + 1) r' h') :
    ∀ (k i : Nat) (r : Ws) (h : Hv), i + k = n → I i r h → ∃ r' h', VL.forM (nxR lo n) (mGn s) b (k + 1) i r h = .nx r' h' ∧ I n r' h'
  | 0, i, r, h, hk, hi => by
    have e : i = n := by omega
    subst e
    refine ⟨r, h, ?_, hi⟩
    unfold VL.forM
    simp [nxR]
  | k + 1, i, r, h, hk, hi => by
    obtain ⟨r1, h1, e1, i1⟩ := step i r h (by omega) hi
    obtain ⟨r2, h2, e2, i2⟩ := for_rng I step k (i + 1) r1 h1 (by omega) i1
    refine ⟨r2, h2, ?_, i2⟩
    unfold VL.forM
    simp only [nxR, show i < n by omega, if_true, mGn_eq, e1]
    exact e2

/-! ### the drawn numbers -/
def IsI (w : W) : Prop := ∃ i : Int, w = .int i
theorem app_last {h : Hv} {r : Ws} {acc : List W} {w : W} {fo fe : Ws → Hv → Res W} (hl : acc.length < 100000) (e1 : fo r (h ++ [.lst acc]) = .val (.ref h.length) (h ++ [.lst acc])) (e2 : fe r (h ++ [.lst acc]) = .val w (h ++ [.lst acc])) :
    mApp fo fe r (h ++ [.lst acc]) = .val .non (h ++ [.lst (acc ++ [w])]) := by
  have s : (h ++ [O.lst acc]).set h.length (.lst (acc ++ [w])) = h ++ [.lst (acc ++ [w])] := by simp
  simp [mApp, e1, e2, hl, s]
theorem sz_at {h t : Hv} {p : Nat} {m : Nat} {i : Nat} (e : h[p]? = some (.lst (List.replicate m (.int 420)))) (hi : i < m) : mIx (.ref p) (.int (i : Int)) (h ++ t) = .val (.int 420) (h ++ t) :=
  mIx_lst (get_old e) (atI_nat (by simp [hi]))
theorem mul64 {i j : Int} {h : Hv} (h1 : i.natAbs < 2 ^ 64) (h2 : j.natAbs < 2 ^ 64) : mMul (.int i) (.int j) h = .val (.int (i * j)) h := mMul_int (by have := log_le h1 (by decide); have := log_le h2 (by decide); omega)
theorem fmod_in (a : Int) {b : Int} (hb : 0 < b) : 0 ≤ a.fmod b ∧ a.fmod b < b := ⟨Int.fmod_nonneg_of_pos a hb, Int.fmod_lt_of_pos a hb⟩
theorem mod420 {i : Int} {h : Hv} : mMod (.int i) (.int 420) h = .val (.int (i.fmod 420)) h := mMod_int (by decide)
theorem div420 {i : Int} {h : Hv} : mDiv (.int i) (.int 420) h = .val (.int (i.fdiv 420)) h := mDiv_int (by decide) (by decide +kernel)
theorem div16 {i : Int} {h : Hv} : mDiv (.int i) (.int 16) h = .val (.int (i.fdiv 16)) h := mDiv_int (by decide) (by decide +kernel)
theorem modM {i : Int} {h : Hv} : mMod (.int i) (.int 2147483629) h = .val (.int (i.fmod 2147483629)) h := mMod_int (by decide)
theorem modN {i : Int} {h : Hv} : mMod (.int i) (.int 2147483647) h = .val (.int (i.fmod 2147483647)) h := mMod_int (by decide)
theorem pow18 {h : Hv} : mPow (.int 10) (.int 18) h = .val (.int 1000000000000000000) h := mPow_int (by decide) (by decide) (by decide)
theorem pow64 {i : Int} {j : Nat} {h : Hv} (h1 : i.natAbs < 2 ^ 64) (hj : j ≤ 1000) : mPow (.int i) (.int (j : Int)) h = .val (.int (i ^ j)) h := by
  have := mPow_int (i := i) (j := (j : Int)) (h := h) (by omega) (by omega) h1
  simpa using this
abbrev numBody : MS := (mIfS (mAndT (mT (m2 mGe (mVar 3) (m2 mPow (mC (.int 10)) (mC (.int 18))))) (mT (m2 mGt (mVar 4) (mC (.int 0))))) (mSeq (mExpr (mApp (mVar 5) (m2 mMod (mVar 4) (m2 mIx (mVar 2) (mVar 6)))))
    (mSet 4 (m2 mDiv (mVar 4) (m2 mIx (mVar 2) (mVar 6))))) (mSeq (mSet 7 (m2 mMod (m2 mPow (m2 mAdd (m2 mAdd (m2 mMod (mVar 3) (mC (.int 2147483629))) (m2 mMul (mC (.int 7919)) (mVar 1))) (mC (.int 1))) (mC (.int 3))) (mC (.int 2147483647))))
    (mSeq (mSet 7 (m2 mMod (m2 mMul (m2 mAdd (mVar 7) (m2 mMul (mC (.int 104729)) (m2 mAdd (mVar 6) (mC (.int 1))))) (m2 mAdd (mVar 6) (mC (.int 3)))) (mC (.int 2147483629))))
    (mSeq (mSet 7 (m2 mMod (m2 mMul (m2 mMod (m2 mPow (mVar 7) (mC (.int 5))) (mC (.int 2147483647))) (mC (.int 48271))) (mC (.int 2147483629))))
    (mExpr (mApp (mVar 5) (m2 mMod (m2 mDiv (mVar 7) (mC (.int 16))) (m2 mIx (mVar 2) (mVar 6)))))))))
abbrev numEnv (cell salt : Int) (p : Nat) (wh lf : Int) (q : Nat) (kk on : Option W) : Ws := [some (.int cell), some (.int salt), some (.ref p), some (.int wh), some (.int lf), some (.ref q), kk, on]
theorem num_big {h : Hv} {p m i : Nat} {cell salt wh lf : Int} {on : Option W} {acc : List W} (e : h[p]? = some (.lst (List.replicate m (.int 420)))) (hi : i < m) (al : acc.length < 100000) (c1 : (1000000000000000000 : Int) ≤ wh) (c2 : 0 < lf) :
    numBody (numEnv cell salt p wh lf h.length (some (.int i)) on) (h ++ [.lst acc]) = .nx (numEnv cell salt p wh (lf.fdiv 420) h.length (some (.int i)) on) (h ++ [.lst (acc ++ [.int (lf.fmod 420)])]) := by
  have ix := sz_at (t := [.lst acc]) e hi
  have ix2 := sz_at (t := [.lst (acc ++ [.int (lf.fmod 420)])]) e hi
  have ap : mApp (mVar 5) (m2 mMod (mVar 4) (m2 mIx (mVar 2) (mVar 6))) (numEnv cell salt p wh lf h.length (some (.int i)) on) (h ++ [.lst acc]) = .val .non (h ++ [.lst (acc ++ [.int (lf.fmod 420)])]) :=
    app_last al (by simp [numEnv]) (by simp [numEnv, ix, mod420])
  simp only [numEnv] at ap
  simp [numEnv, numBody, pow18, c1, c2, ap, ix2, div420]
theorem num_small {h : Hv} {p m i : Nat} {cell salt wh lf : Int} {on : Option W} {acc : List W} (e : h[p]? = some (.lst (List.replicate m (.int 420)))) (hi : i < m) (hm : m ≤ 1000) (al : acc.length < 100000) (s0 : 0 ≤ salt) (s1 : salt ≤ 100000) (c : ¬ ((1000000000000000000 : Int) ≤ wh ∧ 0 < lf)) :
    ∃ v o : Int, numBody (numEnv cell salt p wh lf h.length (some (.int i)) on) (h ++ [.lst acc]) = .nx (numEnv cell salt p wh lf h.length (some (.int i)) (some (.int o))) (h ++ [.lst (acc ++ [.int v])]) := by
  have ix := sz_at (t := [.lst acc]) e hi
  obtain ⟨a1, a2⟩ := fmod_in wh (show (0 : Int) < 2147483629 by decide)
  have b1 : (wh.fmod 2147483629 + 7919 * salt + 1).natAbs < 2 ^ 64 := by omega
  generalize hx : ((wh.fmod 2147483629 + 7919 * salt + 1) ^ 3).fmod 2147483647 = x
  obtain ⟨x1, x2⟩ := fmod_in ((wh.fmod 2147483629 + 7919 * salt + 1) ^ 3) (show (0 : Int) < 2147483647 by decide)
  rw [hx] at x1 x2
  generalize hy : ((x + 104729 * ((i : Int) + 1)) * ((i : Int) + 3)).fmod 2147483629 = y
  obtain ⟨y1, y2⟩ := fmod_in ((x + 104729 * ((i : Int) + 1)) * ((i : Int) + 3)) (show (0 : Int) < 2147483629 by decide)
  rw [hy] at y1 y2
  obtain ⟨z1, z2⟩ := fmod_in (y ^ 5) (show (0 : Int) < 2147483647 by decide)
  have t1 : (if (1000000000000000000 : Int) ≤ wh then decide (0 < lf) else false) = false := by
    split
    · rename_i q
      exact decide_eq_false fun z => c ⟨q, z⟩
    · rfl
  refine ⟨(((((y ^ 5).fmod 2147483647) * 48271).fmod 2147483629).fdiv 16).fmod 420, (((y ^ 5).fmod 2147483647) * 48271).fmod 2147483629, ?_⟩
  have p3 := pow64 (h := h ++ [.lst acc]) b1 (show 3 ≤ 1000 by decide)
  have p5 := pow64 (i := y) (h := h ++ [.lst acc]) (by omega) (show 5 ≤ 1000 by decide)
  have q1 := mul64 (i := 7919) (j := salt) (h := h ++ [.lst acc]) (by decide) (by omega)
  have q2 := mul64 (i := 104729) (j := (i : Int) + 1) (h := h ++ [.lst acc]) (by decide) (by omega)
  have q3 := mul64 (i := x + 104729 * ((i : Int) + 1)) (j := (i : Int) + 3) (h := h ++ [.lst acc]) (by omega) (by omega)
  have q4 := mul64 (i := (y ^ 5).fmod 2147483647) (j := 48271) (h := h ++ [.lst acc]) (by omega) (by decide)
  have p3' : mPow (.int (wh.fmod 2147483629 + 7919 * salt + 1)) (.int 3) (h ++ [.lst acc]) = .val (.int ((wh.fmod 2147483629 + 7919 * salt + 1) ^ 3)) (h ++ [.lst acc]) := p3
  have p5' : mPow (.int y) (.int 5) (h ++ [.lst acc]) = .val (.int (y ^ 5)) (h ++ [.lst acc]) := p5
  have ap : ∀ o : Int, mApp (mVar 5) (m2 mMod (m2 mDiv (mVar 7) (mC (.int 16))) (m2 mIx (mVar 2) (mVar 6))) (numEnv cell salt p wh lf h.length (some (.int i)) (some (.int o))) (h ++ [.lst acc]) = .val .non (h ++ [.lst (acc ++ [.int ((o.fdiv 16).fmod 420)])]) := fun o =>
    app_last al (by simp [numEnv]) (by simp [numEnv, ix, mod420, div16])
  have t2 : (mAndT (mT (m2 mGe (mVar 3) (m2 mPow (mC (.int 10)) (mC (.int 18))))) (mT (m2 mGt (mVar 4) (mC (.int 0))))) (numEnv cell salt p wh lf h.length (some (.int i)) on) (h ++ [.lst acc]) = .val false (h ++ [.lst acc]) := by
    by_cases q : (1000000000000000000 : Int) ≤ wh
    · have : ¬ 0 < lf := fun z => c ⟨q, z⟩
      simp [numEnv, pow18, q, this]
    · simp [numEnv, pow18, q]
  simp only [numBody, mIfS_eq, t2, andS_val, mSeq_eq]
  simp only [mSet_eq, m2_eq, mVar0, mVarS, bind_val, mC_eq, modM, modN, q1, mAdd_int, p3', hx, andS_val, thenS_nx, mSeq_eq, List.set, q2, q3, hy, p5', q4, mExpr_eq]
  simp only [if_false, Bool.false_eq_true, andS_val, thenS_nx, List.set, mSeq_eq, mSet_eq, m2_eq, mVar0, mVarS, bind_val, mC_eq, modM, modN, q1, mAdd_int, p3', hx, q2, q3, hy, p5', q4, mExpr_eq]
  have ap1 := ap ((((y ^ 5).fmod 2147483647) * 48271).fmod 2147483629)
  rw [ap1]
  rfl
theorem rgB_small {m : Nat} (hm : m ≤ 1000) : rgB (m : Int) = true := by
  unfold rgB
  rw [Bool.and_eq_true]
  exact ⟨decide_eq_true (by omega), decide_eq_true (by omega)⟩
theorem src_rng {m : Nat} {g : Hv} (hm : m ≤ 1000) : srcR [.int (m : Int)] g = .val ⟨m + 1, nxR 0 m⟩ g := by
  have e : srcR [.int (m : Int)] g = (if rgB (m : Int) then .val ⟨(m : Int).toNat + 1, nxR 0 (m : Int).toNat⟩ g else .bad) := by simp only [srcR]
  rw [e, if_pos (rgB_small hm), Int.toNat_natCast]
theorem mRng_of {m : Nat} {g : Hv} {r : Ws} {f : Ws → Hv → Res (List W)} (hm : m ≤ 1000) (el : f r g = .val [.int (m : Int)] g) : mRng f r g = .val ⟨m + 1, nxR 0 m⟩ g := by
  unfold mRng
  rw [el, bind_val, src_rng hm]
theorem numbers_run {h : Hv} {p m : Nat} {cell salt wh lf : Int} {kk on : Option W} {acc : List W} (e : h[p]? = some (.lst (List.replicate m (.int 420)))) (hm : m ≤ 1000)
    (e1 : VL.forM (nxR 0 m) (mGn 6) numBody (m + 1) 0 (numEnv cell salt p (max cell (-1 - cell)) (max cell (-1 - cell)) h.length none none) (h ++ [.lst []]) = .nx (numEnv cell salt p wh lf h.length kk on) (h ++ [.lst acc])) :
    m__law_numbers [.int cell, .int salt, .ref p] h = .val (.ref h.length) (h ++ [.lst acc]) := by
  have el : mLen [.ref p] (h ++ [.lst []]) = .val (.int m) (h ++ [.lst []]) := by
    simp [mLen, get_old e]
  have rg : rgB (m : Int) = true := rgB_small hm
  have z : (m : Int).toNat = m := by omega
  have fr : mFor (mRng (mCons (mB mLen (mCons (mVar 2) mNil)) mNil)) (mGn 6) numBody (numEnv cell salt p (max cell (-1 - cell)) (max cell (-1 - cell)) h.length none none) (h ++ [.lst []]) = .nx (numEnv cell salt p wh lf h.length kk on) (h ++ [.lst acc]) := by
    have src : mRng (mCons (mB mLen (mCons (mVar 2) mNil)) mNil) (numEnv cell salt p (max cell (-1 - cell)) (max cell (-1 - cell)) h.length none none) (h ++ [.lst []]) = .val ⟨m + 1, nxR 0 m⟩ (h ++ [.lst []]) :=
      mRng_of hm (by simp only [mCons_eq, mB_eq, mVarS, mVar0, mNil_eq, bind_val, el])
    unfold mFor
    rw [src, andS_val]
    exact e1
  unfold m__law_numbers
  rw [mDef_eq]
  simp only [mSeq_eq]
  have st1 : (mSet 3 (mB mMax (mCons (mVar 0) (mCons (m2 mSub (m1 mNeg (mC (.int 1))) (mVar 0)) mNil)))) (startW ["_law_cell", "_law_salt", "_law_sizes", "_law_whole", "_law_left", "_law_result", "_law_k", "_law_one"] [.int cell, .int salt, .ref p]) h = .nx [some (.int cell), some (.int salt), some (.ref p), some (.int (max cell (-1 - cell))), none, none, none, none] h := by
    simp [startW]
  rw [st1, thenS_nx]
  simp only [mSeq_eq, mSet_eq, mVarS, mVar0, andS_val, thenS_nx, List.set, mLst_eq, mNil_eq, bind_val, List.length_nil, Nat.zero_le, if_true, mNew_eq]
  show endS (thenS (mFor _ _ numBody (numEnv cell salt p (max cell (-1 - cell)) (max cell (-1 - cell)) h.length none none) (h ++ [.lst []])) _) = _
  rw [fr]
  rfl
theorem numbers_ok {h : Hv} {p m : Nat} {cell salt : Int} (e : h[p]? = some (.lst (List.replicate m (.int 420)))) (hm : m ≤ 1000) (s0 : 0 ≤ salt) (s1 : salt ≤ 100000) :
    ∃ acc, m__law_numbers [.int cell, .int salt, .ref p] h = .val (.ref h.length) (h ++ [.lst acc]) ∧ ∀ w ∈ acc, IsI w := by
  have lp := for_rng (n := m) (lo := 0) (s := 6) (b := numBody) (fun i r g => ∃ (wh lf : Int) (kk on : Option W) (acc : List W), r = numEnv cell salt p wh lf h.length kk on ∧ g = h ++ [.lst acc] ∧ acc.length = i ∧ ∀ w ∈ acc, IsI w) ?_
  · obtain ⟨r', g', e1, wh, lf, kk, on, acc, rfl, rfl, hl, ha⟩ := lp m 0 (numEnv cell salt p (max cell (-1 - cell)) (max cell (-1 - cell)) h.length none none) (h ++ [.lst []]) (by omega) ⟨_, _, none, none, [], rfl, rfl, rfl, by simp⟩
    exact ⟨acc, numbers_run e hm e1, ha⟩
  · rintro i r g hi ⟨wh, lf, kk, on, acc, rfl, rfl, hl, ha⟩
    have al : acc.length < 100000 := by omega
    have zi : (0 : Int) + (i : Int) = (i : Int) := by omega
    have se : (numEnv cell salt p wh lf h.length kk on).set 6 (some (.int (0 + (i : Int)))) = numEnv cell salt p wh lf h.length (some (.int i)) on := by rw [zi]; rfl
    rw [se]
    have mem : ∀ v : Int, ∀ w ∈ acc ++ [W.int v], IsI w := fun v w hw => by
      rcases List.mem_append.mp hw with q | q
      · exact ha w q
      · exact ⟨v, List.mem_singleton.mp q⟩
    by_cases c : (1000000000000000000 : Int) ≤ wh ∧ 0 < lf
    · exact ⟨_, _, num_big e hi al c.1 c.2, wh, _, _, on, _, rfl, rfl, by simp [hl], mem _⟩
    · obtain ⟨v, o, q⟩ := num_small (cell := cell) (on := on) e hi hm al s0 s1 c
      exact ⟨_, _, q, wh, lf, _, _, _, rfl, rfl, by simp [hl], mem _⟩

/-! ### the state -/
/-- at p a state: a list of a list of ints and a place -/
def Sta (h : Hv) (p : Nat) : Prop := ∃ (q : Nat) (at_ : Nat) (nums : List W), h[p]? = some (.lst [.ref q, .int at_]) ∧ p ≠ q ∧ h[q]? = some (.lst nums) ∧ ∀ w ∈ nums, IsI w
/-- what a piece that draws leaves: the state, and all else as it was -/
structure Go (p : Nat) (h h' : Hv) : Prop where
  st : Sta h' p
  ln : h.length ≤ h'.length
  kp : ∀ i o, i ≠ p → h[i]? = some o → h'[i]? = some o
theorem Go.refl {p : Nat} {h : Hv} (s : Sta h p) : Go p h h := ⟨s, Nat.le_refl _, fun _ _ _ e => e⟩
theorem Go.trans {p : Nat} {h h1 h2 : Hv} (a : Go p h h1) (b : Go p h1 h2) : Go p h h2 := ⟨b.st, Nat.le_trans a.ln b.ln, fun i o n e => b.kp i o n (a.kp i o n e)⟩
theorem Sta.more {p : Nat} {h : Hv} (s : Sta h p) (t : Hv) : Sta (h ++ t) p := by
  obtain ⟨q, k, nums, e1, ne, e2, hn⟩ := s
  exact ⟨q, k, nums, get_old e1, ne, get_old e2, hn⟩
theorem Go.more {p : Nat} {h h1 : Hv} (a : Go p h h1) (t : Hv) : Go p h (h1 ++ t) := ⟨a.st.more t, by simp; have := a.ln; omega, fun i o n e => get_old (a.kp i o n e)⟩
theorem Sta.lt {p : Nat} {h : Hv} (s : Sta h p) : p < h.length := by
  obtain ⟨q, k, nums, e1, _⟩ := s
  exact (List.getElem?_eq_some_iff.mp e1).1
theorem draw_ok {h : Hv} {p : Nat} {many : Int} (s : Sta h p) (hm : 0 < many) : ∃ v h', m__law_draw [.ref p, .int many] h = .val (.int v) h' ∧ 0 ≤ v ∧ v < many ∧ Go p h h' := by
  obtain ⟨q, k, nums, e1, ne, e2, hn⟩ := s
  have hp : p < h.length := (List.getElem?_eq_some_iff.mp e1).1
  have s1 : (h.set p (.lst [.ref q, .int ((k : Int) + 1)]))[p]? = some (.lst [.ref q, .int ((k : Int) + 1)]) := List.getElem?_set_self hp
  have s2 : (h.set p (.lst [.ref q, .int ((k : Int) + 1)]))[q]? = some (.lst nums) := by rw [List.getElem?_set_ne ne]; exact e2
  have go : Go p h (h.set p (.lst [.ref q, .int ((k : Int) + 1)])) := ⟨⟨q, k + 1, nums, by simpa using s1, ne, s2, hn⟩, by simp, fun i o n e => by rw [List.getElem?_set_ne (Ne.symm n)]; exact e⟩
  have ix1 : mIx (.ref p) (.int 1) h = .val (.int k) h := mIx_lst e1 atI1
  have x0 : mIx (.ref p) (.int 0) (h.set p (.lst [.ref q, .int ((k : Int) + 1)])) = .val (.ref q) (h.set p (.lst [.ref q, .int ((k : Int) + 1)])) := mIx_lst s1 atI0
  have ln : mLen [.ref q] (h.set p (.lst [.ref q, .int ((k : Int) + 1)])) = .val (.int nums.length) (h.set p (.lst [.ref q, .int ((k : Int) + 1)])) := by simp [mLen, s2]
  have n1 : ixN 2 1 = some 1 := by decide
  have m0 : many ≠ 0 := by omega
  by_cases hk : k < nums.length
  · obtain ⟨z, hz⟩ := hn nums[k] (List.getElem_mem hk)
    have xk : mIx (.ref q) (.int k) (h.set p (.lst [.ref q, .int ((k : Int) + 1)])) = .val (.int z) (h.set p (.lst [.ref q, .int ((k : Int) + 1)])) := mIx_lst s2 (atI_nat (by simp [hk, hz]))
    obtain ⟨f1, f2⟩ := fmod_in z hm
    refine ⟨_, _, ?_, f1, f2, go⟩
    simp [m__law_draw, mDef_eq, startW, ix1, mAsg, mSub1, e1, n1, x0, ln, hk, xk, mMod_int m0]
  · refine ⟨0, _, ?_, Int.le_refl _, hm, go⟩
    simp [m__law_draw, mDef_eq, startW, ix1, mAsg, mSub1, e1, n1, x0, ln, hk]
end K01
end
section
namespace K01
open PySem L2 VL
/-! ### the tail for a whole number -/
def resR : ResS → Ws
  | .nx r _ => r
  | _ => []
def resH : ResS → Hv
  | .nx _ h => h
  | _ => []
def resG : Res W → Hv
  | .val _ h => h
  | _ => []
abbrev tEn (w : W) : Ws := [none, none, none, none, some w, none, none, none, none, none, none, none]
def H1 (n : Int) : Hv := resH (lT0 (tEn (.int n)) [])
abbrev E0 (n : Int) : Ws := [none, none, none, none, some (.int n), some (.ref 32), none, none, none, none, none, none]
abbrev E1 (n : Int) : Ws := [none, none, none, none, some (.int n), some (.ref 32), some (.int 13), some (.ref 30), none, none, none, none]
theorem s0_eq (n : Int) : lT0 (tEn (.int n)) [] = .nx (E0 n) (H1 n) := by kernel_rfl
theorem s1_eq (n : Int) : lT1 (E0 n) (H1 n) = .nx (E1 n) (H1 n) := by kernel_rfl
abbrev mA : Ws → Hv → Res W := (m2 mAdd (mCall 1 m__law_fields (mCons (mVar 5) mNil)) (mCall 1 m__law_fields (mCons (mCall 1 m__law_named (mCons (mVar 4) mNil)) mNil)))
def HA (n : Int) : Hv := resG (mA (E1 n) (H1 n))
theorem a_eq (n : Int) : mA (E1 n) (H1 n) = .val (.ref 78) (HA n) := by kernel_rfl
theorem a_at (n : Int) : (HA n)[78]? = some (.lst (List.replicate 28 (.int n))) := by kernel_rfl
theorem a_len (n : Int) : (HA n).length = 79 := by kernel_rfl
theorem a_take (n : Int) : (HA n).take 33 = H1 n := by kernel_rfl
theorem h1_len (n : Int) : (H1 n).length = 33 := by kernel_rfl
theorem h1_closed (n : Int) : (H1 n).all (closedO 33) = true := by kernel_rfl
theorem e1_drop (n : Int) : dropR 33 (E1 n) = E1 n := by kernel_rfl
/-! ### its texts -/
abbrev fRep : Ws → Hv → Res W := mB mReprE (mCons (mVar 9) mNil)
theorem comp_rep {n : Int} {S : Str} {r : Ws} {h : Hv} (hr : ∀ g, mReprE [.int n] g = .val (.str S) g) (hl : 9 < r.length) (e : h[78]? = some (.lst (List.replicate 28 (.int n)))) : ∀ (k i : Nat) (acc : List W), i + k = 28 → acc.length = i →
    compM (nxSeq 78) 9 mYes fRep h.length (k + 1) i r (h ++ [.lst acc]) = .val (.ref h.length) (h ++ [.lst (acc ++ List.replicate k (.str S))])
  | 0, i, acc, hk, ha => by
    have ei : i = 28 := by omega
    subst ei
    have g : nxSeq 78 28 (h ++ [.lst acc]) = .stop := by
      simp only [nxSeq, get_old e]
      rfl
    unfold compM
    simp only [g, List.replicate_zero, List.append_nil]
  | k + 1, i, acc, hk, ha => by
    have hi : i < 28 := by omega
    have g : nxSeq 78 i (h ++ [.lst acc]) = .item (.int n) (h ++ [.lst acc]) := by
      simp only [nxSeq, get_old e, List.getElem?_replicate, hi, if_true]
    have v9 : mVar 9 (r.set 9 (some (.int n))) (h ++ [.lst acc]) = .val (.int n) (h ++ [.lst acc]) := by
      unfold mVar
      rw [List.getElem?_set_self hl]
    have f9 : fRep (r.set 9 (some (.int n))) (h ++ [.lst acc]) = .val (.str S) (h ++ [.lst acc]) := by
      simp only [fRep, mB_eq, mCons_eq, v9, bind_val, mNil_eq, hr]
    have ih := comp_rep hr hl e k (i + 1) (acc ++ [.str S]) (by omega) (by simp [ha])
    have st : (h ++ [O.lst acc]).set h.length (.lst (acc ++ [.str S])) = h ++ [.lst (acc ++ [.str S])] := by
      simp
    unfold compM
    simp only [g, mYes, noX, bind_val, if_true, f9, get_last, show acc.length < 100000 by omega, st]
    rw [ih, List.append_assoc]
    rfl
theorem lay_strs {S : Str} (hS : PyData.strOk S = true) : ∀ k : Nat, PyData.canLayAll0 (List.replicate k (PyData.str S)) = true
  | 0 => rfl
  | k + 1 => by
    have ih := lay_strs (S := S) hS k
    simp [List.replicate_succ, PyData.canLayAll0, PyData.canLay0, ih, hS]
theorem deep_strs {S : Str} : ∀ k : Nat, PyData.depthAll (List.replicate k (PyData.str S)) = 0
  | 0 => rfl
  | k + 1 => by
    have ih := deep_strs (S := S) k
    simp [List.replicate_succ, PyData.depthAll, PyData.depth, ih]
theorem toD_strs {m : Nat} {h : Hv} {S : Str} : ∀ k : Nat, optAll (toD (m + 1) h) (List.replicate k (.str S)) = some (List.replicate k (PyData.str S))
  | 0 => rfl
  | k + 1 => by
    have ih := toD_strs (m := m) (h := h) (S := S) k
    simp only [List.replicate_succ, optAll, ih]
    rfl
theorem toD_at {h : Hv} {p k : Nat} {S : Str} (e : h[p]? = some (.lst (List.replicate k (.str S)))) : toD dF h (.ref p) = some (.list (List.replicate k (PyData.str S))) := by
  obtain ⟨m, hm⟩ : ∃ m, dF = m + 2 := ⟨dF - 2, by decide⟩
  rw [hm]
  have ti := toD_strs (m := m) (h := h) (S := S) k
  simp only [toD, e]
  exact congrArg (Option.map PyData.list) ti
theorem ne_strs {h : Hv} {p q k : Nat} {S : Str} (hS : PyData.strOk S = true) (e1 : h[p]? = some (.lst (List.replicate k (.str S)))) (e2 : h[q]? = some (.lst (List.replicate k (.str S)))) : mEq true (.ref p) (.ref q) h = .val (.bl false) h := by
  have l1 := lay_strs (S := S) hS k
  have d1 := deep_strs (S := S) k
  have c1 : (PyData.list (List.replicate k (PyData.str S))).canLay0 = true := by simp [PyData.canLay0, l1]
  have sh : SeqAt.shaped (.list (List.replicate k (PyData.str S))) = true := by simp [SeqAt.shaped, c1, PyData.depth, d1]
  have er := PySem.SeqAt.eqv_refl (PyData.list (List.replicate k (PyData.str S))) c1
  simp only [mEq, toD_at e1, toD_at e2, sh, Bool.and_self, if_true, er, Bool.not_true]
theorem s2_eq {n : Int} {S : Str} (hr : ∀ g, mReprE [.int n] g = .val (.str S) g) (hS : PyData.strOk S = true) : lT2 (E1 n) (H1 n) = .nx (E1 n) (H1 n) := by
  have src : mSrc mA (E1 n) (H1 n) = .val ⟨29, nxSeq 78⟩ (HA n) := by
    unfold mSrc
    rw [a_eq, bind_val]
    simp only [srcOf, a_at, List.length_replicate]
  have cm := comp_rep (n := n) (r := E1 n) (h := HA n) hr (by simp) (a_at n) 28 0 [] (by decide) rfl
  have lc : mLc (mSrc mA) 9 mYes fRep (E1 n) (H1 n) = .val (.ref (HA n).length) (HA n ++ [.lst (List.replicate 28 (.str S))]) := by
    unfold mLc
    rw [src, bind_val]
    exact cm
  let h2 : Hv := HA n ++ [.lst (List.replicate 28 (.str S))]
  let h3 : Hv := h2 ++ [.lst [.str S]]
  let h4 : Hv := h3 ++ [.lst (List.replicate 28 (.str S))]
  have one : (mLst (mCons (mB mReprE (mCons (mVar 4) mNil)) mNil)) (E1 n) h2 = .val (.ref h2.length) h3 := by
    have v4 : mVar 4 (E1 n) h2 = .val (.int n) h2 := rfl
    simp only [mLst_eq, mCons_eq, mB_eq, v4, bind_val, mNil_eq, hr, List.length_cons, List.length_nil, Nat.zero_add, show (1 : Nat) ≤ 100000 from by decide, if_true]
    rfl
  have mul : mMul (.ref h2.length) (.int 28) h3 = .val (.ref h3.length) h4 := by
    have g3 : h3[h2.length]? = some (.lst [.str S]) := get_last
    simp only [mMul, g3]
    rfl
  have e1 : h4[(HA n).length]? = some (.lst (List.replicate 28 (.str S))) := get_old (get_old get_last)
  have e2 : h4[h3.length]? = some (.lst (List.replicate 28 (.str S))) := get_last
  have ne := ne_strs hS e1 e2
  have tk : h4.take 33 = H1 n := by
    show (HA n ++ [O.lst (List.replicate 28 (.str S))] ++ [O.lst [.str S]] ++ [O.lst (List.replicate 28 (.str S))]).take 33 = H1 n
    have l := a_len n
    rw [List.append_assoc, List.append_assoc, List.take_append_of_le_length (by omega), a_take]
  have core : (mIfS (mT (m2 (mEq true) (mLc (mSrc mA) 9 mYes fRep) (m2 mMul (mLst (mCons (mB mReprE (mCons (mVar 4) mNil)) mNil)) (mC (.int 28))))) (mRet (mC (.bl false))) mNext) (E1 n) (H1 n) = .nx (E1 n) h4 := by
    have lc' : mLc (mSrc mA) 9 mYes fRep (E1 n) (H1 n) = .val (.ref (HA n).length) h2 := lc
    clear_value h2 h3 h4
    simp only [mIfS_eq, mT_eq, m2_eq, lc', bind_val, one, mC_eq, mul, ne, asB_bl, andS_val, Bool.false_eq_true, if_false, mNext_eq]
  show mGc (mIfS (mT (m2 (mEq true) (mLc (mSrc mA) 9 mYes fRep) (m2 mMul (mLst (mCons (mB mReprE (mCons (mVar 4) mNil)) mNil)) (mC (.int 28))))) (mRet (mC (.bl false))) mNext) (E1 n) (H1 n) = _
  unfold mGc
  rw [core]
  dsimp only
  rw [h1_len, tk, if_pos (h1_closed n), e1_drop]
end K01
end
section
namespace K01
open PySem L2 VL
/-! ### closed tails -/
def isNx : ResS → Bool
  | .nx r _ => decide (r.length = 12)
  | _ => false
def isNxO (o : O) : ResS → Bool
  | .nx r h => sameO h[0]? o && decide (r.length = 12)
  | _ => false
abbrev tEnv (w : W) : Ws := [none, none, none, none, some w, none, none, none, none, none, none, none]
theorem t_non : isNx (lTail (tEnv .non) []) = true := by decide +kernel
theorem t_a : isNx (lTail (tEnv (.str ("a" : Str))) []) = true := by decide +kernel
theorem t_m1 : isNx (lTail (tEnv (.int (-1))) []) = true := by decide +kernel
theorem t_e : isNx (lTail (tEnv (.str ("" : Str))) []) = true := by decide +kernel
theorem t_true : isNx (lTail (tEnv (.bl true)) []) = true := by decide +kernel
theorem t_tup : isNxO (.tup [.str ("a" : Str), .int 1]) (lTail (tEnv (.ref 0)) [.tup [.str ("a" : Str), .int 1]]) = true := by decide +kernel
theorem t_lst : isNxO (.lst [.int 1]) (lTail (tEnv (.ref 0)) [.lst [.int 1]]) = true := by decide +kernel
end K01
end
section
namespace K01
open PySem L2 VL
/-! ### the rest of the tail, for a whole number -/
theorem raised_eq {n : Int} {S : Str} (hr : ∀ g, mReprE [.int n] g = .val (.str S) g) {h : Hv} : m__law_raised [.int n] h = .val (.str S) (h ++ [.xd [("value", .int n)]]) := by
  have x : ∀ r, mXf h.length "value" r (h ++ [O.xd [("value", .int n)]]) = .val (.int n) (h ++ [O.xd [("value", .int n)]]) := fun r => by
    unfold mXf
    rw [get_last]
    rfl
  have ex : exmC ["c"] "c" = some true := by decide
  simp only [m__law_raised, mDef_eq, startW, List.map, List.length_cons, List.length_nil, Nat.zero_add, Nat.reduceAdd, Nat.reduceSub, List.replicate, List.cons_append, List.nil_append, mTry, mRaise, mCons_eq, mVar0, bind_val, mNil_eq, andS_val, ex, show 1 < 2 from by decide, if_true, mRet_eq, su0__law_raised, mB_eq, x, hr, endS_rt]
theorem ne_str {h : Hv} {S : Str} (hS : PyData.strOk S = true) : mEq true (.str S) (.str S) h = .val (.bl false) h := by
  have c1 : (PyData.str S).canLay0 = true := by simp [PyData.canLay0, hS]
  have sh : SeqAt.shaped (.str S) = true := by simp [SeqAt.shaped, c1, PyData.depth]
  have er := PySem.SeqAt.eqv_refl (PyData.str S) c1
  have t : toD dF h (.str S) = some (.str S) := rfl
  simp only [mEq, t, sh, Bool.and_self, if_true, er, Bool.not_true]
abbrev H3 (n : Int) : Hv := H1 n ++ [.xd [("value", .int n)]]
theorem s3_eq {n : Int} {S : Str} (hr : ∀ g, mReprE [.int n] g = .val (.str S) g) (hS : PyData.strOk S = true) : lT3 (E1 n) (H1 n) = .nx (E1 n) (H3 n) := by
  have v4 : ∀ g, mVar 4 (E1 n) g = .val (.int n) g := fun g => rfl
  have ra := raised_eq hr (h := H1 n)
  have nq := ne_str (h := H3 n) hS
  unfold lT3
  simp only [mIfS_eq, mT_eq, m2_eq, mCall_eq, mCons_eq, v4, bind_val, mNil_eq, List.length_cons, List.length_nil, Nat.zero_add, if_true, ra, mB_eq, hr, nq, asB_bl, andS_val, Bool.false_eq_true, if_false, mNext_eq]
def E6 (n : Int) : Ws := resR (mSeq lT4 (mSeq lT5 lT6) (E1 n) (H3 n))
def H6 (n : Int) : Hv := resH (mSeq lT4 (mSeq lT5 lT6) (E1 n) (H3 n))
theorem s6_eq (n : Int) : mSeq lT4 (mSeq lT5 lT6) (E1 n) (H3 n) = .nx (E6 n) (H6 n) := by kernel_rfl
abbrev mL7 : Ws → Hv → Res W := (mLst (mCons (mEr "b" "value" (m2 mIx (mVar 11) (mC (.int 0)))) (mCons (mEr "m" "place" (m2 mIx (mVar 11) (mC (.int 1)))) mNil)))
abbrev mR7 : Ws → Hv → Res W := (mLst (mCons (mVar 10) (mCons (mVar 10) mNil)))
def HL (n : Int) : Hv := resG (mL7 (E6 n) (H6 n))
def HR (n : Int) : Hv := resG (mR7 (E6 n) (HL n))
theorem l7_eq (n : Int) : mL7 (E6 n) (H6 n) = .val (.ref 40) (HL n) := by kernel_rfl
theorem r7_eq (n : Int) : mR7 (E6 n) (HL n) = .val (.ref 41) (HR n) := by kernel_rfl
abbrev d7 (n : Int) : PyData := .list [.list [.int n, .int 5], .list [.int n, .int 5]]
theorem tl_eq (n : Int) : toD dF (HR n) (.ref 40) = some (d7 n) := by kernel_rfl
theorem tr_eq (n : Int) : toD dF (HR n) (.ref 41) = some (d7 n) := by kernel_rfl
theorem e6_len (n : Int) : (E6 n).length = 12 := by kernel_rfl
theorem c7 (n : Int) : (d7 n).canLay0 = true := by simp [d7, PyData.canLay0, PyData.canLayAll0]
theorem sh7 (n : Int) : SeqAt.shaped (d7 n) = true := by
  have z := c7 n
  simp [SeqAt.shaped, z, d7, PyData.depth, PyData.depthAll]
theorem s7_eq (n : Int) : lT7 (E6 n) (H6 n) = .nx (E6 n) (HR n) := by
  have er := PySem.SeqAt.eqv_refl (d7 n) (c7 n)
  have nq : mEq true (.ref 40) (.ref 41) (HR n) = .val (.bl false) (HR n) := by
    simp only [mEq, tl_eq, tr_eq, sh7, Bool.and_self, if_true, er, Bool.not_true]
  have l7 := l7_eq n
  have r7 := r7_eq n
  show (mIfS (mT (m2 (mEq true) mL7 mR7)) (mRet (mC (.bl false))) mNext) (E6 n) (H6 n) = _
  generalize mL7 = A at l7 ⊢
  generalize mR7 = B at r7 ⊢
  simp only [mIfS_eq, mT_eq, m2_eq, l7, r7, bind_val, nq, asB_bl, andS_val, Bool.false_eq_true, if_false, mNext_eq]
theorem rest_eq {n : Int} {S : Str} (hr : ∀ g, mReprE [.int n] g = .val (.str S) g) (hS : PyData.strOk S = true) : mSeq lT3 (mSeq lT4 (mSeq lT5 (mSeq lT6 lT7))) (E1 n) (H1 n) = .nx (E6 n) (HR n) := by
  have s6 := s6_eq n
  rw [mSeq_eq, s3_eq hr hS, thenS_nx]
  have as : ∀ r h, mSeq lT4 (mSeq lT5 (mSeq lT6 lT7)) r h = thenS (mSeq lT4 (mSeq lT5 lT6) r h) lT7 := fun r h => by
    simp only [mSeq_eq]
    cases lT4 r h with
    | nx r1 h1 =>
      simp only [thenS_nx, mSeq_eq]
      cases lT5 r1 h1 with
      | nx r2 h2 => simp only [thenS_nx, mSeq_eq]
      | rt _ _ => rfl
      | bk _ _ => rfl
      | ct _ _ => rfl
      | exc _ _ _ _ => rfl
      | bad => rfl
    | rt _ _ => rfl
    | bk _ _ => rfl
    | ct _ _ => rfl
    | exc _ _ _ _ => rfl
    | bad => rfl
  rw [as, s6, thenS_nx]
  exact s7_eq n
def fine (n : Int) : Bool := match mReprE [.int n] [] with
  | .val (.str S) _ => PyData.strOk S
  | _ => false
def many (a k : Nat) : Bool := (List.range' a k).all fun v => fine ((v : Int) ^ 20)
theorem fineA : many 0 100 = true := by decide +kernel
theorem fineB : many 100 100 = true := by decide +kernel
theorem fineC : many 200 100 = true := by decide +kernel
theorem fineD : many 300 120 = true := by decide +kernel
theorem fine_of {a k v : Nat} (h : many a k = true) (h1 : a ≤ v) (h2 : v < a + k) : fine ((v : Int) ^ 20) = true := List.all_eq_true.mp h v (List.mem_range'_1.mpr ⟨h1, h2⟩)
theorem fine_ok {v : Int} (h0 : 0 ≤ v) (h1 : v < 420) : fine (v ^ 20) = true := by
  have hv : ((v.toNat : Int)) = v := by omega
  rw [← hv]
  by_cases c1 : v.toNat < 100
  · exact fine_of fineA (by omega) (by omega)
  · by_cases c2 : v.toNat < 200
    · exact fine_of fineB (by omega) (by omega)
    · by_cases c3 : v.toNat < 300
      · exact fine_of fineC (by omega) (by omega)
      · exact fine_of fineD (by omega) (by omega)
end K01
end
section
namespace K01
open PySem L2 VL
theorem toD_ints {n : Nat} {h : Hv} : ∀ ns : List Int, optAll (toD (n + 1) h) (ns.map W.int) = some (ns.map PyData.int)
  | [] => rfl
  | z :: ns => by
    have ih := toD_ints (n := n) (h := h) ns
    simp only [List.map_cons, optAll, ih]
    rfl
theorem lay_ints : ∀ ns : List Int, PyData.canLayAll0 (ns.map PyData.int) = true
  | [] => rfl
  | z :: ns => by
    have ih := lay_ints ns
    simp [PyData.canLayAll0, PyData.canLay0, ih]
theorem deep_ints : ∀ ns : List Int, PyData.depthAll (ns.map PyData.int) = 0
  | [] => rfl
  | z :: ns => by
    have ih := deep_ints ns
    simp [PyData.depthAll, PyData.depth, ih]
theorem shaped_ints (ns : List Int) : SeqAt.shaped (.list (ns.map PyData.int)) = true := by
  simp [SeqAt.shaped, PyData.canLay0, PyData.depth, lay_ints, deep_ints]
theorem toD_lst {h : Hv} {p : Nat} {ns : List Int} (e : h[p]? = some (.lst (ns.map W.int))) : toD dF h (.ref p) = some (.list (ns.map PyData.int)) := by
  obtain ⟨k, hk⟩ : ∃ k, dF = k + 2 := ⟨dF - 2, by decide⟩
  rw [hk]
  have ti := toD_ints (n := k) (h := h) ns
  simp only [toD, e]
  exact congrArg (Option.map PyData.list) ti
theorem toD_rol {h : Hv} {p : Nat} {ns : List Int} (e : h[p]? = some (.rol (ns.map W.int))) : toD dF h (.ref p) = some (.list (ns.map PyData.int)) := by
  obtain ⟨k, hk⟩ : ∃ k, dF = k + 2 := ⟨dF - 2, by decide⟩
  rw [hk]
  have ti := toD_ints (n := k) (h := h) ns
  simp only [toD, e]
  exact congrArg (Option.map PyData.list) ti
theorem eq_empty {h : Hv} {p q : Nat} {ns : List Int} (e1 : h[p]? = some (.rol (ns.map W.int))) (e2 : h[q]? = some (.lst [])) : mEq false (.ref p) (.ref q) h = .val (.bl ns.isEmpty) h := by
  have t1 := toD_rol e1
  have t2 := toD_lst (ns := []) e2
  have s0 := shaped_ints []
  cases ns with
  | nil => simp only [mEq, t1, t2, s0, Bool.and_self, if_true]; rfl
  | cons z ns => 
    have s1 := shaped_ints (z :: ns)
    simp only [mEq, t1, t2, s0, s1, Bool.and_self, if_true]
    rfl
theorem for_enum {P : Nat} {L : List W} {b : MS} (I : Ws → Hv → Prop) (keep : ∀ r h, I r h → h[P]? = some (.lst L)) (step : ∀ (i : Nat) w, L[i]? = some w → ∀ r h, I r h → ∃ r' h', b ((r.set 1 (some (.int i))).set 2 (some w)) (h ++ [.tup [.int i, w]]) = .nx r' h' ∧ I r' h') :
    ∀ (k i : Nat) (r : Ws) (h : Hv), i + k = L.length → I r h → ∃ r' h', VL.forM (nxEnum P) (mGs 2 (mGcons (mGn 1) (mGcons (mGn 2) mGnil))) b (k + 1) i r h = .nx r' h' ∧ I r' h'
  | 0, i, r, h, hk, hi => by
    refine ⟨r, h, ?_, hi⟩
    unfold VL.forM
    simp [nxEnum, keep r h hi, show L.length ≤ i by omega]
  | k + 1, i, r, h, hk, hi => by
    have lt : i < L.length := by omega
    obtain ⟨r1, h1, e1, i1⟩ := step i L[i] (List.getElem?_eq_getElem lt) r h hi
    obtain ⟨r2, h2, e2, i2⟩ := for_enum I keep step k (i + 1) r1 h1 (by omega) i1
    refine ⟨r2, h2, ?_, i2⟩
    unfold VL.forM
    have gt : mGs 2 (mGcons (mGn 1) (mGcons (mGn 2) mGnil)) (.ref h.length) r (h ++ [.tup [.int i, L[i]]]) = .nx ((r.set 1 (some (.int i))).set 2 (some L[i])) (h ++ [.tup [.int i, L[i]]]) := by
      simp [mGs, mGcons, mGnil]
    simp only [nxEnum, keep r h hi, List.getElem?_eq_getElem lt, gt, e1]
    exact e2
theorem cut_sub {xs : List W} {lo hi : Option Int} : ∀ w ∈ cutW xs lo hi, w ∈ xs := fun w hw => List.mem_of_mem_drop (List.mem_of_mem_take hw)
theorem cut_len {xs : List W} {lo hi : Option Int} : (cutW xs lo hi).length ≤ xs.length := by
  unfold cutW
  simp only [List.length_take, List.length_drop]
  omega
abbrev lSrc : Ws → Hv → Res Src := (mEnum (mCons (m2 mAdd (mSl (mVar 0) (mPart none) (mPart (some (mC (.int 6))))) (m2 mMul (mLst (mCons (mC (.int 7)) mNil)) (mB mInt (mCons (m2 (mEq false) (mVar 0) (mLst mNil)) mNil)))) mNil))
abbrev lEnv : Ws := [some (.ref 0), none, none, none, none, none, none, none, none, none, none, none]
theorem lsrc_ok (ns : List Int) (h1 : ns.length ≤ 63) : ∃ (L : List W) (P : Nat) (h : Hv), lSrc lEnv [.rol (ns.map W.int)] = .val ⟨L.length + 1, nxEnum P⟩ h ∧ h[P]? = some (.lst L) ∧ L.length ≤ 64 ∧ ∀ w ∈ L, IsI w := by
  have c1 := cut_sub (xs := ns.map W.int) (lo := none) (hi := some 6)
  have c2 := cut_len (xs := ns.map W.int) (lo := none) (hi := some 6)
  generalize hC : cutW (ns.map W.int) none (some 6) = C at c1 c2
  have ci : ∀ w ∈ C, IsI w := fun w hw => by
    obtain ⟨z, _, rfl⟩ := List.mem_map.mp (c1 w hw)
    exact ⟨z, rfl⟩
  rw [List.length_map] at c2
  have eqe := eq_empty (h := [.rol (ns.map W.int), .lst C, .lst [.int 7], .lst []]) (p := 0) (q := 3) (ns := ns) rfl rfl
  cases hb : ns.isEmpty with
  | true =>
    rw [hb] at eqe
    refine ⟨C ++ [.int 7], 5, [.rol (ns.map W.int), .lst C, .lst [.int 7], .lst [], .lst [.int 7], .lst (C ++ [.int 7])], ?_, rfl, by simp; omega, fun w hw => ?_⟩
    · simp [lSrc, lEnv, mEnum, mSl, mPart, mCut, hC, eqe, mMul, mAdd, srcE, show C.length + 1 ≤ 100000 by omega]
    · rcases List.mem_append.mp hw with q | q
      · exact ci w q
      · exact ⟨7, List.mem_singleton.mp q⟩
  | false =>
    rw [hb] at eqe
    refine ⟨C ++ [], 5, [.rol (ns.map W.int), .lst C, .lst [.int 7], .lst [], .lst [], .lst (C ++ [])], ?_, rfl, by simp; omega, fun w hw => ?_⟩
    · simp [lSrc, lEnv, mEnum, mSl, mPart, mCut, hC, eqe, mMul, mAdd, srcE, show C.length ≤ 100000 by omega]
    · rw [List.append_nil] at hw
      exact ci w hw

/-! ### one turn -/
theorem repr_any {n : Int} {S : Str} {g0 : Hv} (e : mReprE [.int n] [] = .val (.str S) g0) (g : Hv) : mReprE [.int n] g = .val (.str S) g := by
  have t : ∀ h : Hv, toD dF h (.int n) = some (.int n) := fun h => rfl
  simp only [mReprE, mRepr, t] at e ⊢
  split at e
  · rename_i hc
    rw [if_pos hc]
    cases e
    rfl
  · cases e
theorem nx_of {x : ResS} (h : isNx x = true) : ∃ r g, x = .nx r g ∧ r.length = 12 := by
  cases x with
  | nx r g => exact ⟨r, g, rfl, of_decide_eq_true h⟩
  | rt _ _ => cases h
  | bk _ _ => cases h
  | ct _ _ => cases h
  | exc _ _ _ _ => cases h
  | bad => cases h
theorem nxO_of {x : ResS} {o : O} (h : isNxO o x = true) : ∃ r g, x = .nx r g ∧ r.length = 12 ∧ sameO g[0]? o = true := by
  cases x with
  | nx r g =>
    simp only [isNxO, Bool.and_eq_true] at h
    exact ⟨r, g, rfl, of_decide_eq_true h.2, h.1⟩
  | rt _ _ => cases h
  | bk _ _ => cases h
  | ct _ _ => cases h
  | exc _ _ _ _ => cases h
  | bad => cases h
theorem t_int {v : Int} (h0 : 0 ≤ v) (h1 : v < 420) : isNx (lTail (tEnv (.int (v ^ 20))) []) = true := by
  have f := fine_ok h0 h1
  generalize v ^ 20 = n at f
  unfold fine at f
  split at f
  · rename_i S g0 er
    have hr := repr_any er
    have s2 := s2_eq hr f
    have e0 : lTail (tEnv (.int n)) [] = .nx (E6 n) (HR n) := by
      have s0 : lT0 (tEnv (.int n)) [] = .nx (E0 n) (H1 n) := s0_eq n
      have s1 := s1_eq n
      have s3 := rest_eq hr f
      unfold lTail
      rw [mSeq_eq, s0, thenS_nx, mSeq_eq, s1, thenS_nx, mSeq_eq, s2, thenS_nx, s3]
    have l6 := e6_len n
    rw [e0]
    generalize E6 n = r6 at l6 ⊢
    generalize HR n = g6
    exact decide_eq_true l6
  · cases f
abbrev bEnv (i : Nat) (cell : Int) (s o : Option W) : Ws := [none, some (.int i), some (.int cell), s, o, none, none, none, none, none, none, none]
theorem loc_plain {i : Nat} {cell : Int} {s : Option W} {w : W} {h : Hv} (hp : plainW w = true) (t : isNx (lTail (tEnv w) []) = true) : ∃ r, mLocal1 4 [4] lTail (bEnv i cell s (some w)) h = .nx r h ∧ r.length = 12 := by
  obtain ⟨r, g, e, hl⟩ := nx_of t
  have kp : keepR [4] 0 (bEnv i cell s (some w)) = tEnv w := by
    simp [keepR, plainO, hp]
  have nr : mLocal1 4 [4] lTail (bEnv i cell s (some w)) h = mLocal [4] lTail (bEnv i cell s (some w)) h := by
    cases w with
    | ref p => cases hp
    | non => rfl
    | bl b => rfl
    | int b => rfl
    | str b => rfl
    | fix b => rfl
    | ty b => rfl
  refine ⟨offR r, ?_, by simp [offR, hl]⟩
  rw [nr]
  unfold mLocal
  rw [kp, e]
theorem loc_ref {i : Nat} {cell : Int} {s : Option W} {p : Nat} {o : O} {h : Hv} (eo : h[p]? = some o) (fo : flatO o = true) (t : isNxO o (lTail (tEnv (.ref 0)) [o]) = true) : ∃ r, mLocal1 4 [4] lTail (bEnv i cell s (some (.ref p))) h = .nx r h ∧ r.length = 12 := by
  obtain ⟨r, g, e, hl, hs⟩ := nxO_of t
  have kp : (keepR [4] 0 (bEnv i cell s (some (.ref p)))).set 4 (some (.ref 0)) = tEnv (.ref 0) := by
    simp [keepR, plainO, plainW]
  have r4 : (bEnv i cell s (some (.ref p)))[4]? = some (some (.ref p)) := rfl
  refine ⟨offR r, ?_, by simp [offR, hl]⟩
  unfold mLocal1
  simp only [r4, eo, fo, if_true, kp, e, hs]
theorem body_ok (i : Nat) (cell : Int) (hi : i ≤ 1000) : ∃ r h, lBody (bEnv i cell none none) [] = .nx r h ∧ r.length = 12 := by
  let h2 : Hv := [.lst [.int 420], .lst (List.replicate 3 (.int 420))]
  obtain ⟨acc, en, ha⟩ := numbers_ok (h := h2) (p := 1) (m := 3) (cell := cell) (salt := 100 + (i : Int)) rfl (by decide) (by omega) (by omega)
  let h4 : Hv := [.lst [.int 420], .lst (List.replicate 3 (.int 420)), .lst acc, .lst [.ref 2, .int 0]]
  have en' : m__law_numbers [.int cell, .int (100 + (i : Int)), .ref 1] h2 = .val (.ref 2) [.lst [.int 420], .lst (List.replicate 3 (.int 420)), .lst acc] := en
  have sta : Sta h4 3 := ⟨2, 0, acc, rfl, by decide, rfl, ha⟩
  have st0 : lS0 (bEnv i cell none none) [] = .nx (bEnv i cell (some (.ref 3)) none) h4 := by
    have m3 : mMul (.ref 0) (.int 3) [.lst [.int 420]] = .val (.ref 1) h2 := rfl
    have e1 : (mLst (mCons (mC (.int 420)) mNil)) (bEnv i cell none none) [] = .val (.ref 0) [.lst [.int 420]] := rfl
    unfold lS0
    simp only [bEnv, mSet_eq, mLst_eq, mCons_eq, mCall_eq, mVar0, mVarS, bind_val, m2_eq, mC_eq, mAdd_int, mNil_eq, List.length_cons, List.length_nil, Nat.zero_add, show (1 : Nat) ≤ 100000 from by decide, if_true, mNew_eq, List.nil_append, m3, Nat.reduceAdd, en', show (2 : Nat) ≤ 100000 from by decide, andS_val, List.set]
    rfl
  obtain ⟨v, h5, d5, v0, v1, g5⟩ := draw_ok (many := 420) sta (by decide)
  have d5' : m__law_draw [.ref 3, .int 420] h4 = .val (.int v) h5 := d5
  let h6 : Hv := h5 ++ [.tup [.str ("a" : Str), .int 1]]
  let h7 : Hv := h6 ++ [.lst [.int 1]]
  let L : List W := [.non, .int (v ^ 20), .str ("a" : Str), .ref h5.length, .ref h6.length, .int (-1), .str ("" : Str), .bl true]
  let h8 : Hv := h7 ++ [.lst L]
  have s8 : Sta h8 3 := ((g5.st.more _).more _).more _
  obtain ⟨u, h9, d9, u0, u1, g9⟩ := draw_ok (many := 8) s8 (by decide)
  have l5 : 4 ≤ h5.length := g5.ln
  have l6 : h6.length = h5.length + 1 := by simp [h6]
  have l7 : h7.length = h6.length + 1 := by simp [h7]
  have e7 : h9[h7.length]? = some (.lst L) := g9.kp _ _ (by omega) get_last
  have e5 : h9[h5.length]? = some (.tup [.str ("a" : Str), .int 1]) := g9.kp _ _ (by omega) (get_old (get_old get_last))
  have e6 : h9[h6.length]? = some (.lst [.int 1]) := g9.kp _ _ (by omega) (get_old get_last)
  have pw : mPow (.int v) (.int 20) h5 = .val (.int (v ^ 20)) h5 := by
    have z := mPow_int (i := v) (j := 20) (h := h5) (by decide) (by decide) (by omega)
    exact z
  have st1 : ∀ w, atI L u = some w → lS1 (bEnv i cell (some (.ref 3)) none) h4 = .nx (bEnv i cell (some (.ref 3)) (some w)) h9 := fun w hw => by
    have n6 : (mTup (mCons (mC (.str ("a" : Str))) (mCons (mC (.int 1)) mNil))) (bEnv i cell (some (.ref 3)) none) h5 = .val (.ref h5.length) h6 := rfl
    have n7 : (mLst (mCons (mC (.int 1)) mNil)) (bEnv i cell (some (.ref 3)) none) h6 = .val (.ref h6.length) h7 := rfl
    have n8 : mNew (.lst [.non, .int (v ^ 20), .str ("a" : Str), .ref h5.length, .ref h6.length, .int (-1), .str ("" : Str), .bl true]) h7 = .val (.ref h7.length) h8 := rfl
    have ix : mIx (.ref h7.length) (.int u) h9 = .val w h9 := mIx_lst e7 hw
    have v3 : ∀ g : Hv, mVar 3 (bEnv i cell (some (.ref 3)) none) g = .val (.ref 3) g := fun g => rfl
    generalize hT : (mTup (mCons (mC (.str ("a" : Str))) (mCons (mC (.int 1)) mNil))) = T6 at n6
    generalize hT7 : (mLst (mCons (mC (.int 1)) mNil)) = T7 at n7
    unfold lS1
    rw [hT, hT7]
    clear_value h4 h6 h7 h8
    simp only [mSet_eq, m2_eq, mLst_eq, mCons_eq, mC_eq, bind_val, mCall_eq, v3, mNil_eq, List.length_cons, List.length_nil, Nat.zero_add, Nat.reduceAdd, if_true, d5', pw, n6, n7, m1_eq, mNeg_int, show (8 : Nat) ≤ 100000 from by decide, n8, d9, ix, andS_val]
    rfl
  have fin : ∀ w, atI L u = some w → (∃ r, mLocal1 4 [4] lTail (bEnv i cell (some (.ref 3)) (some w)) h9 = .nx r h9 ∧ r.length = 12) → ∃ r h, lBody (bEnv i cell none none) [] = .nx r h ∧ r.length = 12 := fun w hw ⟨r, er, hl⟩ => ⟨r, h9, by
    unfold lBody
    rw [mSeq_eq, st0, thenS_nx, mSeq_eq, st1 w hw, thenS_nx]
    exact er, hl⟩
  have hu : u = 0 ∨ u = 1 ∨ u = 2 ∨ u = 3 ∨ u = 4 ∨ u = 5 ∨ u = 6 ∨ u = 7 := by omega
  rcases hu with rfl | rfl | rfl | rfl | rfl | rfl | rfl | rfl
  · exact fin _ rfl (loc_plain rfl t_non)
  · exact fin _ rfl (loc_plain rfl (t_int v0 v1))
  · exact fin _ rfl (loc_plain rfl t_a)
  · exact fin _ rfl (loc_ref e5 rfl t_tup)
  · exact fin _ rfl (loc_ref e6 rfl t_lst)
  · exact fin _ rfl (loc_plain rfl t_m1)
  · exact fin _ rfl (loc_plain rfl t_e)
  · exact fin _ rfl (loc_plain rfl t_true)
/-! ### the law -/
theorem turn_ok {r : Ws} {h : Hv} (i : Nat) (cell : Int) (hi : i ≤ 1000) (hl : r.length = 12) : ∃ r', mLocal [1, 2] lBody ((r.set 1 (some (.int i))).set 2 (some (.int cell))) h = .nx r' h ∧ r'.length = 12 := by
  obtain ⟨r1, g, e, l1⟩ := body_ok i cell hi
  have kp : keepR [1, 2] 0 ((r.set 1 (some (.int i))).set 2 (some (.int cell))) = bEnv i cell none none := by
    match r, hl with
    | [_, _, _, _, _, _, _, _, _, _, _, _], _ => rfl
  refine ⟨offR r1, ?_, by simp [offR, l1]⟩
  unfold mLocal
  rw [kp, e]
theorem true_ (ns : List Int) (h1 : ns.length ≤ 63) (h2 : ∀ z ∈ ns, Builtin.Int.intBits z ≤ 1048576) : ∃ h', m_law [.ref 0] [.rol (ns.map W.int)] = .val (.bl true) h' := by
  obtain ⟨L, P, h, es, eP, hL, hI⟩ := lsrc_ok ns h1
  obtain ⟨r', h', fe, _⟩ := for_enum (P := P) (L := L) (b := mLocal [1, 2] lBody) (fun r g => r.length = 12 ∧ g[P]? = some (.lst L)) (fun r g z => z.2) (fun i w ew r g z => by
    obtain ⟨c, rfl⟩ := hI w (List.mem_of_getElem? ew)
    have hi : i < L.length := (List.getElem?_eq_some_iff.mp ew).1
    obtain ⟨r1, e1, l1⟩ := turn_ok (r := r) (h := g ++ [.tup [.int i, .int c]]) i c (by omega) z.1
    exact ⟨r1, _, e1, l1, get_old z.2⟩) L.length 0 lEnv h (by omega) ⟨rfl, eP⟩
  have fr : mFor lSrc (mGs 2 (mGcons (mGn 1) (mGcons (mGn 2) mGnil))) (mLocal [1, 2] lBody) lEnv [.rol (ns.map W.int)] = .nx r' h' := by
    unfold mFor
    rw [es]
    exact fe
  refine ⟨h', ?_⟩
  show endS (thenS (mFor lSrc (mGs 2 (mGcons (mGn 1) (mGcons (mGn 2) mGnil))) (mLocal [1, 2] lBody) lEnv [.rol (ns.map W.int)]) (mRet (mC (.bl true)))) = _
  rw [fr]
  rfl
end K01
end
section
open PySem PyProof.Rows PySem.W
set_option maxRecDepth 110000 in
set_option maxHeartbeats 0 in
theorem PySem.Challenge.cw_whatiftimes_k01_error_classes_holds : PySem.Challenge.rw_whatiftimes_k01_error_classes.Holds := by
  w_on; o_law; k_head; (case hw => w_witness2); k_fill
  refine VL.walk_V (l := PySem.Challenge.rw_whatiftimes_k01_error_classes) (n := 63) (k := 4) rfl (by decide) rfl ⟨rfl, by decide, by decide⟩ (fun w h Y => PySem.W.kIn_of Y) ?F
  case F =>
    intro w mg fa h Y KX G hmg
    refine' K01.mk KX G hmg K01.true_ ?a_xlawnumbers ?l_xlawnumbers ?c_xlawnumbers1 ?k_xlawnumbers ?a_xlawdraw ?l_xlawdraw ?c_xlawdraw1 ?k_xlawdraw ?a_xlawkinds ?l_xlawkinds ?c_xlawkinds1 ?k_xlawkinds ?a_xlawbases ?l_xlawbases ?c_xlawbases1 ?k_xlawbases ?a_xlawmade ?l_xlawmade ?c_xlawmade1 ?k_xlawmade ?a_xlawnamed ?l_xlawnamed ?c_xlawnamed1 ?k_xlawnamed ?a_xlawfields ?l_xlawfields ?c_xlawfields1 ?k_xlawfields ?a_xlawraised ?l_xlawraised ?c_xlawraised1 ?k_xlawraised ?a_xlaw ?l_xlaw ?c_xlaw1 ?k_xlaw ?mTimesError ?eKTimesError ?tKTimesError ?hKTimesError ?aC_InvalidProgram ?xL_InvalidProgram ?sa_InvalidProgram ?ga_InvalidProgram ?gg_InvalidProgram ?nb_InvalidProgram ?a1_InvalidProgram ?t1_InvalidProgram ?l1_InvalidProgram ?c1_InvalidProgram ?k1_InvalidProgram ?kC_InvalidProgram ?eC_InvalidProgram ?tC_InvalidProgram ?hC_InvalidProgram ?hcl_InvalidProgram ?hmo_InvalidProgram ?aC_InvalidSetting ?xL_InvalidSetting ?sa_InvalidSetting ?ga_InvalidSetting ?gg_InvalidSetting ?nb_InvalidSetting ?a1_InvalidSetting ?t1_InvalidSetting ?l1_InvalidSetting ?c1_InvalidSetting ?k1_InvalidSetting ?kC_InvalidSetting ?eC_InvalidSetting ?tC_InvalidSetting ?hC_InvalidSetting ?hcl_InvalidSetting ?hmo_InvalidSetting ?aC_InvalidRange ?xL_InvalidRange ?sa_InvalidRange ?ga_InvalidRange ?gg_InvalidRange ?nb_InvalidRange ?a1_InvalidRange ?t1_InvalidRange ?l1_InvalidRange ?c1_InvalidRange ?k1_InvalidRange ?kC_InvalidRange ?eC_InvalidRange ?tC_InvalidRange ?hC_InvalidRange ?hcl_InvalidRange ?hmo_InvalidRange ?aC_InvalidShape ?xL_InvalidShape ?sa_InvalidShape ?ga_InvalidShape ?gg_InvalidShape ?nb_InvalidShape ?a1_InvalidShape ?t1_InvalidShape ?l1_InvalidShape ?c1_InvalidShape ?k1_InvalidShape ?kC_InvalidShape ?eC_InvalidShape ?tC_InvalidShape ?hC_InvalidShape ?hcl_InvalidShape ?hmo_InvalidShape ?aC_InvalidJournal ?xL_InvalidJournal ?sa_InvalidJournal ?ga_InvalidJournal ?gg_InvalidJournal ?nb_InvalidJournal ?a1_InvalidJournal ?t1_InvalidJournal ?l1_InvalidJournal ?c1_InvalidJournal ?k1_InvalidJournal ?kC_InvalidJournal ?eC_InvalidJournal ?tC_InvalidJournal ?hC_InvalidJournal ?hcl_InvalidJournal ?hmo_InvalidJournal ?aC_InvalidSighting ?xL_InvalidSighting ?sa_InvalidSighting ?ga_InvalidSighting ?gg_InvalidSighting ?nb_InvalidSighting ?a1_InvalidSighting ?t1_InvalidSighting ?l1_InvalidSighting ?c1_InvalidSighting ?k1_InvalidSighting ?kC_InvalidSighting ?eC_InvalidSighting ?tC_InvalidSighting ?hC_InvalidSighting ?hcl_InvalidSighting ?hmo_InvalidSighting ?aC_InvalidText ?xL_InvalidText ?sa_InvalidText ?ga_InvalidText ?gg_InvalidText ?nb_InvalidText ?a1_InvalidText ?t1_InvalidText ?l1_InvalidText ?c1_InvalidText ?k1_InvalidText ?kC_InvalidText ?eC_InvalidText ?tC_InvalidText ?hC_InvalidText ?hcl_InvalidText ?hmo_InvalidText ?aC_InvalidCommand ?xL_InvalidCommand ?sa_InvalidCommand ?ga_InvalidCommand ?gg_InvalidCommand ?nb_InvalidCommand ?a1_InvalidCommand ?t1_InvalidCommand ?l1_InvalidCommand ?c1_InvalidCommand ?k1_InvalidCommand ?kC_InvalidCommand ?eC_InvalidCommand ?tC_InvalidCommand ?hC_InvalidCommand ?hcl_InvalidCommand ?hmo_InvalidCommand ?aC_InvalidNumber ?xL_InvalidNumber ?sa_InvalidNumber ?ga_InvalidNumber ?gg_InvalidNumber ?nb_InvalidNumber ?a1_InvalidNumber ?t1_InvalidNumber ?l1_InvalidNumber ?c1_InvalidNumber ?k1_InvalidNumber ?kC_InvalidNumber ?eC_InvalidNumber ?tC_InvalidNumber ?hC_InvalidNumber ?hcl_InvalidNumber ?hmo_InvalidNumber ?aC_LimitExceeded ?xL_LimitExceeded ?sa_LimitExceeded ?ga_LimitExceeded ?gg_LimitExceeded ?nb_LimitExceeded ?a1_LimitExceeded ?t1_LimitExceeded ?l1_LimitExceeded ?c1_LimitExceeded ?k1_LimitExceeded ?kC_LimitExceeded ?eC_LimitExceeded ?tC_LimitExceeded ?hC_LimitExceeded ?hcl_LimitExceeded ?hmo_LimitExceeded ?aC_UnknownName ?xL_UnknownName ?sa_UnknownName ?ga_UnknownName ?gg_UnknownName ?nb_UnknownName ?a1_UnknownName ?t1_UnknownName ?l1_UnknownName ?c1_UnknownName ?k1_UnknownName ?kC_UnknownName ?eC_UnknownName ?tC_UnknownName ?hC_UnknownName ?hcl_UnknownName ?hmo_UnknownName ?aC_Stuck ?xL_Stuck ?sa_Stuck ?ga_Stuck ?gg_Stuck ?nb_Stuck ?a1_Stuck ?t1_Stuck ?l1_Stuck ?c1_Stuck ?k1_Stuck ?kC_Stuck ?eC_Stuck ?tC_Stuck ?hC_Stuck ?hcl_Stuck ?hmo_Stuck ?aC_TooLate ?xL_TooLate ?sa_TooLate ?ga_TooLate ?gg_TooLate ?nb_TooLate ?a1_TooLate ?t1_TooLate ?l1_TooLate ?c1_TooLate ?k1_TooLate ?kC_TooLate ?eC_TooLate ?tC_TooLate ?hC_TooLate ?hcl_TooLate ?hmo_TooLate ?aC_NothingToUndo ?xL_NothingToUndo ?sa_NothingToUndo ?ga_NothingToUndo ?gg_NothingToUndo ?nb_NothingToUndo ?a1_NothingToUndo ?t1_NothingToUndo ?l1_NothingToUndo ?c1_NothingToUndo ?k1_NothingToUndo ?kC_NothingToUndo ?eC_NothingToUndo ?tC_NothingToUndo ?hC_NothingToUndo ?hcl_NothingToUndo ?hmo_NothingToUndo ?sC_InvalidRange_TimesError ?hgs ?htk ?kiAll ?z_KeyError ?z_OverflowError ?z_RuntimeError ?z_ValueError ?z_enumerate ?z_int ?z_isinstance ?z_len ?z_max ?z_range ?z_repr ?Kl
    (case a_xlawnumbers => k_is)
    (case l_xlawnumbers => k_is)
    (case c_xlawnumbers1 => k_is)
    (case k_xlawnumbers => k_is)
    (case a_xlawdraw => k_is)
    (case l_xlawdraw => k_is)
    (case c_xlawdraw1 => k_is)
    (case k_xlawdraw => k_is)
    (case a_xlawkinds => k_is)
    (case l_xlawkinds => k_is)
    (case c_xlawkinds1 => k_is)
    (case k_xlawkinds => k_is)
    (case a_xlawbases => k_is)
    (case l_xlawbases => k_is)
    (case c_xlawbases1 => k_is)
    (case k_xlawbases => k_is)
    (case a_xlawmade => k_is)
    (case l_xlawmade => k_is)
    (case c_xlawmade1 => k_is)
    (case k_xlawmade => k_is)
    (case a_xlawnamed => k_is)
    (case l_xlawnamed => k_is)
    (case c_xlawnamed1 => k_is)
    (case k_xlawnamed => k_is)
    (case a_xlawfields => k_is)
    (case l_xlawfields => k_is)
    (case c_xlawfields1 => k_is)
    (case k_xlawfields => k_is)
    (case a_xlawraised => k_is)
    (case l_xlawraised => k_is)
    (case c_xlawraised1 => k_is)
    (case k_xlawraised => k_is)
    (case a_xlaw => k_is)
    (case l_xlaw => k_is)
    (case c_xlaw1 => k_is)
    (case k_xlaw => k_is)
    (case mTimesError => k_is)
    (case eKTimesError => k_is)
    (case tKTimesError => k_is)
    (case hKTimesError => k_is)
    (case aC_InvalidProgram => k_is)
    (case xL_InvalidProgram => k_is)
    (case sa_InvalidProgram => k_is)
    (case ga_InvalidProgram => k_is)
    (case gg_InvalidProgram => k_is)
    (case nb_InvalidProgram => k_is)
    (case a1_InvalidProgram => k_is)
    (case t1_InvalidProgram => k_is)
    (case l1_InvalidProgram => k_is)
    (case c1_InvalidProgram => k_is)
    (case k1_InvalidProgram => k_is)
    (case kC_InvalidProgram => k_is)
    (case eC_InvalidProgram => k_is)
    (case tC_InvalidProgram => k_is)
    (case hC_InvalidProgram => k_is)
    (case hcl_InvalidProgram => k_is)
    (case hmo_InvalidProgram => k_is)
    (case aC_InvalidSetting => k_is)
    (case xL_InvalidSetting => k_is)
    (case sa_InvalidSetting => k_is)
    (case ga_InvalidSetting => k_is)
    (case gg_InvalidSetting => k_is)
    (case nb_InvalidSetting => k_is)
    (case a1_InvalidSetting => k_is)
    (case t1_InvalidSetting => k_is)
    (case l1_InvalidSetting => k_is)
    (case c1_InvalidSetting => k_is)
    (case k1_InvalidSetting => k_is)
    (case kC_InvalidSetting => k_is)
    (case eC_InvalidSetting => k_is)
    (case tC_InvalidSetting => k_is)
    (case hC_InvalidSetting => k_is)
    (case hcl_InvalidSetting => k_is)
    (case hmo_InvalidSetting => k_is)
    (case aC_InvalidRange => k_is)
    (case xL_InvalidRange => k_is)
    (case sa_InvalidRange => k_is)
    (case ga_InvalidRange => k_is)
    (case gg_InvalidRange => k_is)
    (case nb_InvalidRange => k_is)
    (case a1_InvalidRange => k_is)
    (case t1_InvalidRange => k_is)
    (case l1_InvalidRange => k_is)
    (case c1_InvalidRange => k_is)
    (case k1_InvalidRange => k_is)
    (case kC_InvalidRange => k_is)
    (case eC_InvalidRange => k_is)
    (case tC_InvalidRange => k_is)
    (case hC_InvalidRange => k_is)
    (case hcl_InvalidRange => k_is)
    (case hmo_InvalidRange => k_is)
    (case aC_InvalidShape => k_is)
    (case xL_InvalidShape => k_is)
    (case sa_InvalidShape => k_is)
    (case ga_InvalidShape => k_is)
    (case gg_InvalidShape => k_is)
    (case nb_InvalidShape => k_is)
    (case a1_InvalidShape => k_is)
    (case t1_InvalidShape => k_is)
    (case l1_InvalidShape => k_is)
    (case c1_InvalidShape => k_is)
    (case k1_InvalidShape => k_is)
    (case kC_InvalidShape => k_is)
    (case eC_InvalidShape => k_is)
    (case tC_InvalidShape => k_is)
    (case hC_InvalidShape => k_is)
    (case hcl_InvalidShape => k_is)
    (case hmo_InvalidShape => k_is)
    (case aC_InvalidJournal => k_is)
    (case xL_InvalidJournal => k_is)
    (case sa_InvalidJournal => k_is)
    (case ga_InvalidJournal => k_is)
    (case gg_InvalidJournal => k_is)
    (case nb_InvalidJournal => k_is)
    (case a1_InvalidJournal => k_is)
    (case t1_InvalidJournal => k_is)
    (case l1_InvalidJournal => k_is)
    (case c1_InvalidJournal => k_is)
    (case k1_InvalidJournal => k_is)
    (case kC_InvalidJournal => k_is)
    (case eC_InvalidJournal => k_is)
    (case tC_InvalidJournal => k_is)
    (case hC_InvalidJournal => k_is)
    (case hcl_InvalidJournal => k_is)
    (case hmo_InvalidJournal => k_is)
    (case aC_InvalidSighting => k_is)
    (case xL_InvalidSighting => k_is)
    (case sa_InvalidSighting => k_is)
    (case ga_InvalidSighting => k_is)
    (case gg_InvalidSighting => k_is)
    (case nb_InvalidSighting => k_is)
    (case a1_InvalidSighting => k_is)
    (case t1_InvalidSighting => k_is)
    (case l1_InvalidSighting => k_is)
    (case c1_InvalidSighting => k_is)
    (case k1_InvalidSighting => k_is)
    (case kC_InvalidSighting => k_is)
    (case eC_InvalidSighting => k_is)
    (case tC_InvalidSighting => k_is)
    (case hC_InvalidSighting => k_is)
    (case hcl_InvalidSighting => k_is)
    (case hmo_InvalidSighting => k_is)
    (case aC_InvalidText => k_is)
    (case xL_InvalidText => k_is)
    (case sa_InvalidText => k_is)
    (case ga_InvalidText => k_is)
    (case gg_InvalidText => k_is)
    (case nb_InvalidText => k_is)
    (case a1_InvalidText => k_is)
    (case t1_InvalidText => k_is)
    (case l1_InvalidText => k_is)
    (case c1_InvalidText => k_is)
    (case k1_InvalidText => k_is)
    (case kC_InvalidText => k_is)
    (case eC_InvalidText => k_is)
    (case tC_InvalidText => k_is)
    (case hC_InvalidText => k_is)
    (case hcl_InvalidText => k_is)
    (case hmo_InvalidText => k_is)
    (case aC_InvalidCommand => k_is)
    (case xL_InvalidCommand => k_is)
    (case sa_InvalidCommand => k_is)
    (case ga_InvalidCommand => k_is)
    (case gg_InvalidCommand => k_is)
    (case nb_InvalidCommand => k_is)
    (case a1_InvalidCommand => k_is)
    (case t1_InvalidCommand => k_is)
    (case l1_InvalidCommand => k_is)
    (case c1_InvalidCommand => k_is)
    (case k1_InvalidCommand => k_is)
    (case kC_InvalidCommand => k_is)
    (case eC_InvalidCommand => k_is)
    (case tC_InvalidCommand => k_is)
    (case hC_InvalidCommand => k_is)
    (case hcl_InvalidCommand => k_is)
    (case hmo_InvalidCommand => k_is)
    (case aC_InvalidNumber => k_is)
    (case xL_InvalidNumber => k_is)
    (case sa_InvalidNumber => k_is)
    (case ga_InvalidNumber => k_is)
    (case gg_InvalidNumber => k_is)
    (case nb_InvalidNumber => k_is)
    (case a1_InvalidNumber => k_is)
    (case t1_InvalidNumber => k_is)
    (case l1_InvalidNumber => k_is)
    (case c1_InvalidNumber => k_is)
    (case k1_InvalidNumber => k_is)
    (case kC_InvalidNumber => k_is)
    (case eC_InvalidNumber => k_is)
    (case tC_InvalidNumber => k_is)
    (case hC_InvalidNumber => k_is)
    (case hcl_InvalidNumber => k_is)
    (case hmo_InvalidNumber => k_is)
    (case aC_LimitExceeded => k_is)
    (case xL_LimitExceeded => k_is)
    (case sa_LimitExceeded => k_is)
    (case ga_LimitExceeded => k_is)
    (case gg_LimitExceeded => k_is)
    (case nb_LimitExceeded => k_is)
    (case a1_LimitExceeded => k_is)
    (case t1_LimitExceeded => k_is)
    (case l1_LimitExceeded => k_is)
    (case c1_LimitExceeded => k_is)
    (case k1_LimitExceeded => k_is)
    (case kC_LimitExceeded => k_is)
    (case eC_LimitExceeded => k_is)
    (case tC_LimitExceeded => k_is)
    (case hC_LimitExceeded => k_is)
    (case hcl_LimitExceeded => k_is)
    (case hmo_LimitExceeded => k_is)
    (case aC_UnknownName => k_is)
    (case xL_UnknownName => k_is)
    (case sa_UnknownName => k_is)
    (case ga_UnknownName => k_is)
    (case gg_UnknownName => k_is)
    (case nb_UnknownName => k_is)
    (case a1_UnknownName => k_is)
    (case t1_UnknownName => k_is)
    (case l1_UnknownName => k_is)
    (case c1_UnknownName => k_is)
    (case k1_UnknownName => k_is)
    (case kC_UnknownName => k_is)
    (case eC_UnknownName => k_is)
    (case tC_UnknownName => k_is)
    (case hC_UnknownName => k_is)
    (case hcl_UnknownName => k_is)
    (case hmo_UnknownName => k_is)
    (case aC_Stuck => k_is)
    (case xL_Stuck => k_is)
    (case sa_Stuck => k_is)
    (case ga_Stuck => k_is)
    (case gg_Stuck => k_is)
    (case nb_Stuck => k_is)
    (case a1_Stuck => k_is)
    (case t1_Stuck => k_is)
    (case l1_Stuck => k_is)
    (case c1_Stuck => k_is)
    (case k1_Stuck => k_is)
    (case kC_Stuck => k_is)
    (case eC_Stuck => k_is)
    (case tC_Stuck => k_is)
    (case hC_Stuck => k_is)
    (case hcl_Stuck => k_is)
    (case hmo_Stuck => k_is)
    (case aC_TooLate => k_is)
    (case xL_TooLate => k_is)
    (case sa_TooLate => k_is)
    (case ga_TooLate => k_is)
    (case gg_TooLate => k_is)
    (case nb_TooLate => k_is)
    (case a1_TooLate => k_is)
    (case t1_TooLate => k_is)
    (case l1_TooLate => k_is)
    (case c1_TooLate => k_is)
    (case k1_TooLate => k_is)
    (case kC_TooLate => k_is)
    (case eC_TooLate => k_is)
    (case tC_TooLate => k_is)
    (case hC_TooLate => k_is)
    (case hcl_TooLate => k_is)
    (case hmo_TooLate => k_is)
    (case aC_NothingToUndo => k_is)
    (case xL_NothingToUndo => k_is)
    (case sa_NothingToUndo => k_is)
    (case ga_NothingToUndo => k_is)
    (case gg_NothingToUndo => k_is)
    (case nb_NothingToUndo => k_is)
    (case a1_NothingToUndo => k_is)
    (case t1_NothingToUndo => k_is)
    (case l1_NothingToUndo => k_is)
    (case c1_NothingToUndo => k_is)
    (case k1_NothingToUndo => k_is)
    (case kC_NothingToUndo => k_is)
    (case eC_NothingToUndo => k_is)
    (case tC_NothingToUndo => k_is)
    (case hC_NothingToUndo => k_is)
    (case hcl_NothingToUndo => k_is)
    (case hmo_NothingToUndo => k_is)
    (case sC_InvalidRange_TimesError => k_is)
    (case hgs => k_is)
    (case htk => k_is)
    (case kiAll => kernel_rfl)
    (case z_KeyError => k_is)
    (case z_OverflowError => k_is)
    (case z_RuntimeError => k_is)
    (case z_ValueError => k_is)
    (case z_enumerate => k_is)
    (case z_int => k_is)
    (case z_isinstance => k_is)
    (case z_len => k_is)
    (case z_max => k_is)
    (case z_range => k_is)
    (case z_repr => k_is)
    (case Kl => kernel_rfl)
end
