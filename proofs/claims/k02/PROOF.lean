import PyProof.Rows.All
import Wide.All
import OpenK.AllK
import Wide.FinOn
import HandS.ForMost
import HandS.ForExc
import HandS.IsInst
import HandS.Wide
import HandS.Lambda
import HandS.Steps
import HandS.Style
import HandS.RaiseMore
import HandS.Iter
import HandS.Comp
import HandS.ExcInit
import HandS.ExcField
import HandS.EndTab
import KE.KNestM
import HandS.ExcIs
import PySem.Challenge.RW_whatiftimes_k02_fractions
set_option Elab.async false
set_option linter.all false
set_option maxRecDepth 100000
set_option maxHeartbeats 2100000
section
/-! VL: a view of the abstract heap: values and objects by places in a list; what a piece of the program does is a plain Lean function over the view. -/
namespace VL
open PySem L2

/-- a value of a view: ref is a place in the view's list, fix an address that stands outside of it -/
inductive W where
  | non | bl (b : Bool) | int (i : Int) | str (x : Str) | ref (i : Nat) | fix (a : Addr) | ty (n : String)
  deriving DecidableEq

def WV (ps : List Addr) : W → V → Prop
  | .non, v => v = .non
  | .bl b, v => v = .bl b
  | .int i, v => v = .int i
  | .str x, v => v = .str x
  | .ty n, v => v = .ty n
  | .fix a, v => v = .ref a
  | .ref i, v => ∃ a, ps[i]? = some a ∧ v = .ref a

inductive O where
  | lst (xs : List W) | tup (xs : List W) | rol (xs : List W) | dic (kvs : List (Key × W)) | ins (C : Addr) (fs : List (Str × W)) | xd (fs : List (Str × W))

abbrev Hv := List O
abbrev Ws := List (Option W)
abbrev Tb := List (Addr × Str)
/-- what a view leans on: the tables of code objects, and a fact about places that stays -/
structure Tx where
  tb : Tb
  C : List Addr → Prop
  mono : ∀ ps qs, ps <+: qs → C ps → C qs
  /-- the classes of errors, by their names -/
  cv : String → Value
def Tx.plain (t : Tb) (cv : String → Value) : Tx := ⟨t, fun _ => True, fun _ _ _ h => h, cv⟩
/-- .. with one place known -/
def Tx.known (T : Tx) (j : Nat) (a : Addr) : Tx := ⟨T.tb, fun ps => T.C ps ∧ ps[j]? = some a, fun ps qs h ⟨c, e⟩ => ⟨T.mono ps qs h c, by
  obtain ⟨r, rfl⟩ := h
  rw [List.getElem?_append_left (List.getElem?_eq_some_iff.mp e).1]
  exact e⟩, T.cv⟩

def PW2 {k : Type} (ps : List Addr) (p : k × W) (q : k × V) : Prop := p.1 = q.1 ∧ WV ps p.2 q.2

def OAt (ps : List Addr) (H : Hp) (a : Addr) : O → Prop
  | .lst xs => ∃ vs, Paired (WV ps) xs vs ∧ H a = some (.lst vs)
  | .tup xs => ∃ vs, Paired (WV ps) xs vs ∧ H a = some (.tup vs)
  | .rol xs => ∃ vs ob, Paired (WV ps) xs vs ∧ H a = some (.frz ob (.lst vs))
  | .dic kvs => ∃ vs, Paired (PW2 ps) kvs vs ∧ H a = some (.dK vs)
  | .ins C fs => ∃ vs dx, Paired (PW2 ps) fs vs ∧ H a = some (.ins C dx vs)
  | .xd fs => ∃ vs, Paired (PW2 ps) fs vs ∧ H a = some (.xd vs)

structure View (T : Tx) (ps : List Addr) (h : Hv) (H : Hp) : Prop where
  len : ps.length = h.length
  nd : ps.Nodup
  ob : ∀ (i : Nat) (a : Addr) (o : O), ps[i]? = some a → h[i]? = some o → OAt ps H a o
  tab : LamX.Tabs T.tb H
  fact : T.C ps

structure Step (ps : List Addr) (H : Hp) (qs : List Addr) (H' : Hp) : Prop where
  pre : ps <+: qs
  new : ∀ a o, a ∈ qs → a ∉ ps → H a = some o → ∃ z, o = .tbl z
  fr : ∀ a o, H a = some o → (∀ z, o ≠ .tbl z) → a ∉ ps → H' a = some o

theorem WV.mono {ps qs : List Addr} (h : ps <+: qs) : ∀ {w : W} {v : V}, WV ps w v → WV qs w v
  | .non, _, e => e
  | .bl _, _, e => e
  | .int _, _, e => e
  | .str _, _, e => e
  | .ty _, _, e => e
  | .fix _, _, e => e
  | .ref i, _, ⟨a, e1, e2⟩ => ⟨a, by
      obtain ⟨r, rfl⟩ := h
      rw [List.getElem?_append_left (List.getElem?_eq_some_iff.mp e1).1]
      exact e1, e2⟩
theorem WVs.mono {ps qs : List Addr} (h : ps <+: qs) {xs : List W} {vs : List V} (r : Paired (WV ps) xs vs) : Paired (WV qs) xs vs := L2.Paired.mapP r fun _ _ e => e.mono h
theorem PW2.mono {k : Type} {ps qs : List Addr} (h : ps <+: qs) {p : k × W} {q : k × V} (r : PW2 ps p q) : PW2 qs p q := ⟨r.1, r.2.mono h⟩
theorem OAt.mono {ps qs : List Addr} {H : Hp} {a : Addr} (h : ps <+: qs) : ∀ {o : O}, OAt ps H a o → OAt qs H a o
  | .lst _, ⟨vs, r, e⟩ => ⟨vs, WVs.mono h r, e⟩
  | .tup _, ⟨vs, r, e⟩ => ⟨vs, WVs.mono h r, e⟩
  | .rol _, ⟨vs, ob, r, e⟩ => ⟨vs, ob, WVs.mono h r, e⟩
  | .dic _, ⟨vs, r, e⟩ => ⟨vs, L2.Paired.mapP r fun _ _ z => z.mono h, e⟩
  | .ins _ _, ⟨vs, dx, r, e⟩ => ⟨vs, dx, L2.Paired.mapP r fun _ _ z => z.mono h, e⟩
  | .xd _, ⟨vs, r, e⟩ => ⟨vs, L2.Paired.mapP r fun _ _ z => z.mono h, e⟩
/-- the object at a, as it stands -/
theorem OAt.there {ps : List Addr} {H : Hp} {a : Addr} : ∀ {o : O}, OAt ps H a o → ∃ u, H a = some u ∧ (∀ z, u ≠ .tbl z) ∧ ∀ f, u ≠ .ext f
  | .lst _, ⟨vs, r, e⟩ => ⟨_, e, (fun _ z => by cases z), (fun _ z => by cases z)⟩
  | .tup _, ⟨vs, r, e⟩ => ⟨_, e, (fun _ z => by cases z), (fun _ z => by cases z)⟩
  | .rol _, ⟨vs, ob, r, e⟩ => ⟨_, e, (fun _ z => by cases z), (fun _ z => by cases z)⟩
  | .dic _, ⟨vs, r, e⟩ => ⟨_, e, (fun _ z => by cases z), (fun _ z => by cases z)⟩
  | .ins _ _, ⟨vs, dx, r, e⟩ => ⟨_, e, (fun _ z => by cases z), (fun _ z => by cases z)⟩
  | .xd _, ⟨vs, r, e⟩ => ⟨_, e, (fun _ z => by cases z), (fun _ z => by cases z)⟩
theorem OAt.put {ps : List Addr} {H H' : Hp} {a : Addr} (h : ∀ u, H a = some u → H' a = some u) : ∀ {o : O}, OAt ps H a o → OAt ps H' a o
  | .lst _, ⟨vs, r, e⟩ => ⟨vs, r, h _ e⟩
  | .tup _, ⟨vs, r, e⟩ => ⟨vs, r, h _ e⟩
  | .rol _, ⟨vs, ob, r, e⟩ => ⟨vs, ob, r, h _ e⟩
  | .dic _, ⟨vs, r, e⟩ => ⟨vs, r, h _ e⟩
  | .ins _ _, ⟨vs, dx, r, e⟩ => ⟨vs, dx, r, h _ e⟩
  | .xd _, ⟨vs, r, e⟩ => ⟨vs, r, h _ e⟩

theorem Step.refl (ps : List Addr) (H : Hp) : Step ps H ps H := ⟨List.prefix_refl _, fun _ _ h n _ => absurd h n, fun _ _ h _ _ => h⟩
theorem Step.trans {ps qs rs : List Addr} {H H1 H2 : Hp} (a : Step ps H qs H1) (b : Step qs H1 rs H2) : Step ps H rs H2 := by
  have key : ∀ c o, H c = some o → (∀ z, o ≠ .tbl z) → c ∉ ps → c ∉ qs := fun c o h ht n hq => by
    obtain ⟨z, e⟩ := a.new c o hq n h
    exact ht z e
  refine ⟨a.pre.trans b.pre, fun c o hc n h => ?_, fun c o h ht n => b.fr c o (a.fr c o h ht n) ht (key c o h ht n)⟩
  by_cases ht : ∃ z, o = .tbl z
  · exact ht
  · have ht' : ∀ z, o ≠ .tbl z := fun z e => ht ⟨z, e⟩
    exact b.new c o hc (key c o h ht' n) (a.fr c o h ht' n)

section
variable {T : Tx} {ps : List Addr} {h : Hv} {H : Hp}
theorem View.get (v : View T ps h H) {i : Nat} {o : O} (e : h[i]? = some o) : ∃ a, ps[i]? = some a ∧ OAt ps H a o := by
  have hl : i < ps.length := by rw [v.len]; exact (List.getElem?_eq_some_iff.mp e).1
  exact ⟨ps[i], by simp [hl], v.ob i _ o (by simp [hl]) e⟩
theorem View.mem (v : View T ps h H) {a : Addr} (ha : a ∈ ps) : ∃ u, H a = some u ∧ (∀ z, u ≠ .tbl z) ∧ ∀ f, u ≠ .ext f := by
  obtain ⟨i, hi, e⟩ := List.getElem_of_mem ha
  have hl : i < h.length := by rw [← v.len]; exact hi
  exact (v.ob i a h[i] (by simp [hi, e]) (by simp [hl])).there
theorem View.fresh (v : View T ps h H) {p : Addr} (hp : H p = none) : p ∉ ps := fun z => by
  obtain ⟨u, e, _⟩ := v.mem z
  rw [hp] at e; cases e
theorem tabs_new {T : Tb} (t : LamX.Tabs T H) {p : Addr} (hp : H p = none) (o : HO) : LamX.Tabs T (upd H p o) := t.ext fun b u e => by rw [upd_ne (ne_of_none e hp)]; exact e
theorem tabs_put {T : Tb} (t : LamX.Tabs T H) {p : Addr} {u : HO} (hp : H p = some u) (h1 : ∀ z, u ≠ .tbl z) (h2 : ∀ f, u ≠ .ext f) (o : HO) : LamX.Tabs T (upd H p o) := fun q hq => by
  obtain ⟨z, e1, e2, e3⟩ := t q hq
  refine ⟨z, by rw [upd_ne (fun w => h1 z (by rw [w, hp] at e1; exact Option.some.inj e1))]; exact e1, e2, fun pos cv hc => ?_⟩
  obtain ⟨c, r1, r2⟩ := e3 pos cv hc
  refine ⟨c, r1, ?_⟩
  rw [upd_ne (fun w => h2 _ (by rw [w, hp] at r2; exact Option.some.inj r2))]
  exact r2
/-- a new object of ours -/
theorem View.alloc (v : View T ps h H) {p : Addr} (hp : H p = none) {o : O} {u : HO} (ho : OAt ps (upd H p u) p o) : View T (ps ++ [p]) (h ++ [o]) (upd H p u) ∧ Step ps H (ps ++ [p]) (upd H p u) ∧ (ps ++ [p])[h.length]? = some p := by
  have hn := v.fresh hp
  refine ⟨⟨by simp [v.len], ?_, fun i a o' e1 e2 => ?_, tabs_new v.tab hp u, T.mono _ _ (List.prefix_append _ _) v.fact⟩, ⟨List.prefix_append _ _, fun a o' ha hb he => ?_, fun a o' e _ _ => by rw [upd_ne (ne_of_none e hp)]; exact e⟩, by rw [← v.len]; simp⟩
  · rw [List.nodup_append]
    refine ⟨v.nd, by simp, fun a ha b hb => ?_⟩
    simp at hb
    rintro rfl
    exact hn (hb ▸ ha)
  · by_cases hi : i < ps.length
    · rw [List.getElem?_append_left hi] at e1
      rw [List.getElem?_append_left (by rw [← v.len]; exact hi)] at e2
      have q := v.ob i a o' e1 e2
      obtain ⟨u', e', _⟩ := q.there
      exact (q.put fun w hw => by rw [upd_ne (ne_of_none e' hp)]; exact hw).mono (List.prefix_append _ _)
    · have hi' : i = ps.length := by
        have := (List.getElem?_eq_some_iff.mp e1).1
        simp at this; omega
      subst hi'
      simp at e1
      rw [v.len] at e2
      simp at e2
      subst e1 e2
      exact ho.mono (List.prefix_append _ _)
  · simp at ha
    rcases ha with ha | ha
    · exact absurd ha hb
    · rw [ha, hp] at he; cases he
/-- an object of ours is another -/
theorem View.put (v : View T ps h H) {i : Nat} {a : Addr} (ha : ps[i]? = some a) {o : O} {u : HO} (ho : OAt ps (upd H a u) a o) : View T ps (h.set i o) (upd H a u) ∧ Step ps H ps (upd H a u) := by
  obtain ⟨u0, e0, t0, x0⟩ := v.mem (List.mem_of_getElem? ha)
  refine ⟨⟨by simp [v.len], v.nd, fun j b o' e1 e2 => ?_, tabs_put v.tab e0 t0 x0 u, v.fact⟩, ⟨List.prefix_refl _, fun _ _ h n _ => absurd h n, fun b o' e _ n => ?_⟩⟩
  · by_cases hj : j = i
    · subst hj
      rw [ha] at e1
      cases e1
      have hl : j < h.length := by rw [← v.len]; exact (List.getElem?_eq_some_iff.mp ha).1
      rw [List.getElem?_set_self hl] at e2
      cases e2
      exact ho
    · rw [List.getElem?_set_ne fun z => hj z.symm] at e2
      have q := v.ob j b o' e1 e2
      refine q.put fun w hw => ?_
      rw [upd_ne (fun z => hj ?_)]
      · exact hw
      · subst z
        have h1 := List.getElem?_eq_some_iff.mp ha
        have h2 := List.getElem?_eq_some_iff.mp e1
        exact (List.getElem_inj v.nd).mp (h2.2.trans h1.2.symm)
  · rw [upd_ne (fun z => n (by rw [z]; exact List.mem_of_getElem? ha))]
    exact e
end

/-! ### results -/
inductive Res (α : Type) where
  | val (a : α) (h : Hv)
  | exc (c : String) (d : Option Nat) (h : Hv)
  | bad
namespace Res
def bind {α β : Type} : Res α → (α → Hv → Res β) → Res β
  | .val a h, k => k a h
  | .exc c d h, _ => .exc c d h
  | .bad, _ => .bad
end Res
def DV (ps : List Addr) : Option Nat → Option Addr → Prop
  | none, d => d = none
  | some i, d => ∃ a, ps[i]? = some a ∧ d = some a

def Good {α β : Type} (T : Tx) (R : List Addr → α → β → Prop) (ps : List Addr) (H : Hp) : Res α → (β → Hp → Prop) → XK → Prop
  | .val w h, Q, _ => ∀ qs H' v, Step ps H qs H' → View T qs h H' → R qs w v → Q v H'
  | .exc c d h, _, E => ∀ qs H' e, Step ps H qs H' → View T qs h H' → DV qs d e → E (T.cv c) e H'
  | .bad, _, _ => False
section
variable {α β γ δ : Type} {T : Tx} {R : List Addr → α → β → Prop} {S : List Addr → γ → δ → Prop} {ps qs : List Addr} {H H1 : Hp} {h : Hv} {r : Res α} {Q : β → Hp → Prop} {E : XK}
theorem Good.step (g : Good T R ps H r Q E) (s : Step ps H qs H1) : Good T R qs H1 r Q E := by
  cases r with
  | val w h => exact fun rs H' v s' => g rs H' v (s.trans s')
  | exc c d h => exact fun rs H' e s' => g rs H' e (s.trans s')
  | bad => exact g
/-- what stands between two pieces -/
def Mid (T : Tx) (R : List Addr → α → β → Prop) (S : List Addr → γ → δ → Prop) (ps : List Addr) (H : Hp) (k : α → Hv → Res γ) (Q : δ → Hp → Prop) (E : XK) (v : β) (H1 : Hp) : Prop :=
  ∃ qs w h1, Step ps H qs H1 ∧ View T qs h1 H1 ∧ R qs w v ∧ Good T S qs H1 (k w h1) Q E
theorem Good.bind {k : α → Hv → Res γ} {Q : δ → Hp → Prop} (g : Good T S ps H (r.bind k) Q E) : Good T R ps H r (Mid T R S ps H k Q E) E := by
  cases r with
  | val w h => exact fun qs H' v s vw rv => ⟨qs, w, h, s, vw, rv, Good.step g s⟩
  | exc c d h => exact g
  | bad => exact g
theorem Good.imp {Q' : β → Hp → Prop} {E' : XK} (g : Good T R ps H r Q E) (hq : ∀ v H', Q v H' → Q' v H') (he : ∀ c d H', E c d H' → E' c d H') : Good T R ps H r Q' E' := by
  cases r with
  | val w h => exact fun qs H' v s vw rv => hq _ _ (g qs H' v s vw rv)
  | exc c d h => exact fun qs H' e s vw rv => he _ _ _ (g qs H' e s vw rv)
  | bad => exact g
theorem Good.now {w : α} {v : β} (g : Good T R ps H (.val w h) Q E) (vw : View T ps h H) (rv : R ps w v) : Q v H := g ps H v (Step.refl _ _) vw rv
end

/-- the def's names -/
def ES (ps : List Addr) (r : Ws) (s : St) : Prop := r.length = s.length ∧ ∀ (i : Nat) (w : W), r[i]? = some (some w) → ∃ v, s[i]? = some (some v) ∧ WV ps w v
theorem ES.mono {ps qs : List Addr} {r : Ws} {s : St} (e : ES ps r s) (h : ps <+: qs) : ES qs r s := ⟨e.1, fun i w q => by
  obtain ⟨v, a, b⟩ := e.2 i w q
  exact ⟨v, a, b.mono h⟩⟩
theorem ES.set {ps : List Addr} {r : Ws} {s : St} {w : W} {v : V} (e : ES ps r s) (i : Nat) (h : WV ps w v) : ES ps (r.set i (some w)) (s.set i (some v)) := ⟨by simp [e.1], fun j u q => by
  by_cases hj : j = i
  · subst hj
    have hl : j < r.length := by simpa using (List.getElem?_eq_some_iff.mp q).1
    rw [List.getElem?_set_self hl] at q
    cases q
    exact ⟨v, by rw [List.getElem?_set_self (by rw [← e.1]; exact hl)], h⟩
  · rw [List.getElem?_set_ne (Ne.symm hj)] at q
    rw [List.getElem?_set_ne (Ne.symm hj)]
    exact e.2 j u q⟩

abbrev BEq2 : List Addr → Bool → Bool → Prop := fun _ a b => a = b
/-- the readings -/
def tE (T : Tx) (E : WX) (f : Ws → Hv → Res W) : TE := fun s H Q => ∃ ps r h, ES ps r s ∧ View T ps h H ∧ Good T WV ps H (f r h) Q (fun c d H' => E c d s H')
def tT (T : Tx) (E : WX) (f : Ws → Hv → Res Bool) : TT := fun s H Q => ∃ ps r h, ES ps r s ∧ View T ps h H ∧ Good T BEq2 ps H (f r h) Q (fun c d H' => E c d s H')
def tA (T : Tx) (E : WX) (f : Ws → Hv → Res (List W)) : TA := fun s H Q => ∃ ps r h, ES ps r s ∧ View T ps h H ∧ Good T (fun qs => Paired (WV qs)) ps H (f r h) Q (fun c d H' => E c d s H')

inductive ResS where
  | nx (r : Ws) (h : Hv) | rt (w : W) (h : Hv) | bk (r : Ws) (h : Hv) | ct (r : Ws) (h : Hv) | exc (c : String) (d : Option Nat) (r : Ws) (h : Hv) | bad
def GoodS (T : Tx) (ps : List Addr) (H : Hp) : ResS → Ends → WX → Prop
  | .nx r h, D, _ => ∀ qs H' s, Step ps H qs H' → View T qs h H' → ES qs r s → D.nx s H'
  | .rt w h, D, _ => ∀ qs H' v, Step ps H qs H' → View T qs h H' → WV qs w v → D.rt v H'
  | .bk r h, D, _ => ∀ qs H' s, Step ps H qs H' → View T qs h H' → ES qs r s → D.bk s H'
  | .ct r h, D, _ => ∀ qs H' s, Step ps H qs H' → View T qs h H' → ES qs r s → D.ct s H'
  | .exc c d r h, _, E => ∀ qs H' s e, Step ps H qs H' → View T qs h H' → ES qs r s → DV qs d e → E (T.cv c) e s H'
  | .bad, _, _ => False
theorem GoodS.step {T : Tx} {ps qs : List Addr} {H H1 : Hp} {r : ResS} {D : Ends} {E : WX} (g : GoodS T ps H r D E) (s : Step ps H qs H1) : GoodS T qs H1 r D E := by
  cases r with
  | nx r h => exact fun rs H' v s' => g rs H' v (s.trans s')
  | rt r h => exact fun rs H' v s' => g rs H' v (s.trans s')
  | bk r h => exact fun rs H' v s' => g rs H' v (s.trans s')
  | ct r h => exact fun rs H' v s' => g rs H' v (s.trans s')
  | exc c d r h => exact fun rs H' v e s' => g rs H' v e (s.trans s')
  | bad => exact g
def tS (T : Tx) (E : WX) (f : Ws → Hv → ResS) : TS := fun D s H => ∃ ps r h, ES ps r s ∧ View T ps h H ∧ GoodS T ps H (f r h) D E

/-- the context's wish about exceptions -/
structure Cn (X : Cx) (E : WX) : Prop where
  tk : Takes X E
  po : PassesOwn (model X.prog X.w) X.A X.env X.xe
def SE (T : Tx) (X : Cx) (e : Expr) (f : Ws → Hv → Res W) : Prop := ∀ E, Cn X E → PE X e (tE T E f)
def STt (T : Tx) (X : Cx) (e : Expr) (f : Ws → Hv → Res Bool) : Prop := ∀ E, Cn X E → PT X e (tT T E f)
def SA (T : Tx) (X : Cx) (es : List Expr) (f : Ws → Hv → Res (List W)) : Prop := ∀ E, Cn X E → PA X es (tA T E f)
def SS (T : Tx) (X : Cx) (st : Stmt) (f : Ws → Hv → ResS) : Prop := ∀ E, Cn X E → PS X st (tS T E f)
def SSs (T : Tx) (X : Cx) (st : List Stmt) (f : Ws → Hv → ResS) : Prop := ∀ E, Cn X E → PSs X st (tS T E f)

section
variable {X : Cx} {e : Expr} {es : List Expr} {st : Stmt} {sts : List Stmt}
theorem PEi {t t' : TE} (h : PE X e t) (k : ∀ s H Q, t' s H Q → t s H Q) : PE X e t' := ⟨fun pins s σ H Q I hw => h.run pins s σ H Q I (k _ _ _ hw)⟩
theorem PTi {t t' : TT} (h : PT X e t) (k : ∀ s H Q, t' s H Q → t s H Q) : PT X e t' := ⟨fun pins s σ H Q I hw => h.run pins s σ H Q I (k _ _ _ hw)⟩
theorem PAi {t t' : TA} (h : PA X es t) (k : ∀ s H Q, t' s H Q → t s H Q) : PA X es t' := ⟨fun pos pins s σ H Q I hw => h.run pos pins s σ H Q I (k _ _ _ hw)⟩
theorem PSi {t t' : TS} (h : PS X st t) (k : ∀ D s H, t' D s H → t D s H) : PS X st t' := ⟨fun pins s σ H D I hw => h.run pins s σ H D I (k _ _ _ hw)⟩
theorem PSsi {t t' : TS} (h : PSs X sts t) (k : ∀ D s H, t' D s H → t D s H) : PSs X sts t' := ⟨fun pins s σ H D I hw => h.run pins s σ H D I (k _ _ _ hw)⟩
end
end VL
end
section
namespace VL
open PySem L2

/-! ### names, and what stands for itself -/
def mVar (i : Nat) : Ws → Hv → Res W := fun r h => match r[i]? with
  | some (some w) => .val w h
  | _ => .bad
def mC (w : W) : Ws → Hv → Res W := fun _ h => .val w h
section
variable {T : Tx} {X : Cx}
theorem se_var (i : Nat) {x : Str} {pos : Pos} (hN : X.N[i]? = some x := by rfl) (hv : Vis X.env.scope x := by first | exact Or.inl rfl | exact Or.inr (Or.inl rfl) | exact Or.inr (Or.inr rfl)) (hd : (x == ("__debug__" : Str)) = false := by decide)
    (hcd : (x == ("__classdict__" : Str)) = false := by decide) : SE T X (.Name x pos) (mVar i) := fun E cn => PEi (pe_var hN hv hd hcd) fun s H Q ⟨ps, r, h, es, vw, g⟩ => by
  unfold mVar at g
  split at g
  · rename_i w e
    obtain ⟨v, h1, h2⟩ := es.2 i w e
    exact ⟨v, h1, Good.now g vw h2⟩
  · exact g.elim
theorem se_c {e : Expr} {v : V} {w : W} (hp : PE X e (tC v)) (hw : ∀ ps, WV ps w v) : SE T X e (mC w) := fun E cn => PEi hp fun s H Q ⟨ps, r, h, es, vw, g⟩ => Good.now g vw (hw ps)
theorem se_int {i : Int} {j pos} : SE T X (.Constant (.int i) j pos) (mC (.int i)) := se_c pe_int fun _ => rfl
theorem se_bl {b : Bool} {j pos} : SE T X (.Constant (.bool b) j pos) (mC (.bl b)) := se_c pe_bl fun _ => rfl
theorem se_non {j pos} : SE T X (.Constant .none j pos) (mC .non) := se_c pe_non fun _ => rfl
theorem se_str {x : Str} {j pos} : SE T X (.Constant (.str x) j pos) (mC (.str x)) := se_c pe_str fun _ => rfl
theorem se_fix {x : Str} {a : Addr} {pos : Pos} (hg : Gl X x) (hm : X.mg x = some (.ref a)) (hd : (x == ("__debug__" : Str)) = false := by decide) : SE T X (.Name x pos) (mC (.fix a)) := se_c (pe_glob (v := .ref a) hg hm rfl hd) fun _ => rfl
theorem se_ty {x : Str} {n : String} {pos : Pos} (hg : Gl X x) (hm : X.mg x = none) (hv : bootBuiltins x = some (.type n)) (hn : x ≠ "__name__" := by decide) (hd : (x == ("__debug__" : Str)) = false := by decide) : SE T X (.Name x pos) (mC (.ty n)) :=
  se_c (pe_bltn (v := .ty n) hg hm hv rfl hn hd) fun _ => rfl
end

/-! ### operators -/
abbrev MOp := W → W → Hv → Res W
def RO (T : Tx) (r : R2) (g : MOp) : Prop := ∀ ps h H x y vx vy (Q : VK) (E : XK), View T ps h H → WV ps x vx → WV ps y vy → Good T WV ps H (g x y h) Q E → r vx vy H Q
def m2 (g : MOp) (fa fb : Ws → Hv → Res W) : Ws → Hv → Res W := fun r h => (fa r h).bind fun x h1 => (fb r h1).bind fun y h2 => g x y h2
section
variable {T : Tx} {X : Cx} {a b : Expr} {fa fb : Ws → Hv → Res W} {pos : Pos}
theorem two_of {E : WX} {r : R2} {g : MOp} (ho : RO T r g) {s : St} {H : Hp} {Q : VK} (h : tE T E (m2 g fa fb) s H Q) : tOp r (tE T E fa) (tE T E fb) s H Q := by
  obtain ⟨ps, r', hv, es, vw, gd⟩ := h
  refine ⟨ps, r', hv, es, vw, (Good.bind (R := WV) gd).imp (fun v H1 q => ?_) fun _ _ _ z => z⟩
  obtain ⟨qs, w, h1, st, vw1, wv, g1⟩ := q
  refine ⟨qs, r', h1, es.mono st.pre, vw1, (Good.bind (R := WV) g1).imp (fun u H2 q2 => ?_) fun _ _ _ z => z⟩
  obtain ⟨rs, w2, h2, st2, vw2, wv2, g2⟩ := q2
  exact ho rs h2 H2 w w2 v u Q _ vw2 (wv.mono st2.pre) wv2 g2
theorem se_op {op : Operator} {r : R2} {g : MOp} (ho : OpR X (binaryOp op) r) (hg : RO T r g) (ha : SE T X a fa) (hb : SE T X b fb) : SE T X (.BinOp a op b pos) (m2 g fa fb) := fun E cn =>
  PEi (pe_op ho (ha E cn) (hb E cn)) fun s H Q h => two_of hg h
theorem se_cmp {op : CmpOp} {r : R2} {g : MOp} (ho : OpR X (compareOp op) r) (hg : RO T r g) (ha : SE T X a fa) (hb : SE T X b fb) (hm : behindInMarks op b = false) : SE T X (.Compare a [op] [b] pos) (m2 g fa fb) := fun E cn =>
  PEi (pe_cmpR ho (ha E cn) (hb E cn) hm) fun s H Q h => two_of hg h
theorem RO.or {r r' : R2} {g : MOp} (h : ∀ ps h H x y vx vy (Q : VK) (E : XK), View T ps h H → WV ps x vx → WV ps y vy → Good T WV ps H (g x y h) Q E → r vx vy H Q ∨ r' vx vy H Q) : RO T (fun x y H Q => r x y H Q ∨ r' x y H Q) g := h

/-- two ints -/
def mI (C : Int → Int → Bool) (g : Int → Int → W) : MOp := fun x y h => match x, y with
  | .int i, .int j => if C i j then .val (g i j) h else .bad
  | _, _ => .bad
theorem ro_I {C : Int → Int → Prop} {C' : Int → Int → Bool} {g : Int → Int → W} {gv : Int → Int → V} (hc : ∀ i j, C' i j = true → C i j) (hg : ∀ ps i j, WV ps (g i j) (gv i j)) : RO T (rI C gv) (mI C' g) := by
  intro ps h H x y vx vy Q E vw wx wy gd
  unfold mI at gd
  split at gd
  · rename_i i j
    split at gd
    · rename_i hcc
      cases wx; cases wy
      exact ⟨i, j, rfl, rfl, hc i j hcc, Good.now gd vw (hg ps i j)⟩
    · exact gd.elim
  · exact gd.elim
def mI0 (g : Int → Int → W) : MOp := fun x y h => match x, y with
  | .int i, .int j => .val (g i j) h
  | _, _ => .bad
theorem ro_I0 {g : Int → Int → W} {gv : Int → Int → V} (hg : ∀ ps i j, WV ps (g i j) (gv i j)) : RO T (rI0 gv) (mI0 g) := by
  intro ps h H x y vx vy Q E vw wx wy gd
  unfold mI0 at gd
  split at gd
  · rename_i i j
    cases wx; cases wy
    exact ⟨i, j, rfl, rfl, Good.now gd vw (hg ps i j)⟩
  · exact gd.elim

/-! ### objects -/
def mNew (o : O) (h : Hv) : Res W := .val (.ref h.length) (h ++ [o])
theorem good_new {ps : List Addr} {h : Hv} {H : Hp} {o : O} {u : HO} {Q : VK} {E : XK} (vw : View T ps h H) (g : Good T WV ps H (mNew o h) Q E) (ho : ∀ H' p, H' p = some u → OAt ps H' p o) {p : Addr} (hp : H p = none) : Q (.ref p) (upd H p u) := by
  obtain ⟨v1, s1, e1⟩ := vw.alloc hp (ho _ p upd_same)
  exact g _ _ _ s1 v1 ⟨p, e1, rfl⟩
theorem paired_app {ps : List Addr} {xs ys : List W} {vs us : List V} (a : Paired (WV ps) xs vs) (b : Paired (WV ps) ys us) : Paired (WV ps) (xs ++ ys) (vs ++ us) := by
  induction a with
  | nil => exact b
  | cons h t ih => exact .cons h ih
theorem paired_get {ps : List Addr} {xs : List W} {vs : List V} (a : Paired (WV ps) xs vs) : ∀ {i : Nat} {w : W}, xs[i]? = some w → ∃ v, vs[i]? = some v ∧ WV ps w v := by
  induction a with
  | nil => intro i w e; simp at e
  | cons h t ih =>
    intro i w e
    cases i with
    | zero => simp at e; subst e; exact ⟨_, rfl, h⟩
    | succ i => exact ih (by simpa using e)
theorem paired_at {ps : List Addr} {xs : List W} {vs : List V} (a : Paired (WV ps) xs vs) {i : Int} {w : W} (e : atI xs i = some w) : ∃ v, atI vs i = some v ∧ WV ps w v := by
  unfold atI at e ⊢
  rw [← a.length]
  cases h : ixN xs.length i with
  | none => rw [h] at e; cases e
  | some j =>
    rw [h] at e
    exact paired_get a e
theorem paired_set {ps : List Addr} {xs : List W} {vs : List V} (a : Paired (WV ps) xs vs) {w : W} {v : V} (h : WV ps w v) : ∀ i, Paired (WV ps) (xs.set i w) (vs.set i v) := by
  induction a with
  | nil => intro i; exact .nil
  | cons h1 t ih =>
    intro i
    cases i with
    | zero => exact .cons h t
    | succ i => exact .cons h1 (ih i)
theorem paired_take {ps : List Addr} {xs : List W} {vs : List V} (a : Paired (WV ps) xs vs) : ∀ n, Paired (WV ps) (xs.take n) (vs.take n) := by
  induction a with
  | nil => intro n; simp; exact .nil
  | cons h1 t ih =>
    intro n
    cases n with
    | zero => exact .nil
    | succ n => exact .cons h1 (ih n)
theorem paired_drop {ps : List Addr} {xs : List W} {vs : List V} (a : Paired (WV ps) xs vs) : ∀ n, Paired (WV ps) (xs.drop n) (vs.drop n) := by
  induction a with
  | nil => intro n; simp; exact .nil
  | cons h1 t ih =>
    intro n
    cases n with
    | zero => exact .cons h1 t
    | succ n => exact ih n
theorem paired_rep {ps : List Addr} {xs : List W} {vs : List V} (a : Paired (WV ps) xs vs) : ∀ n, Paired (WV ps) (List.replicate n xs).flatten (List.replicate n vs).flatten
  | 0 => .nil
  | n + 1 => by
    simp only [List.replicate_succ, List.flatten_cons]
    exact paired_app a (paired_rep a n)
end

/-! ### argument lists, displays -/
def mNil : Ws → Hv → Res (List W) := fun _ h => .val [] h
def mCons (f : Ws → Hv → Res W) (g : Ws → Hv → Res (List W)) : Ws → Hv → Res (List W) := fun r h => (f r h).bind fun w h1 => (g r h1).bind fun ws h2 => .val (w :: ws) h2
abbrev WVs : List Addr → List W → List V → Prop := fun qs => Paired (WV qs)
section
variable {T : Tx} {X : Cx} {e : Expr} {es : List Expr} {f : Ws → Hv → Res W} {g : Ws → Hv → Res (List W)} {pos : Pos}
theorem sa_nil : SA T X [] mNil := fun E cn => PAi pa_nil fun s H Q ⟨ps, r, h, es, vw, g⟩ => Good.now (R := WVs) g vw .nil
theorem sa_cons (h1 : SE T X e f) (h2 : SA T X es g) (hs : starEach (e :: es) X.env = (false, eval e X.env) :: starEach es X.env := by rfl) : SA T X (e :: es) (mCons f g) := fun E cn =>
  PAi (pa_cons (h1 E cn) (h2 E cn) hs) fun s H Q ⟨ps, r, h, es, vw, gd⟩ => by
    refine ⟨ps, r, h, es, vw, (Good.bind (R := WV) (S := WVs) gd).imp (fun v H1 q => ?_) fun _ _ _ z => z⟩
    obtain ⟨qs, w, h1, st, vw1, wv, g1⟩ := q
    refine ⟨qs, r, h1, es.mono st.pre, vw1, (Good.bind (R := WVs) (S := WVs) g1).imp (fun u H2 q2 => ?_) fun _ _ _ z => z⟩
    obtain ⟨rs, w2, h2, st2, vw2, wv2, g2⟩ := q2
    exact Good.now (R := WVs) g2 vw2 (.cons (wv.mono st2.pre) wv2)
def mTup (g : Ws → Hv → Res (List W)) : Ws → Hv → Res W := fun r h => (g r h).bind fun ws h1 => if ws.length ≤ 100000 then mNew (.tup ws) h1 else .bad
def mLst (g : Ws → Hv → Res (List W)) : Ws → Hv → Res W := fun r h => (g r h).bind fun ws h1 => if ws.length ≤ 100000 then mNew (.lst ws) h1 else .bad
theorem sz_ok {n : Nat} (h : n ≤ 100000) : n ≤ sizeLine := Nat.le_trans h (by decide)
theorem se_tup {x1} (ha : SA T X es g) : SE T X (.Tuple es x1 pos) (mTup g) := fun E cn => PEi (pe_tup (ha E cn)) fun s H Q ⟨ps, r, h, es, vw, gd⟩ => by
  refine ⟨ps, r, h, es, vw, (Good.bind (R := WVs) (S := WV) gd).imp (fun v H1 q => ?_) fun _ _ _ z => z⟩
  obtain ⟨qs, w, h1, st, vw1, wv, g1⟩ := q
  have wl : w.length = v.length := wv.length
  dsimp only at g1
  split at g1
  · rename_i hl
    exact ⟨sz_ok (wl ▸ hl), fun p hp => good_new vw1 g1 (fun H' p' e => ⟨v, wv, e⟩) hp⟩
  · exact g1.elim
theorem se_lst (ha : SA T X es g) : SE T X (.List es pos) (mLst g) := fun E cn => PEi (pe_lst (ha E cn)) fun s H Q ⟨ps, r, h, es, vw, gd⟩ => by
  refine ⟨ps, r, h, es, vw, (Good.bind (R := WVs) (S := WV) gd).imp (fun v H1 q => ?_) fun _ _ _ z => z⟩
  obtain ⟨qs, w, h1, st, vw1, wv, g1⟩ := q
  have wl : w.length = v.length := wv.length
  dsimp only at g1
  split at g1
  · rename_i hl
    exact ⟨sz_ok (wl ▸ hl), fun p hp => good_new vw1 g1 (fun H' p' e => ⟨v, wv, e⟩) hp⟩
  · exact g1.elim
end

/-! ### tests, and, or, not -/
def asB (w : W) (h : Hv) : Res Bool := match w with
  | .bl b => .val b h
  | _ => .bad
def mT (f : Ws → Hv → Res W) : Ws → Hv → Res Bool := fun r h => (f r h).bind asB
section
variable {T : Tx} {X : Cx} {e a b c : Expr} {f fa fb : Ws → Hv → Res W} {t u : Ws → Hv → Res Bool} {rest : List Expr} {pos : Pos}
theorem asB_of {ps : List Addr} {H : Hp} {w : W} {h : Hv} {v : V} {Q : Bool → Hp → Prop} {E : XK} (vw : View T ps h H) (wv : WV ps w v) (g : Good T BEq2 ps H (asB w h) Q E) : ∃ k, v = .bl k ∧ Q k H := by
  unfold asB at g
  split at g
  · rename_i k
    exact ⟨k, wv, Good.now (R := BEq2) g vw rfl⟩
  · exact g.elim
theorem test_of {E : WX} {s : St} {H : Hp} {Q : Bool → Hp → Prop} (h : tT T E (mT f) s H Q) : tE T E f s H fun x H1 => ∃ k, x = .bl k ∧ Q k H1 := by
  obtain ⟨ps, r, hv, es, vw, gd⟩ := h
  refine ⟨ps, r, hv, es, vw, (Good.bind (R := WV) (S := BEq2) gd).imp (fun v H1 q => ?_) fun _ _ _ z => z⟩
  obtain ⟨qs, w, h1, st, vw1, wv, g1⟩ := q
  exact asB_of vw1 wv g1
/-- a plain expression -/
theorem st_val (h : SE T X e f) (he : ∀ whole, isTrue e X.env whole = (do let v ← whole; standAt e.pos; holding [v] (truthy v)) := by intro _; rfl) : STt T X e (mT f) := fun E cn => PTi (pt_val (h E cn) he) fun s H Q h => test_of h
theorem st_cmp {op : CmpOp} {r : R2} {g : MOp} (ho : OpR X (compareOp op) r) (hg : RO T r g) (ha : SE T X a fa) (hb : SE T X b fb) (hm : behindInMarks op b = false) : STt T X (.Compare a [op] [b] pos) (mT (m2 g fa fb)) := fun E cn =>
  PTi (pt_cmpR ho (ha E cn) (hb E cn) hm) fun s H Q ⟨ps, r', h, es, vw, gd⟩ => by
    have z : tE T E (m2 g fa fb) s H fun x H' => ∃ k, x = .bl k ∧ Q k H' := test_of ⟨ps, r', h, es, vw, gd⟩
    exact two_of hg z
def mNotT (t : Ws → Hv → Res Bool) : Ws → Hv → Res Bool := fun r h => (t r h).bind fun b h1 => .val (!b) h1
def mAndT (t u : Ws → Hv → Res Bool) : Ws → Hv → Res Bool := fun r h => (t r h).bind fun b h1 => if b then u r h1 else .val false h1
def mOrT (t u : Ws → Hv → Res Bool) : Ws → Hv → Res Bool := fun r h => (t r h).bind fun b h1 => if b then .val true h1 else u r h1
theorem st_not (ha : STt T X a t) : STt T X (.UnaryOp .Not a pos) (mNotT t) := fun E cn => PTi (pt_not (ha E cn)) fun s H Q ⟨ps, r, h, es, vw, gd⟩ => by
  refine ⟨ps, r, h, es, vw, (Good.bind (R := BEq2) (S := BEq2) gd).imp (fun v H1 q => ?_) fun _ _ _ z => z⟩
  obtain ⟨qs, w, h1, st, vw1, wv, g1⟩ := q
  cases wv
  exact Good.now (R := BEq2) g1 vw1 rfl
/-- a chain of and, or -/
def SW (T : Tx) (X : Cx) (e : Expr) (f : Ws → Hv → Res Bool) : Prop := ∀ E, Cn X E → PW X e (tT T E f)
theorem PWi {t t' : TT} (h : PW X e t) (k : ∀ s H Q, t' s H Q → t s H Q) : PW X e t' := ⟨fun wh pins s σ H Q I hw => h.run wh pins s σ H Q I (k _ _ _ hw)⟩
theorem sw_and1 (ha : STt T X a t) : SW T X (.BoolOp .And [a] pos) t := fun E cn => pw_and1 (ha E cn)
theorem sw_or1 (ha : STt T X a t) : SW T X (.BoolOp .Or [a] pos) t := fun E cn => pw_or1 (ha E cn)
theorem sw_and (ha : STt T X a t) (hb : SW T X (.BoolOp .And (b :: rest) pos) u) : SW T X (.BoolOp .And (a :: b :: rest) pos) (mAndT t u) := fun E cn => PWi (pw_and (ha E cn) (hb E cn)) fun s H Q ⟨ps, r, h, es, vw, gd⟩ => by
  refine ⟨ps, r, h, es, vw, (Good.bind (R := BEq2) (S := BEq2) gd).imp (fun v H1 q => ?_) fun _ _ _ z => z⟩
  obtain ⟨qs, w, h1, st, vw1, wv, g1⟩ := q
  cases wv
  cases v with
  | true => exact iteT ⟨qs, r, h1, es.mono st.pre, vw1, g1⟩
  | false => exact iteF (Good.now (R := BEq2) g1 vw1 rfl)
theorem sw_or (ha : STt T X a t) (hb : SW T X (.BoolOp .Or (b :: rest) pos) u) : SW T X (.BoolOp .Or (a :: b :: rest) pos) (mOrT t u) := fun E cn => PWi (pw_or (ha E cn) (hb E cn)) fun s H Q ⟨ps, r, h, es, vw, gd⟩ => by
  refine ⟨ps, r, h, es, vw, (Good.bind (R := BEq2) (S := BEq2) gd).imp (fun v H1 q => ?_) fun _ _ _ z => z⟩
  obtain ⟨qs, w, h1, st, vw1, wv, g1⟩ := q
  cases wv
  cases v with
  | true => exact iteT (Good.now (R := BEq2) g1 vw1 rfl)
  | false => exact iteF ⟨qs, r, h1, es.mono st.pre, vw1, g1⟩
theorem st_w (h : SW T X e t) : STt T X e t := fun E cn => (h E cn).pt
/-- .. as values -/
def mNotV (f : Ws → Hv → Res W) : Ws → Hv → Res W := fun r h => (mT f r h).bind fun b h1 => .val (.bl (!b)) h1
def mAndV (f g : Ws → Hv → Res W) : Ws → Hv → Res W := fun r h => (mT f r h).bind fun b h1 => if b then g r h1 else .val (.bl false) h1
def mOrV (f g : Ws → Hv → Res W) : Ws → Hv → Res W := fun r h => (mT f r h).bind fun b h1 => if b then .val (.bl true) h1 else g r h1
theorem se_one {op} (h : SE T X a f) : SE T X (.BoolOp op [a] pos) f := fun E cn => pe_one (h E cn)
theorem val_of {E : WX} {s : St} {H : Hp} {Q : VK} {k : Bool → Ws → Hv → Res W} {P : Bool → Hp → Prop} (h : tE T E (fun r h => (mT f r h).bind fun b h1 => k b r h1) s H Q) (hk : ∀ b H1, tE T E (k b) s H1 Q → P b H1) :
    tE T E f s H fun x H1 => ∃ c, x = .bl c ∧ P c H1 := by
  obtain ⟨ps, r, hv, es, vw, gd⟩ := h
  have z := (Good.bind (R := BEq2) (S := WV) gd)
  refine test_of ⟨ps, r, hv, es, vw, z.imp (fun v H1 q => ?_) fun _ _ _ z => z⟩
  obtain ⟨qs, w, h1, st, vw1, wv, g1⟩ := q
  cases wv
  exact hk v H1 ⟨qs, r, h1, es.mono st.pre, vw1, g1⟩
theorem tE_val {E : WX} {s : St} {H : Hp} {Q : VK} {w : W} {v : V} (h : tE T E (fun _ h => .val w h) s H Q) (hw : ∀ ps, WV ps w v) : Q v H := by
  obtain ⟨ps, r, hv, es, vw, gd⟩ := h
  exact Good.now (R := WV) gd vw (hw ps)
theorem se_not (ha : SE T X a f) : SE T X (.UnaryOp .Not a pos) (mNotV f) := fun E cn => PEi (pe_not (ha E cn)) fun s H Q h =>
  val_of (k := fun b _ h1 => .val (.bl (!b)) h1) h fun b H1 q => tE_val q fun _ => rfl
theorem se_and (ha : SE T X a fa) (hb : SE T X (.BoolOp .And (b :: rest) pos) fb) : SE T X (.BoolOp .And (a :: b :: rest) pos) (mAndV fa fb) := fun E cn => PEi (pe_and (ha E cn) (hb E cn)) fun s H Q h =>
  val_of (k := fun b r h1 => if b then fb r h1 else .val (.bl false) h1) h fun b H1 q => by
    cases b with
    | true => exact iteT q
    | false => exact iteF (tE_val (w := .bl false) q fun _ => rfl)
theorem se_or (ha : SE T X a fa) (hb : SE T X (.BoolOp .Or (b :: rest) pos) fb) : SE T X (.BoolOp .Or (a :: b :: rest) pos) (mOrV fa fb) := fun E cn => PEi (pe_or (ha E cn) (hb E cn)) fun s H Q h =>
  val_of (k := fun b r h1 => if b then .val (.bl true) h1 else fb r h1) h fun b H1 q => by
    cases b with
    | true => exact iteT (tE_val (w := .bl true) q fun _ => rfl)
    | false => exact iteF q
def mIf (t : Ws → Hv → Res Bool) (f g : Ws → Hv → Res W) : Ws → Hv → Res W := fun r h => (t r h).bind fun b h1 => if b then f r h1 else g r h1
theorem se_if (hc : STt T X c t) (ha : SE T X a fa) (hb : SE T X b fb) : SE T X (.IfExp c a b pos) (mIf t fa fb) := fun E cn => PEi (pe_ifExp (hc E cn) (ha E cn) (hb E cn)) fun s H Q ⟨ps, r, h, es, vw, gd⟩ => by
  refine ⟨ps, r, h, es, vw, (Good.bind (R := BEq2) (S := WV) gd).imp (fun v H1 q => ?_) fun _ _ _ z => z⟩
  obtain ⟨qs, w, h1, st, vw1, wv, g1⟩ := q
  cases wv
  cases v with
  | true => exact iteT ⟨qs, r, h1, es.mono st.pre, vw1, g1⟩
  | false => exact iteF ⟨qs, r, h1, es.mono st.pre, vw1, g1⟩
end
end VL
end
section
namespace VL
open PySem L2

/-! ### values as data -/
def optAll (f : W → Option PyData) : List W → Option (List PyData)
  | [] => some []
  | x :: xs => match f x, optAll f xs with
    | some y, some ys => some (y :: ys)
    | _, _ => none
def toD : Nat → Hv → W → Option PyData
  | 0, _, _ => none
  | n + 1, h, w => match w with
    | .non => some .none
    | .bl b => some (.bool b)
    | .int i => some (.int i)
    | .str x => some (.str x)
    | .ref i => match h[i]? with
      | some (.lst xs) => (optAll (toD n h) xs).map .list
      | some (.rol xs) => (optAll (toD n h) xs).map .list
      | some (.tup xs) => (optAll (toD n h) xs).map .tuple
      | _ => none
    | _ => none
section
variable {T : Tx} {K : PySem.W.Frag} {ps : List Addr} {h : Hv} {H : Hp}
theorem optAll_ok {f : W → Option PyData} (hf : ∀ w v d, f w = some d → WV ps w v → Dp K H v d) : ∀ {xs : List W} {vs : List V} {ds : List PyData}, optAll f xs = some ds → Paired (WV ps) xs vs → DpAll K H vs ds
  | [], _, _, e, .nil => by cases e; exact .nil
  | x :: xs, _, ds, e, .cons r t => by
    simp only [optAll] at e
    split at e
    · rename_i d ds' e1 e2
      cases e
      exact .cons (hf _ _ _ e1 r) (optAll_ok hf e2 t)
    · cases e
theorem toD_ok (vw : View T ps h H) : ∀ (n : Nat) (w : W) (v : V) (d : PyData), toD n h w = some d → WV ps w v → Dp K H v d
  | 0, _, _, _, e, _ => by cases e
  | n + 1, w, v, d, e, wv => by
    unfold toD at e
    split at e
    · cases e; cases wv; exact .non
    · cases e; cases wv; exact .bl _
    · cases e; cases wv; exact .int _
    · cases e; cases wv; exact .str _
    · rename_i i
      obtain ⟨a, ea, rfl⟩ := wv
      split at e
      · rename_i xs eh
        obtain ⟨vs, r, eH⟩ := vw.ob i a _ ea eh
        cases q : optAll (toD n h) xs with
        | none => simp [q] at e
        | some ds =>
          rw [q] at e; cases e
          exact .lst (SqL.of eH) (optAll_ok (toD_ok vw n) q r)
      · rename_i xs eh
        obtain ⟨vs, ob, r, eH⟩ := vw.ob i a _ ea eh
        cases q : optAll (toD n h) xs with
        | none => simp [q] at e
        | some ds =>
          rw [q] at e; cases e
          exact .lst (.inl (.inr ⟨ob, eH⟩)) (optAll_ok (toD_ok vw n) q r)
      · rename_i xs eh
        obtain ⟨vs, r, eH⟩ := vw.ob i a _ ea eh
        cases q : optAll (toD n h) xs with
        | none => simp [q] at e
        | some ds =>
          rw [q] at e; cases e
          exact .tup (SqT.of eH) (optAll_ok (toD_ok vw n) q r)
      · cases e
    · cases e
end
abbrev dF : Nat := 12
def mEq (neg : Bool) : MOp := fun x y h => match toD dF h x, toD dF h y with
  | some d, some e => if SeqAt.shaped d && SeqAt.shaped e then .val (.bl (if neg then !PyData.eqv d e else PyData.eqv d e)) h else .bad
  | _, _ => .bad
section
variable {T : Tx} {X : Cx}
theorem ro_eq : RO T (rEqD X.K) (mEq false) := by
  intro ps h H x y vx vy Q E vw wx wy gd
  unfold mEq at gd
  split at gd
  · rename_i d e e1 e2
    split at gd
    · rename_i hs
      rw [Bool.and_eq_true] at hs
      exact ⟨d, e, toD_ok vw _ _ _ _ e1 wx, toD_ok vw _ _ _ _ e2 wy, hs.1, hs.2, Good.now gd vw rfl⟩
    · exact gd.elim
  · exact gd.elim
theorem ro_ne : RO T (rNeD X.K) (mEq true) := by
  intro ps h H x y vx vy Q E vw wx wy gd
  unfold mEq at gd
  split at gd
  · rename_i d e e1 e2
    split at gd
    · rename_i hs
      rw [Bool.and_eq_true] at hs
      exact ⟨d, e, toD_ok vw _ _ _ _ e1 wx, toD_ok vw _ _ _ _ e2 wy, hs.1, hs.2, Good.now gd vw rfl⟩
    · exact gd.elim
  · exact gd.elim

/-! ### arithmetic -/
def mAdd : MOp := fun x y h => match x, y with
  | .int i, .int j => .val (.int (i + j)) h
  | .str a, .str b => if a.length + b.length ≤ 100000 then .val (.str (a ++ b)) h else .bad
  | .ref p, .ref q => match h[p]?, h[q]? with
    | some (.lst xs), some (.lst ys) => if xs.length + ys.length ≤ 100000 then mNew (.lst (xs ++ ys)) h else .bad
    | _, _ => .bad
  | _, _ => .bad
theorem op_addA : OpR X (binaryOp .Add) (fun x y H Q => (rI0 fun i j => .int (i + j)) x y H Q ∨ ((fun x y H Q => ∃ i j, x = V.str i ∧ y = V.str j ∧ i.length + j.length ≤ sizeLine ∧ Q (.str (i ++ j)) H) x y H Q ∨ rCat x y H Q)) := op_add.or (op_add_str.or op_cat)
theorem ro_add : RO T (fun x y H Q => (rI0 fun i j => .int (i + j)) x y H Q ∨ ((fun x y H Q => ∃ i j, x = V.str i ∧ y = V.str j ∧ i.length + j.length ≤ sizeLine ∧ Q (.str (i ++ j)) H) x y H Q ∨ rCat x y H Q)) mAdd := by
  intro ps h H x y vx vy Q E vw wx wy gd
  unfold mAdd at gd
  split at gd
  · cases wx; cases wy
    exact .inl ⟨_, _, rfl, rfl, Good.now gd vw rfl⟩
  · split at gd
    · rename_i hl
      cases wx; cases wy
      exact .inr (.inl ⟨_, _, rfl, rfl, sz_ok hl, Good.now gd vw rfl⟩)
    · exact gd.elim
  · obtain ⟨a, ea, rfl⟩ := wx
    obtain ⟨b, eb, rfl⟩ := wy
    split at gd
    · rename_i xs ys e1 e2
      split at gd
      · rename_i hl
        obtain ⟨vs, r, eH⟩ := vw.ob _ a _ ea e1
        obtain ⟨us, r2, eH2⟩ := vw.ob _ b _ eb e2
        have l1 := r.length
        have l2 := r2.length
        exact .inr (.inr ⟨a, b, vs, us, rfl, rfl, eH, eH2, sz_ok (by omega), fun p hp => good_new vw gd (fun H' p' e => ⟨_, paired_app r r2, e⟩) hp⟩)
      · exact gd.elim
    · exact gd.elim
  · exact gd.elim
def mSub : MOp := mI0 fun i j => .int (i - j)
theorem ro_sub : RO T (rI0 fun i j => .int (i - j)) mSub := ro_I0 fun _ _ _ => rfl
def mulB (i j : Int) : Bool := decide (i.natAbs.log2 + j.natAbs.log2 < 1000000)
def mMul : MOp := fun x y h => match x, y with
  | .int i, .int j => if mulB i j then .val (.int (i * j)) h else .bad
  | .ref p, .int k => match h[p]? with
    | some (.lst xs) => if decide (-9223372036854775808 ≤ k) && decide (k < 9223372036854775808) && decide (xs.length * k.toNat ≤ 100000) then mNew (.lst (List.replicate k.toNat xs).flatten) h else .bad
    | _ => .bad
  | _, _ => .bad
theorem op_mulA : OpR X (binaryOp .Mult) (fun x y H Q => (rI CMulW fun i j => .int (i * j)) x y H Q ∨ rRep x y H Q) := op_mulW.or op_rep
theorem ro_mul : RO T (fun x y H Q => (rI CMulW fun i j => .int (i * j)) x y H Q ∨ rRep x y H Q) mMul := by
  intro ps h H x y vx vy Q E vw wx wy gd
  unfold mMul at gd
  split at gd
  · split at gd
    · rename_i hc
      cases wx; cases wy
      exact .inl ⟨_, _, rfl, rfl, (show _ < 1000000 by unfold mulB at hc; exact of_decide_eq_true hc), Good.now gd vw rfl⟩
    · exact gd.elim
  · obtain ⟨a, ea, rfl⟩ := wx
    cases wy
    split at gd
    · rename_i k xs e1
      split at gd
      · rename_i hl
        simp only [Bool.and_eq_true, decide_eq_true_eq] at hl
        obtain ⟨vs, r, eH⟩ := vw.ob _ a _ ea e1
        have l1 := r.length
        have e63 : (2 : Int) ^ 63 = 9223372036854775808 := by decide
        exact .inr ⟨a, _, vs, rfl, rfl, eH, by rw [e63]; exact hl.1.1, by rw [e63]; exact hl.1.2, sz_ok (by rw [← l1]; exact hl.2), fun p hp => good_new vw gd (fun H' p' e => ⟨_, paired_rep r _, e⟩) hp⟩
      · exact gd.elim
    · exact gd.elim
  · exact gd.elim
def divB (_ j : Int) : Bool := decide (j ≠ 0) && decide (j.natAbs.log2 < 9000)
theorem op_fdivG : OpR X (binaryOp .FloorDiv) (rI (fun _ j => j ≠ 0 ∧ j.natAbs.log2 < 9000) fun i j => .int (i.fdiv j)) := opI fun i j _ _ _ _ _ hc q => PyProof.Rows.floordiv_int hc.1 q (.inl (PyProof.noPylong_of_log2 hc.2))
def mDiv : MOp := mI divB fun i j => .int (i.fdiv j)
theorem ro_div : RO T (rI (fun _ j => j ≠ 0 ∧ j.natAbs.log2 < 9000) fun i j => .int (i.fdiv j)) mDiv := ro_I (fun i j hc => by
  unfold divB at hc
  rw [Bool.and_eq_true] at hc
  exact ⟨of_decide_eq_true hc.1, of_decide_eq_true hc.2⟩) fun _ _ _ => rfl
def mMod : MOp := mI (fun _ j => decide (j ≠ 0)) fun i j => .int (i.fmod j)
theorem ro_mod : RO T (rI (fun _ j => j ≠ 0) fun i j => .int (i.fmod j)) mMod := ro_I (fun i j hc => of_decide_eq_true hc) fun _ _ _ => rfl
def powB (i j : Int) : Bool := decide (0 ≤ j) && (decide (j ≤ 1000000) && decide (i.natAbs < 2 ^ 64))
def mPow : MOp := mI powB fun i j => .int (i ^ j.toNat)
theorem ro_pow : RO T (rI CPow fun i j => .int (i ^ j.toNat)) mPow := ro_I (fun i j hc => by
  simp only [powB, Bool.and_eq_true, decide_eq_true_eq] at hc
  exact ⟨hc.1, hc.2.1, hc.2.2⟩) fun _ _ _ => rfl
def mLt : MOp := mI0 fun i j => .bl (decide (i < j))
def mLe : MOp := mI0 fun i j => .bl (decide (i ≤ j))
def mGt : MOp := mI0 fun i j => .bl (decide (j < i))
def mGe : MOp := mI0 fun i j => .bl (decide (j ≤ i))
theorem ro_lt : RO T (rI0 fun i j => .bl (decide (i < j))) mLt := ro_I0 fun _ _ _ => rfl
theorem ro_le : RO T (rI0 fun i j => .bl (decide (i ≤ j))) mLe := ro_I0 fun _ _ _ => rfl
theorem ro_gt : RO T (rI0 fun i j => .bl (decide (j < i))) mGt := ro_I0 fun _ _ _ => rfl
theorem ro_ge : RO T (rI0 fun i j => .bl (decide (j ≤ i))) mGe := ro_I0 fun _ _ _ => rfl
/-! ### is, is not: None and bools -/
def mIs (neg : Bool) : MOp := fun x y h => match x, y with
  | .bl a, .bl b => .val (.bl (if neg then !decide (a = b) else decide (a = b))) h
  | x, .non => .val (.bl (if neg then !decide (x = .non) else decide (x = .non))) h
  | _, _ => .bad
theorem wv_non {ps : List Addr} {w : W} {v : V} (h : WV ps w v) : decide (v = .non) = decide (w = .non) := by
  cases w with
  | ref i => obtain ⟨a, _, rfl⟩ := h; simp
  | non => cases h; simp
  | bl b => cases h; simp
  | int b => cases h; simp
  | str b => cases h; simp
  | fix b => cases h; simp
  | ty b => cases h; simp
def rIs (neg : Bool) : R2 := fun x y H Q => (∃ a b : Bool, x = .bl a ∧ y = .bl b ∧ Q (.bl (if neg then !decide (a = b) else decide (a = b))) H) ∨ (y = .non ∧ Q (.bl (if neg then !decide (x = .non) else decide (x = .non))) H)
theorem op_isA : OpR X (compareOp .Is) (rIs false) := op_isBl.or op_isN
theorem op_isnotA : OpR X (compareOp .IsNot) (rIs true) := op_notBl.or op_notN
theorem ro_is {neg : Bool} : RO T (rIs neg) (mIs neg) := by
  intro ps h H x y vx vy Q E vw wx wy gd
  unfold mIs at gd
  split at gd
  · cases wx; cases wy
    exact .inl ⟨_, _, rfl, rfl, Good.now gd vw rfl⟩
  · cases wy
    refine .inr ⟨rfl, ?_⟩
    rw [wv_non wx]
    exact Good.now gd vw rfl
  · exact gd.elim
/-! ### the sign -/
def m1 (g : W → Hv → Res W) (f : Ws → Hv → Res W) : Ws → Hv → Res W := fun r h => (f r h).bind g
def mNeg : W → Hv → Res W := fun x h => match x with
  | .int i => .val (.int (-i)) h
  | _ => .bad
theorem se_neg {a : Expr} {f : Ws → Hv → Res W} {pos : Pos} (ha : SE T X a f) : SE T X (.UnaryOp .USub a pos) (m1 mNeg f) := fun E cn => PEi (pe_un un_neg (ha E cn)) fun s H Q ⟨ps, r, h, es, vw, gd⟩ => by
  refine ⟨ps, r, h, es, vw, (Good.bind (R := WV) (S := WV) gd).imp (fun v H1 q => ?_) fun _ _ _ z => z⟩
  obtain ⟨qs, w, h1, st, vw1, wv, g1⟩ := q
  unfold mNeg at g1
  split at g1
  · cases wv
    exact ⟨_, rfl, Good.now g1 vw1 rfl⟩
  · exact g1.elim
/-! ### items -/
def ofO {α : Type} (o : Option α) (h : Hv) : Res α := match o with
  | some w => .val w h
  | none => .bad
def mIx : MOp := fun x y h => match x, y with
  | .ref p, .int i => match h[p]? with
    | some (.lst xs) => ofO (atI xs i) h
    | some (.rol xs) => ofO (atI xs i) h
    | some (.tup xs) => ofO (atI xs i) h
    | _ => .bad
  | .str z, .int i => if z.length ≤ 100000 then ofO ((atI z.cps.toList i).map fun c => .str ⟨#[c]⟩) h else .bad
  | _, _ => .bad
theorem ofO_of {ps : List Addr} {h : Hv} {H : Hp} {o : Option W} {Q : VK} {E : XK} (g : Good T WV ps H (ofO o h) Q E) : ∃ w, o = some w ∧ Good T WV ps H (.val w h) Q E := by
  cases o with
  | none => exact g.elim
  | some w => exact ⟨w, rfl, g⟩
theorem ro_ix : RO T (rIx X.K) mIx := by
  intro ps h H x y vx vy Q E vw wx wy gd
  unfold mIx at gd
  split at gd
  · obtain ⟨a, ea, rfl⟩ := wx
    cases wy
    split at gd
    · rename_i xs e1
      obtain ⟨w, ew, g⟩ := ofO_of gd
      obtain ⟨vs, r, eH⟩ := vw.ob _ a _ ea e1
      obtain ⟨v, ev, wv⟩ := paired_at r ew
      exact .inl ⟨a, vs, _, v, rfl, rfl, SqL.of eH, ev, Good.now g vw wv⟩
    · rename_i xs e1
      obtain ⟨w, ew, g⟩ := ofO_of gd
      obtain ⟨vs, ob, r, eH⟩ := vw.ob _ a _ ea e1
      obtain ⟨v, ev, wv⟩ := paired_at r ew
      exact .inl ⟨a, vs, _, v, rfl, rfl, .inl (.inr ⟨ob, eH⟩), ev, Good.now g vw wv⟩
    · rename_i xs e1
      obtain ⟨w, ew, g⟩ := ofO_of gd
      obtain ⟨vs, r, eH⟩ := vw.ob _ a _ ea e1
      obtain ⟨v, ev, wv⟩ := paired_at r ew
      exact .inr (.inl ⟨a, vs, _, v, rfl, rfl, SqT.of eH, ev, Good.now g vw wv⟩)
    · exact gd.elim
  · cases wx; cases wy
    split at gd
    · rename_i z i hl
      obtain ⟨w, ew, g⟩ := ofO_of gd
      cases q : atI z.cps.toList i with
      | none => rw [q] at ew; cases ew
      | some c =>
        rw [q] at ew; cases ew
        exact .inr (.inr ⟨z, i, c, rfl, rfl, sz_ok hl, q, Good.now g vw rfl⟩)
    · exact gd.elim
  · exact gd.elim
theorem se_ix {a b : Expr} {fa fb : Ws → Hv → Res W} {pos : Pos} (ha : SE T X a fa) (hb : SE T X b fb) (hs : PlainIx b := by exact fun _ _ => rfl) : SE T X (.Subscript a b pos) (m2 mIx fa fb) := fun E cn => PEi (pe_ix ix_seq (ha E cn) (hb E cn) hs) fun s H Q h => two_of ro_ix h
end
end VL
end
section
namespace VL
open PySem L2

/-! ### calls -/
abbrev MFn := List W → Hv → Res W
/-- a def's promise: it does what m says of the view -/
def spV (T : Tx) (n : Nat) (m : MFn) : Sp := fun vs H Q E => vs.length = n ∧ ∃ ps h ws, View T ps h H ∧ Paired (WV ps) ws vs ∧ Good T WV ps H (m ws h) Q E
/-- the def at f may be called where X stands -/
def Can (T : Tx) (X : Cx) (f : Addr) (n : Nat) (m : MFn) : Prop := ∀ (pins : List (Addr × Obj)) (s : Shared) (σ : St) (H : Hp) (us : List Value) (vs : List V) (Q : VK) (E : XK), Inv X pins σ H s → Vals vs us → spV T n m vs H Q E →
  codeAny (model X.prog X.w) X.A (.call (.ref f) ⟨us, []⟩) (CR (L2.CX X.prog X.w) X.stack X.prog X.w H s Q E) s
def mCall (n : Nat) (m : MFn) (g : Ws → Hv → Res (List W)) : Ws → Hv → Res W := fun r h => (g r h).bind fun ws h1 => if ws.length = n then m ws h1 else .bad
section
variable {T : Tx} {X : Cx} {f : Addr} {n : Nat} {m : MFn} {x : Str} {e : Expr} {es : List Expr} {g : Ws → Hv → Res (List W)} {p pos : Pos}
theorem Can.wp (C : Can T X f n m) {E : WX} (cn : Cn X E) {pins : List (Addr × Obj)} {s : Shared} {σ : St} {H : Hp} {us : List Value} {vs : List V} {Q : VK} (I : Inv X pins σ H s) (r : Vals vs us) (h : spV T n m vs H Q (WE E σ)) : wpAny (model X.prog X.w) X.A (call (.ref f) us) (EP X pins σ Q) X.xe s := by
  refine wpAny_call (codeAny_mono (C pins s σ H us vs Q (WE E σ) I r h) fun fin s' hq => ?_)
  match fin, hq with
  | .error u, hq => exact passAt cn.tk σ pins H s u s' I hq
  | .ok (.ret u), hq => exact I.after hq
  | .ok .next, hq => exact hq.elim
  | .ok .brk, hq => exact hq.elim
  | .ok .cont, hq => exact hq.elim
theorem call_read {E : WX} {s : St} {H : Hp} {Q : VK} (h : tE T E (mCall n m g) s H Q) : tA T E g s H fun vs H1 => spV T n m vs H1 Q (WE E s) := by
  obtain ⟨ps, r, hv, es, vw, gd⟩ := h
  refine ⟨ps, r, hv, es, vw, (Good.bind (R := WVs) (S := WV) gd).imp (fun v H1 q => ?_) fun _ _ _ z => z⟩
  obtain ⟨qs, w, h1, st, vw1, wv, g1⟩ := q
  dsimp only at g1
  have wl : w.length = v.length := wv.length
  split at g1
  · rename_i hl
    exact ⟨wl ▸ hl, qs, h1, w, vw1, wv, g1⟩
  · exact g1.elim
theorem se_call (C : Can T X f n m) (hg : Gl X x) (hm : X.mg x = some (.ref f)) (hk : PySem.W.keepIn X.K (.ref f) = true) (ha : SA T X (e :: es) g) (hdb : (x == ("__debug__" : Str)) = false := by decide)
    (he : starEach (e :: es) X.env = (false, eval e X.env) :: starEach es X.env := by rfl) (hpl : (backTo pos (starEach es X.env)).any (·.1) = false := by rfl) : SE T X (.Call (.Name x p) (e :: es) [] pos) (mCall n m g) := fun E cn => ⟨fun pins s σ H Q I h => by
  refine wpAny_Call_Name_kw (ld_glob (X := X) I hg hm ?_ hdb)
  exact PySem.W.callWith_K (h₀ := X.base) I.ok.mod.kin hk (thn ((ha E cn).run pos pins s σ H _ I (call_read h)) fun us s1 ⟨vs, H1, I1, r, q⟩ => ⟨I1.kIn, C.wp cn I1 r q⟩) he hpl⟩
theorem se_call0 (C : Can T X f 0 m) (hg : Gl X x) (hm : X.mg x = some (.ref f)) (hk : PySem.W.keepIn X.K (.ref f) = true) (hdb : (x == ("__debug__" : Str)) = false := by decide) : SE T X (.Call (.Name x p) [] [] pos) (mCall 0 m mNil) := fun E cn => ⟨fun pins s σ H Q I h => by
  refine wpAny_Call_Name_kw (ld_glob (X := X) I hg hm ?_ hdb)
  obtain ⟨ps, r, hv, es, vw, gd⟩ := h
  exact PySem.W.callWith_K0 I.kIn hk (C.wp (us := []) cn I .nil ⟨rfl, ps, hv, [], vw, .nil, gd⟩)⟩
/-- a def of FnOk's kind -/
theorem can_ok {k : Nat} {fd : FuncData} {qs : List Str} (F : FnOk X.prog X.w X.K X.mg X.base (L2.CX X.prog X.w) k f fd qs (spV T n m)) (hr : Room k X.A) (hb : Binds X.K fd qs []) : Can T X f n m := fun pins s σ H us vs Q E I r h => by
  have hl : us.length = qs.length := by rw [← r.length]; exact F.len _ _ _ _ h
  have b := hb s us I.kIn (by simpa using hl)
  rw [List.append_nil] at b
  exact F.run X.A X.stack s H ⟨us, []⟩ us vs Q E hr I.env0 b r h
/-! ### built-ins -/
def RC (T : Tx) (r : List V → Hp → VK → Prop) (m : MFn) : Prop := ∀ ps h H ws vs (Q : VK) (E : XK), View T ps h H → Paired (WV ps) ws vs → Good T WV ps H (m ws h) Q E → r vs H Q
def mB (m : MFn) (g : Ws → Hv → Res (List W)) : Ws → Hv → Res W := fun r h => (g r h).bind m
theorem b_read {E : WX} {s : St} {H : Hp} {Q : VK} {r : List V → Hp → VK → Prop} (hr : RC T r m) (h : tE T E (mB m g) s H Q) : tCB r (tA T E g) s H Q := by
  obtain ⟨ps, r', hv, es, vw, gd⟩ := h
  refine ⟨ps, r', hv, es, vw, (Good.bind (R := WVs) (S := WV) gd).imp (fun v H1 q => ?_) fun _ _ _ z => z⟩
  obtain ⟨qs, w, h1, st, vw1, wv, g1⟩ := q
  exact hr qs h1 H1 w v Q _ vw1 wv g1
theorem se_b {id : String} {r : List V → Hp → VK → Prop} (hc : CallR X (.builtin id) r) (hr : RC T r m) (hg : Gl X x) (hm : X.mg x = none) (hv : bootBuiltins x = some (.builtin id)) (ha : SA T X (e :: es) g) (hn : x ≠ "__name__" := by decide) (hdb : (x == ("__debug__" : Str)) = false := by decide)
    (he : starEach (e :: es) X.env = (false, eval e X.env) :: starEach es X.env := by rfl) (hpl : (backTo pos (starEach es X.env)).any (·.1) = false := by rfl) : SE T X (.Call (.Name x p) (e :: es) [] pos) (mB m g) := fun E cn => PEi (pe_callB hc hg hm hv (ha E cn) hn hdb he hpl) fun s H Q h => b_read hr h
theorem se_bt {id : String} {r : List V → Hp → VK → Prop} (hc : CallR X (.type id) r) (hr : RC T r m) (hg : Gl X x) (hm : X.mg x = none) (hv : bootBuiltins x = some (.type id)) (ha : SA T X (e :: es) g) (hn : x ≠ "__name__" := by decide) (hdb : (x == ("__debug__" : Str)) = false := by decide)
    (he : starEach (e :: es) X.env = (false, eval e X.env) :: starEach es X.env := by rfl) (hpl : (backTo pos (starEach es X.env)).any (·.1) = false := by rfl) : SE T X (.Call (.Name x p) (e :: es) [] pos) (mB m g) := fun E cn => PEi (pe_callTy hc hg hm hv (ha E cn) hn hdb he hpl) fun s H Q h => b_read hr h
theorem one_of {ps : List Addr} {w : W} {vs : List V} (h : Paired (WV ps) [w] vs) : ∃ v, vs = [v] ∧ WV ps w v := by
  cases h with
  | cons a b => cases b; exact ⟨_, rfl, a⟩
theorem pair_of {ps : List Addr} {w u : W} {vs : List V} (h : Paired (WV ps) [w, u] vs) : ∃ v v', vs = [v, v'] ∧ WV ps w v ∧ WV ps u v' := by
  cases h with
  | cons a b => cases b with
    | cons c d => cases d; exact ⟨_, _, rfl, a, c⟩
def mAbs : MFn := fun ws h => match ws with
  | [.int i] => .val (.int (if i < 0 then -i else i)) h
  | _ => .bad
theorem rc_abs : RC T (fun xs H Q => ∃ i, xs = [.int i] ∧ Q (.int (if i < 0 then -i else i)) H) mAbs := by
  intro ps h H ws vs Q E vw wv gd
  unfold mAbs at gd
  split at gd
  · obtain ⟨v, rfl, e⟩ := one_of wv
    cases e
    exact ⟨_, rfl, Good.now gd vw rfl⟩
  · exact gd.elim
def mMax : MFn := fun ws h => match ws with
  | [.int i, .int j] => .val (.int (if j > i then j else i)) h
  | _ => .bad
theorem rc_max : RC T (fun xs H Q => ∃ i j, xs = [.int i, .int j] ∧ Q (.int (if j > i then j else i)) H) mMax := by
  intro ps h H ws vs Q E vw wv gd
  unfold mMax at gd
  split at gd
  · obtain ⟨v, v', rfl, e, e'⟩ := pair_of wv
    cases e; cases e'
    exact ⟨_, _, rfl, Good.now gd vw rfl⟩
  · exact gd.elim
def mMin : MFn := fun ws h => match ws with
  | [.int i, .int j] => .val (.int (if j < i then j else i)) h
  | _ => .bad
theorem rc_min : RC T (fun xs H Q => ∃ i j, xs = [.int i, .int j] ∧ Q (.int (if j < i then j else i)) H) mMin := by
  intro ps h H ws vs Q E vw wv gd
  unfold mMin at gd
  split at gd
  · obtain ⟨v, v', rfl, e, e'⟩ := pair_of wv
    cases e; cases e'
    exact ⟨_, _, rfl, Good.now gd vw rfl⟩
  · exact gd.elim
def mInt : MFn := fun ws h => match ws with
  | [.int i] => .val (.int i) h
  | [.bl b] => .val (.int (if b then 1 else 0)) h
  | _ => .bad
theorem rc_int : RC T (fun xs H Q => (∃ i, xs = [.int i] ∧ Q (.int i) H) ∨ ∃ k, xs = [.bl k] ∧ Q (.int (if k then 1 else 0)) H) mInt := by
  intro ps h H ws vs Q E vw wv gd
  unfold mInt at gd
  split at gd
  · obtain ⟨v, rfl, e⟩ := one_of wv
    cases e
    exact .inl ⟨_, rfl, Good.now gd vw rfl⟩
  · obtain ⟨v, rfl, e⟩ := one_of wv
    cases e
    exact .inr ⟨_, rfl, Good.now gd vw rfl⟩
  · exact gd.elim
def mLen : MFn := fun ws h => match ws with
  | [.str z] => if z.length ≤ 100000 then .val (.int z.length) h else .bad
  | [.ref p] => match h[p]? with
    | some (.lst xs) => .val (.int xs.length) h
    | some (.rol xs) => .val (.int xs.length) h
    | some (.tup xs) => .val (.int xs.length) h
    | _ => .bad
  | _ => .bad
theorem rc_len : RC T (fun xs H Q => ∃ x n, xs = [x] ∧ LenV X.K x H n ∧ Q (.int n) H) mLen := by
  intro ps h H ws vs Q E vw wv gd
  unfold mLen at gd
  split at gd
  · split at gd
    · rename_i hl
      obtain ⟨v, rfl, e⟩ := one_of wv
      cases e
      exact ⟨_, _, rfl, ⟨sz_ok hl, rfl⟩, Good.now gd vw rfl⟩
    · exact gd.elim
  · obtain ⟨v, rfl, a, ea, rfl⟩ := one_of wv
    split at gd
    · rename_i xs e1
      obtain ⟨vs, r, eH⟩ := vw.ob _ a _ ea e1
      have l1 : xs.length = vs.length := r.length
      rw [l1] at gd
      exact ⟨_, vs.length, rfl, .inl ⟨vs, SqL.of eH, rfl⟩, Good.now gd vw rfl⟩
    · rename_i xs e1
      obtain ⟨vs, ob, r, eH⟩ := vw.ob _ a _ ea e1
      have l1 : xs.length = vs.length := r.length
      rw [l1] at gd
      exact ⟨_, vs.length, rfl, .inl ⟨vs, .inl (.inr ⟨ob, eH⟩), rfl⟩, Good.now gd vw rfl⟩
    · rename_i xs e1
      obtain ⟨vs, r, eH⟩ := vw.ob _ a _ ea e1
      have l1 : xs.length = vs.length := r.length
      rw [l1] at gd
      exact ⟨_, vs.length, rfl, .inr ⟨vs, SqT.of eH, rfl⟩, Good.now gd vw rfl⟩
    · exact gd.elim
  · exact gd.elim
/-- the built-in type of a value -/
def tyN (h : Hv) : W → Option String
  | .non => some "NoneType"
  | .bl _ => some "bool"
  | .int _ => some "int"
  | .str _ => some "str"
  | .ref p => match h[p]? with
    | some (O.lst _) => some "list"
    | some (.rol _) => some "list"
    | some (O.tup _) => some "tuple"
    | some (.dic _) => some "dict"
    | _ => none
  | _ => none
theorem tyN_ok {K : PySem.W.Frag} {ps : List Addr} {h : Hv} {H : Hp} (vw : View T ps h H) : ∀ {w : W} {v : V} {t : String}, tyN h w = some t → WV ps w v → TyX K H v (.type t)
  | .non, _, _, e, wv => by cases e; cases wv; exact .base .non
  | .bl _, _, _, e, wv => by cases e; cases wv; exact .base (.bl _)
  | .int _, _, _, e, wv => by cases e; cases wv; exact .base (.int _)
  | .str _, _, _, e, wv => by cases e; cases wv; exact .base (.str _)
  | .fix _, _, _, e, wv => by cases e
  | .ty _, _, _, e, wv => by cases e
  | .ref p, _, _, e, wv => by
    obtain ⟨a, ea, rfl⟩ := wv
    simp only [tyN] at e
    split at e
    · rename_i e1
      obtain ⟨vs, r, eH⟩ := vw.ob _ a _ ea e1
      cases e; exact .base (.lst eH)
    · rename_i e1
      obtain ⟨vs, ob, r, eH⟩ := vw.ob _ a _ ea e1
      cases e; exact .base (.frz eH)
    · rename_i e1
      obtain ⟨vs, r, eH⟩ := vw.ob _ a _ ea e1
      cases e; exact .base (.tup eH)
    · rename_i e1
      obtain ⟨vs, r, eH⟩ := vw.ob _ a _ ea e1
      cases e; exact .base (.dK eH)
    · cases e
def mIsi : MFn := fun ws h => match ws with
  | [w, .ty n] => match tyN h w with
    | some t => match kitB t n with
      | some b => .val (.bl b) h
      | none => .bad
    | none => .bad
  | _ => .bad
theorem rc_isi : RC T (rIsi X.K) mIsi := by
  intro ps h H ws vs Q E vw wv gd
  unfold mIsi at gd
  split at gd
  · obtain ⟨v, v', rfl, e, e'⟩ := pair_of wv
    cases e'
    split at gd
    · rename_i t et
      split at gd
      · rename_i b eb
        exact ⟨v, _, _, _, b, rfl, .ty _, tyN_ok vw et e, kit_ty eb, Good.now gd vw rfl⟩
      · exact gd.elim
    · exact gd.elim
  · exact gd.elim
/-! ### repr -/
def rRepr (K : PySem.W.Frag) : List V → Hp → VK → Prop := fun xs H Q => ∃ x d, xs = [x] ∧ Dp K H x d ∧ d.showable = true ∧ d.hasDict = false ∧ d.depth ≤ 60 ∧ d.shown.length ≤ sizeLine ∧ Q (.str d.shown) H
def mRepr : MFn := fun ws h => match ws with
  | [w] => match toD dF h w with
    | some d => if d.showable && !d.hasDict && decide (d.depth ≤ 60) && decide (d.shown.length ≤ 100000) then .val (.str d.shown) h else .bad
    | none => .bad
  | _ => .bad
theorem rc_repr : RC T (rRepr X.K) mRepr := by
  intro ps h H ws vs Q E vw wv gd
  unfold mRepr at gd
  split at gd
  · obtain ⟨v, rfl, e⟩ := one_of wv
    split at gd
    · rename_i d ed
      split at gd
      · rename_i hc
        simp only [Bool.and_eq_true, decide_eq_true_eq, Bool.not_eq_true'] at hc
        exact ⟨v, d, rfl, toD_ok vw _ _ _ _ ed e, hc.1.1.1, hc.1.1.2, hc.1.2, sz_ok hc.2, Good.now gd vw rfl⟩
      · exact gd.elim
    · exact gd.elim
  · exact gd.elim
theorem call_reprD (hg : X.A.guards = some []) (hu : X.A.units + 64 < cLine) : CallR X (.builtin "repr") (rRepr X.K) := by
  intro pins s σ H xs us Q I r h; obtain ⟨x, d, rfl, hd, hs, hn, hdp, hl, q⟩ := h
  obtain ⟨u, rfl, ru⟩ := vals1 r; cases hd with
  | non => cases ru; exact PySem.P.repr_of_none ⟨.str _, H, I.tok _, ⟨_, rfl⟩, q⟩
  | bl b =>
    cases ru
    refine PySem.P.repr_of_bool ⟨.str _, H, I.tok _, ⟨_, rfl⟩, ?_⟩
    exact q
  | int i =>
    obtain ⟨t, rfl⟩ := ru
    exact PySem.P.repr_of_int (by simpa [PyData.showable] using hs) ⟨.str _, H, I.tok _, ⟨_, rfl⟩, q⟩
  | str z => obtain ⟨t, rfl⟩ := ru; exact PySem.P.repr_of_str ⟨.str _, H, I.tok _, ⟨_, rfl⟩, q⟩
  | lst h1 h2 =>
    cases ru
    obtain ⟨as, rd⟩ := Dp.reads I _ _ _ (.lst h1 h2) rfl
    exact repr_of_reads' rd hs (PyData.noDict_hsm hn) hg (by omega) (fun _ _ e => e) (fun h' u tk hk => ⟨.str _, H, I.kept hk, ⟨_, rfl⟩, q⟩) hl
  | tup h1 h2 =>
    cases ru
    obtain ⟨as, rd⟩ := Dp.reads I _ _ _ (.tup h1 h2) rfl
    exact repr_of_reads' rd hs (PyData.noDict_hsm hn) hg (by omega) (fun _ _ e => e) (fun h' u tk hk => ⟨.str _, H, I.kept hk, ⟨_, rfl⟩, q⟩) hl
end
end VL
end
section
namespace VL
open PySem L2

/-! ### statements -/
abbrev MS := Ws → Hv → ResS
namespace Res
/-- a value, then a statement's end; r: the names as they stand -/
def andS {α : Type} (x : Res α) (r : Ws) (k : α → Hv → ResS) : ResS := match x with
  | .val a h => k a h
  | .exc c d h => .exc c d r h
  | .bad => .bad
end Res
section
variable {T : Tx} {X : Cx} {α β : Type} {R : List Addr → α → β → Prop} {ps : List Addr} {H : Hp} {x : Res α} {r : Ws} {k : α → Hv → ResS} {D : Ends} {E : WX} {s : St}
theorem good_andS (es : ES ps r s) (g : GoodS T ps H (x.andS r k) D E) : Good T R ps H x (fun v H1 => ∃ qs w h1, Step ps H qs H1 ∧ View T qs h1 H1 ∧ R qs w v ∧ ES qs r s ∧ GoodS T qs H1 (k w h1) D E) (fun c d H' => E c d s H') := by
  cases x with
  | val w h => exact fun qs H' v st vw rv => ⟨qs, w, h, st, vw, rv, es.mono st.pre, g.step st⟩
  | exc c d h => exact fun qs H' e st vw dv => g qs H' s e st vw (es.mono st.pre) dv
  | bad => exact g
end
def mExpr (f : Ws → Hv → Res W) : MS := fun r h => (f r h).andS r fun _ h1 => .nx r h1
def mRet (f : Ws → Hv → Res W) : MS := fun r h => (f r h).andS r fun w h1 => .rt w h1
def mSet (i : Nat) (f : Ws → Hv → Res W) : MS := fun r h => (f r h).andS r fun w h1 => .nx (r.set i (some w)) h1
def mIfS (t : Ws → Hv → Res Bool) (f g : MS) : MS := fun r h => (t r h).andS r fun b h1 => if b then f r h1 else g r h1
def mNext : MS := fun r h => .nx r h
def mSeq (f g : MS) : MS := fun r h => match f r h with
  | .nx r1 h1 => g r1 h1
  | x => x
section
variable {T : Tx} {X : Cx} {e : Expr} {f : Ws → Hv → Res W} {pos : Pos} {st : Stmt} {rest : List Stmt} {a b : MS} {t : Ws → Hv → Res Bool}
theorem ss_expr (h : SE T X e f) (hs : swapsWith e none pos.line X.env = pure false := by rfl) : SS T X (.Expr e pos) (mExpr f) := fun E cn => PSi (ps_expr (h E cn) hs) fun D s H ⟨ps, r, hv, es, vw, gd⟩ => by
  refine ⟨ps, r, hv, es, vw, (good_andS (R := WV) es gd).imp (fun v H1 q => ?_) fun _ _ _ z => z⟩
  obtain ⟨qs, w, h1, st, vw1, wv, es1, g1⟩ := q
  exact g1 qs H1 s (Step.refl _ _) vw1 es1
theorem ss_ret (h : SE T X e f) : SS T X (.Return (some e) pos) (mRet f) := fun E cn => PSi (ps_ret (h E cn)) fun D s H ⟨ps, r, hv, es, vw, gd⟩ => by
  refine ⟨ps, r, hv, es, vw, (good_andS (R := WV) es gd).imp (fun v H1 q => ?_) fun _ _ _ z => z⟩
  obtain ⟨qs, w, h1, st, vw1, wv, es1, g1⟩ := q
  exact g1 qs H1 v (Step.refl _ _) vw1 wv
theorem ss_retN : SS T X (.Return none pos) (fun _ h => .rt .non h) := fun E cn => PSi ps_retN fun D s H ⟨ps, r, hv, es, vw, gd⟩ => gd ps H .non (Step.refl _ _) vw rfl
theorem ss_pass : SS T X (.Pass pos) mNext := fun E cn => PSi ps_pass fun D s H ⟨ps, r, hv, es, vw, gd⟩ => gd ps H s (Step.refl _ _) vw es
theorem ss_break : SS T X (.Break pos) (fun r h => .bk r h) := fun E cn => PSi ps_break fun D s H ⟨ps, r, hv, es, vw, gd⟩ => gd ps H s (Step.refl _ _) vw es
theorem ss_cont : SS T X (.Continue pos) (fun r h => .ct r h) := fun E cn => PSi ps_continue fun D s H ⟨ps, r, hv, es, vw, gd⟩ => gd ps H s (Step.refl _ _) vw es
theorem ss_set (i : Nat) {x : Str} {pos' : Pos} (hN : X.N.Nodup) (h : SE T X e f) (hi : X.N[i]? = some x := by rfl) (hx : Loc X.env.scope x := by first | exact Or.inl rfl | exact Or.inr rfl) (hs : swapsWith e (some (.Name x pos')) pos.line X.env = pure false := by rfl)
    (hf : X.fn x = true ∨ X.env.scope.names.lookup x = some .local := by first | exact .inl rfl | exact .inr rfl) : SS T X (.Assign [.Name x pos'] e pos) (mSet i f) := fun E cn => PSi (ps_set hN hi hx (h E cn) hs hf) fun D s H ⟨ps, r, hv, es, vw, gd⟩ => by
  refine ⟨ps, r, hv, es, vw, (good_andS (R := WV) es gd).imp (fun v H1 q => ?_) fun _ _ _ z => z⟩
  obtain ⟨qs, w, h1, st, vw1, wv, es1, g1⟩ := q
  exact g1 qs H1 _ (Step.refl _ _) vw1 (es1.set i wv)
theorem sss_nil : SSs T X [] mNext := fun E cn => PSsi pss_nil fun D s H ⟨ps, r, hv, es, vw, gd⟩ => gd ps H s (Step.refl _ _) vw es
theorem seq_read {E : WX} {D : Ends} {s : St} {H : Hp} (h : tS T E (mSeq a b) D s H) : tSeq (tS T E a) (tS T E b) D s H := by
  obtain ⟨ps, r, hv, es, vw, gd⟩ := h
  refine ⟨ps, r, hv, es, vw, ?_⟩
  unfold mSeq at gd
  cases q : a r hv with
  | nx r1 h1 =>
    rw [q] at gd
    exact fun qs H' s' st vw' es' => ⟨qs, r1, h1, es', vw', GoodS.step gd st⟩
  | rt w h1 => rw [q] at gd; exact gd
  | bk w h1 => rw [q] at gd; exact gd
  | ct w h1 => rw [q] at gd; exact gd
  | exc c d w h1 => rw [q] at gd; exact gd
  | bad => rw [q] at gd; exact gd
theorem sss_cons (h1 : SS T X st a) (h2 : SSs T X rest b) : SSs T X (st :: rest) (mSeq a b) := fun E cn => PSsi (pss_cons (h1 E cn) (h2 E cn)) fun D s H h => seq_read h
theorem sss_one (h1 : SS T X st a) : SSs T X [st] a := fun E cn => pss_one (h1 E cn)
theorem ss_if {c : Expr} {sa sb : List Stmt} (hc : STt T X c t) (ha : SSs T X sa a) (hb : SSs T X sb b) : SS T X (.If c sa sb pos) (mIfS t a b) := fun E cn => PSi (ps_if (hc E cn) (ha E cn) (hb E cn)) fun D s H ⟨ps, r, hv, es, vw, gd⟩ => by
  refine ⟨ps, r, hv, es, vw, (good_andS (R := BEq2) es gd).imp (fun v H1 q => ?_) fun _ _ _ z => z⟩
  obtain ⟨qs, w, h1, st, vw1, wv, es1, g1⟩ := q
  cases wv
  cases v with
  | true => exact iteT ⟨qs, r, h1, es1, vw1, g1⟩
  | false => exact iteF ⟨qs, r, h1, es1, vw1, g1⟩
/-- a, b = x, y -/
def mPar (i j : Nat) (g : Ws → Hv → Res (List W)) : MS := fun r h => (g r h).andS r fun ws h1 => match ws with
  | [v, w] => .nx ((r.set i (some v)).set j (some w)) h1
  | _ => .bad
theorem ss_par (i j : Nat) {x y : Str} {ea eb : Expr} {g : Ws → Hv → Res (List W)} {px py pt : Pos} {kt k2 pt2} (hN : X.N.Nodup) (ha : SA T X [ea, eb] g) (hc : X.calm = true := by rfl) (hi : X.N[i]? = some x := by rfl) (hj : X.N[j]? = some y := by rfl) (hij : i ≠ j := by decide)
    (hx : X.env.scope.names.lookup x = some .local := by rfl) (hy : X.env.scope.names.lookup y = some .local := by rfl)
    (hw : swappedStores [.Tuple [.Name x px, .Name y py] kt pt] (.Tuple [ea, eb] k2 pt2) X.env = pure (some [x, y]) := by rfl)
    (hs : swapsWithSole [.Tuple [.Name x px, .Name y py] kt pt] (.Tuple [ea, eb] k2 pt2) pos.line X.env = pure false := by rfl) :
    SS T X (.Assign [.Tuple [.Name x px, .Name y py] kt pt] (.Tuple [ea, eb] k2 pt2) pos) (mPar i j g) := fun E cn => PSi (ps_par hc hN hi hj hij hx hy (ha E cn) hw hs) fun D s H ⟨ps, r, hv, es, vw, gd⟩ => by
  refine ⟨ps, r, hv, es, vw, (good_andS (R := WVs) es gd).imp (fun v H1 q => ?_) fun _ _ _ z => z⟩
  obtain ⟨qs, w, h1, st, vw1, wv, es1, g1⟩ := q
  try dsimp only at g1
  split at g1
  · obtain ⟨v1, v2, rfl, w1, w2⟩ := pair_of wv
    exact ⟨v1, v2, rfl, g1 qs H1 _ (Step.refl _ _) vw1 ((es1.set i w1).set j w2)⟩
  · exact g1.elim

/-! ### while -/
def whileM (t : Ws → Hv → Res Bool) (b : MS) : Nat → MS
  | 0, _, _ => .bad
  | n + 1, r, h => (t r h).andS r fun c h1 => if c then (match b r h1 with
      | .nx r1 h2 => whileM t b n r1 h2
      | .ct r1 h2 => whileM t b n r1 h2
      | .bk r1 h2 => .nx r1 h2
      | x => x) else .nx r h1
def mWhile (fuel : Ws → Hv → Nat) (t : Ws → Hv → Res Bool) (b : MS) : MS := fun r h => whileM t b (fuel r h) r h
theorem ss_while (fuel : Ws → Hv → Nat) {c : Expr} {body : List Stmt} (hc : STt T X c t) (hb : SSs T X body b) : SS T X (.While c body [] pos) (mWhile fuel t b) := fun E cn => PSi (ps_while cn.po (hc E cn) (hb E cn)) fun D s H ⟨ps, r, hv, es, vw, gd⟩ => by
  refine ⟨fun m s H => ∃ ps r h, ES ps r s ∧ View T ps h H ∧ GoodS T ps H (whileM t b m r h) D E, ⟨fuel r hv, ps, r, hv, es, vw, gd⟩, ?_⟩
  rintro m s H ⟨ps, r, h, es, vw, gd⟩
  cases m with
  | zero => exact gd.elim
  | succ m =>
    refine ⟨ps, r, h, es, vw, (good_andS (R := BEq2) es (by unfold whileM at gd; exact gd)).imp (fun v H1 q => ?_) fun _ _ _ z => z⟩
    obtain ⟨qs, w, h1, st, vw1, wv, es1, g1⟩ := q
    cases wv
    cases v with
    | false => exact iteF (g1 qs H1 s (Step.refl _ _) vw1 es1)
    | true =>
      refine iteT ⟨fun s' H' => ∃ ps r h, ES ps r s' ∧ View T ps h H' ∧ GoodS T ps H' (whileM t b m r h) D E, fun s' H' q => ⟨m, Nat.lt_succ_self m, q⟩, qs, r, h1, es1, vw1, ?_⟩
      try dsimp only at g1
      rw [if_pos rfl] at g1
      cases q : b r h1 with
      | nx r1 h2 =>
        rw [q] at g1
        exact fun rs H' s' st' vw' es' => ⟨rs, r1, h2, es', vw', GoodS.step g1 st'⟩
      | ct r1 h2 =>
        rw [q] at g1
        exact fun rs H' s' st' vw' es' => ⟨rs, r1, h2, es', vw', GoodS.step g1 st'⟩
      | bk r1 h2 => rw [q] at g1; exact g1
      | rt w h2 => rw [q] at g1; exact g1
      | exc c d w h2 => rw [q] at g1; exact g1
      | bad => rw [q] at g1; exact g1
end

/-! ### targets -/
abbrev MG := W → Ws → Hv → ResS
def tG (T : Tx) (E : WX) (g : MG) : TG := fun v s H Q => ∃ ps r h w, ES ps r s ∧ View T ps h H ∧ WV ps w v ∧ GoodS T ps H (g w r h) { nx := Q, rt := fun _ _ => False } E
def tGs (T : Tx) (E : WX) (g : List W → MS) : TGs := fun vs s H Q => ∃ ps r h ws, ES ps r s ∧ View T ps h H ∧ Paired (WV ps) ws vs ∧ GoodS T ps H (g ws r h) { nx := Q, rt := fun _ _ => False } E
def SG (T : Tx) (X : Cx) (e : Expr) (g : MG) : Prop := ∀ E, Cn X E → PG X e (tG T E g)
def SGs (T : Tx) (X : Cx) (es : List Expr) (g : List W → MS) : Prop := ∀ E, Cn X E → PGs X es (tGs T E g)
def mGn (i : Nat) : MG := fun w r h => .nx (r.set i (some w)) h
def mGnil : List W → MS := fun ws r h => match ws with
  | [] => .nx r h
  | _ => .bad
def mGcons (g : MG) (k : List W → MS) : List W → MS := fun ws r h => match ws with
  | w :: ws => mSeq (g w) (k ws) r h
  | [] => .bad
def mGtup (n : Nat) (k : List W → MS) : MG := fun w r h => match w with
  | .ref p => match h[p]? with
    | some (.tup ws) => if ws.length = n then k ws r h else .bad
    | _ => .bad
  | _ => .bad
section
variable {T : Tx} {X : Cx} {e : Expr} {es : List Expr} {g : MG} {k : List W → MS} {pos : Pos}
theorem PGi {t t' : TG} (h : PG X e t) (k : ∀ v s H Q, t' v s H Q → t v s H Q) : PG X e t' := ⟨fun pins s σ H v u Q I r hw => h.run pins s σ H v u Q I r (k _ _ _ _ hw)⟩
theorem PGsi {t t' : TGs} (h : PGs X es t) (k : ∀ v s H Q, t' v s H Q → t v s H Q) : PGs X es t' := ⟨fun pins s σ H v u Q I r hw => h.run pins s σ H v u Q I r (k _ _ _ _ hw)⟩
theorem sg_name (i : Nat) {x : Str} (hN : X.N.Nodup) (hi : X.N[i]? = some x := by rfl) (hx : Loc X.env.scope x := by first | exact Or.inl rfl | exact Or.inr rfl) (hf : X.fn x = true ∨ X.env.scope.names.lookup x = some .local := by first | exact .inl rfl | exact .inr rfl) :
    SG T X (.Name x pos) (mGn i) := fun E cn => PGi (pg_name hN hi hx hf) fun v s H Q ⟨ps, r, h, w, es, vw, wv, gd⟩ => gd ps H _ (Step.refl _ _) vw (es.set i wv)
theorem sgs_nil : SGs T X [] mGnil := fun E cn => PGsi pgs_nil fun v s H Q ⟨ps, r, h, ws, es, vw, wv, gd⟩ => by
  unfold mGnil at gd
  split at gd
  · cases wv
    exact ⟨rfl, gd ps H _ (Step.refl _ _) vw es⟩
  · exact gd.elim
theorem sgs_cons (h1 : SG T X e g) (h2 : SGs T X es k) (hs : (assignEach (e :: es) X.env).map (·.2) = assign e X.env :: (assignEach es X.env).map (·.2) := by rfl) : SGs T X (e :: es) (mGcons g k) := fun E cn => PGsi (pgs_cons (h1 E cn) (h2 E cn) hs) fun v s H Q ⟨ps, r, h, ws, es, vw, wv, gd⟩ => by
  cases wv with
  | nil => exact gd.elim
  | cons wv1 wv2 =>
    refine ⟨_, _, rfl, ps, r, h, _, es, vw, wv1, ?_⟩
    unfold mGcons at gd
    dsimp only at gd
    unfold mSeq at gd
    split at gd
    · rename_i r1 h1 q
      rw [q]
      exact fun qs H' s' st vw' es' => ⟨qs, r1, h1, _, es', vw', WVs.mono st.pre wv2, GoodS.step gd st⟩
    · rename_i x q
      cases z : g _ r h with
      | nx r1 h1 => exact absurd z (q r1 h1)
      | rt w h1 => rw [z] at gd; exact gd
      | bk w h1 => rw [z] at gd; exact gd
      | ct w h1 => rw [z] at gd; exact gd
      | exc c d w h1 => rw [z] at gd; exact gd
      | bad => rw [z] at gd; exact gd
theorem sg_tup {kk n : Nat} (h : SGs T X es k) (hc : X.calm = true := by rfl) (hn : (assignEach es X.env).length = n := by rfl) (hst : (assignEach es X.env).findIdx? (·.1) = none := by rfl) : SG T X (.Tuple es kk pos) (mGtup n k) := fun E cn =>
  PGi (pg_tup hc (h E cn) hn hst) fun v s H Q ⟨ps, r, h, w, es, vw, wv, gd⟩ => by
    unfold mGtup at gd
    split at gd
    · rename_i p
      obtain ⟨a, ea, rfl⟩ := wv
      split at gd
      · rename_i ws e1
        split at gd
        · rename_i hl
          obtain ⟨vs, rr, eH⟩ := vw.ob _ a _ ea e1
          have l1 : ws.length = vs.length := rr.length
          exact ⟨a, vs, rfl, SqT.of eH, by rw [← l1]; exact hl, ps, r, h, ws, es, vw, rr, gd⟩
        · exact gd.elim
      · exact gd.elim
    · exact gd.elim
/-- target = e -/
def mAsg (f : Ws → Hv → Res W) (g : MG) : MS := fun r h => (f r h).andS r fun w h1 => (match g w r h1 with
  | .nx r1 h2 => .nx r1 h2
  | .exc c d r1 h2 => .exc c d r1 h2
  | _ => .bad)
theorem ss_asg {tg : Expr} {f : Ws → Hv → Res W} (he : SE T X e f) (hg : SG T X tg g) (hs : swapsWithSole [tg] e pos.line X.env = pure false := by rfl) (hw : swappedStores [tg] e X.env = pure none := by rfl)
    (h1 : (assignEach [tg] X.env).map (·.2) = [assign tg X.env] := by rfl) : SS T X (.Assign [tg] e pos) (mAsg f g) := fun E cn => PSi (ps_asg (he E cn) (hg E cn) hs hw h1) fun D s H ⟨ps, r, hv, es, vw, gd⟩ => by
  refine ⟨ps, r, hv, es, vw, (good_andS (R := WV) es gd).imp (fun v H1 q => ?_) fun _ _ _ z => z⟩
  obtain ⟨qs, w, h1, st, vw1, wv, es1, g1⟩ := q
  refine ⟨qs, r, h1, w, es1, vw1, wv, ?_⟩
  cases z : g w r h1 with
  | nx r1 h2 => rw [z] at g1; exact g1
  | rt w h2 => rw [z] at g1; exact g1.elim
  | bk w h2 => rw [z] at g1; exact g1.elim
  | ct w h2 => rw [z] at g1; exact g1.elim
  | exc c d w h2 => rw [z] at g1; exact g1
  | bad => rw [z] at g1; exact g1.elim
/-- xs[i] = e -/
def mSub1 (fo fi : Ws → Hv → Res W) : MG := fun w r h => (fo r h).andS r fun o h1 => (fi r h1).andS r fun i h2 => match o, i with
  | .ref p, .int k => match h2[p]? with
    | some (.lst xs) => match ixN xs.length k with
      | some j => .nx r (h2.set p (.lst (xs.set j w)))
      | none => .bad
    | _ => .bad
  | _, _ => .bad
theorem sg_sub {o i : Expr} {fo fi : Ws → Hv → Res W} (ho : SE T X o fo) (hi : SE T X i fi)
    (ha : ∀ y, assign (.Subscript o i pos) X.env y = (do
      let yo ← holding [y] (eval o X.env)
      let yi ← holding [y, yo] (eval i X.env)
      standAt pos
      holding [y, yo, yi] (setItem yo yi y)
      release [y, yo, yi] []) := by intro _; rfl) : SG T X (.Subscript o i pos) (mSub1 fo fi) := fun E cn => PGi (pg_sub (ho E cn) (hi E cn) set_list ha) fun v s H Q ⟨ps, r, h, w, es, vw, wv, gd⟩ => by
  refine ⟨ps, r, h, es, vw, (good_andS (R := WV) es gd).imp (fun vo H1 q => ?_) fun _ _ _ z => z⟩
  obtain ⟨qs, wo, h1, st, vw1, wvo, es1, g1⟩ := q
  refine ⟨qs, r, h1, es1, vw1, (good_andS (R := WV) es1 g1).imp (fun vi H2 q2 => ?_) fun _ _ _ z => z⟩
  obtain ⟨rs, wi, h2, st2, vw2, wvi, es2, g2⟩ := q2
  try dsimp only at g2
  have wvo2 := wvo.mono st2.pre
  split at g2
  · rename_i p k
    obtain ⟨a, ea, rfl⟩ := wvo2
    cases wvi
    split at g2
    · rename_i xs e1
      split at g2
      · rename_i j ej
        obtain ⟨vs, rr, eH⟩ := vw2.ob _ a _ ea e1
        have l1 : xs.length = vs.length := rr.length
        have pz : Paired (WV rs) (xs.set j w) (vs.set j v) := paired_set rr ((wv.mono st.pre).mono st2.pre) j
        obtain ⟨vw3, st3⟩ := vw2.put ea (o := .lst (xs.set j w)) (u := .lst (vs.set j v)) ⟨_, pz, upd_same⟩
        exact ⟨a, vs, k, j, rfl, rfl, eH, by rw [← l1]; exact ej, g2 _ _ s st3 vw3 es2⟩
      · exact g2.elim
    · exact g2.elim
  · exact g2.elim
end
end VL
end
section
namespace VL
open PySem L2

/-! ### what is walked -/
inductive Nxt where
  | stop | item (w : W) (h : Hv) | bad
structure Src where
  n : Nat
  nx : Nat → Hv → Nxt
def NxOk (T : Tx) (qs : List Addr) (H : Hp) (J : It) (i : Nat) : Nxt → Prop
  | .stop => J.stop i H
  | .item w h => J.go i H ∧ ∀ x H', J.yld i H x H' → ∃ rs, Step qs H rs H' ∧ View T rs h H' ∧ WV rs w x
  | .bad => True
/-- the source S is the iterator J, wherever the places ps stand -/
def SimI (T : Tx) (ps : List Addr) (S : Src) (J : It) : Prop := ∀ qs h H i, ps <+: qs → View T qs h H → NxOk T qs H J i (S.nx i h)
theorem SimI.mono {T : Tx} {ps qs : List Addr} {S : Src} {J : It} (s : SimI T ps S J) (h : ps <+: qs) : SimI T qs S J := fun rs hv H i p => s rs hv H i (h.trans p)
def tI (T : Tx) (E : WX) (f : Ws → Hv → Res Src) : TI := fun s H R => ∃ ps r h, ES ps r s ∧ View T ps h H ∧ Good T (SimI T) ps H (f r h) R (fun c d H' => E c d s H')
def SI (T : Tx) (X : Cx) (tg iter : Expr) (f : Ws → Hv → Res Src) : Prop := ∀ E, Cn X E → PI X tg iter (tI T E f)

def forM (nx : Nat → Hv → Nxt) (g : MG) (b : MS) : Nat → Nat → MS
  | 0, _, _, _ => .bad
  | n + 1, i, r, h => match nx i h with
    | .stop => .nx r h
    | .item w h1 => (match g w r h1 with
      | .nx r1 h2 => (match b r1 h2 with
        | .nx r2 h3 => forM nx g b n (i + 1) r2 h3
        | .ct r2 h3 => forM nx g b n (i + 1) r2 h3
        | .bk r2 h3 => .nx r2 h3
        | x => x)
      | .exc c d r1 h2 => .exc c d r1 h2
      | _ => .bad)
    | .bad => .bad
def mFor (f : Ws → Hv → Res Src) (g : MG) (b : MS) : MS := fun r h => (f r h).andS r fun S h1 => forM S.nx g b S.n 0 r h1
section
variable {T : Tx} {X : Cx} {tg iter : Expr} {f : Ws → Hv → Res Src} {g : MG} {b : MS} {pos : Pos}
theorem for_run {D : Ends} {E : WX} {S : Src} {J : It} {p0 : List Addr} (sim : SimI T p0 S J) {ps : List Addr} {r : Ws} {h : Hv} {s : St} {H : Hp} (hp : p0 <+: ps) (es : ES ps r s) (vw : View T ps h H) (gd : GoodS T ps H (forM S.nx g b S.n 0 r h) D E) :
    ∃ Z : Nat → Nat → St → Hp → Prop, (∃ m, Z 0 m s H) ∧ ∀ i m s H, Z i m s H → (J.stop i H ∧ D.nx s H) ∨ (J.go i H ∧ ∃ N : St → Hp → Prop, (∀ s' H', N s' H' → ∃ m', m' < m ∧ Z (i + 1) m' s' H') ∧
      ∀ x H', J.yld i H x H' → tG T E g x s H' fun s2 H2 => tS T E b { D with nx := N, ct := N, bk := D.nx } s2 H2) := by
  refine ⟨fun i m s H => ∃ ps r h, p0 <+: ps ∧ ES ps r s ∧ View T ps h H ∧ GoodS T ps H (forM S.nx g b m i r h) D E, ⟨S.n, ps, r, h, hp, es, vw, gd⟩, ?_⟩
  rintro i m s H ⟨ps, r, h, hp, es, vw, gd⟩
  cases m with
  | zero => exact gd.elim
  | succ m =>
    have ok := sim ps h H i hp vw
    unfold forM at gd
    cases q : S.nx i h with
    | stop =>
      rw [q] at gd ok
      exact .inl ⟨ok, gd ps H s (Step.refl _ _) vw es⟩
    | bad => rw [q] at gd; exact gd.elim
    | item w h1 =>
      rw [q] at gd ok
      refine .inr ⟨ok.1, fun s' H' => ∃ ps r h, p0 <+: ps ∧ ES ps r s' ∧ View T ps h H' ∧ GoodS T ps H' (forM S.nx g b m (i + 1) r h) D E, fun s' H' z => ⟨m, Nat.lt_succ_self m, z⟩, fun x H' y => ?_⟩
      obtain ⟨qs, st, vw1, wv⟩ := ok.2 x H' y
      refine ⟨qs, r, h1, w, es.mono st.pre, vw1, wv, ?_⟩
      have gd := gd.step st
      dsimp only at gd
      cases z : g w r h1 with
      | rt _ _ => rw [z] at gd; exact gd.elim
      | bk _ _ => rw [z] at gd; exact gd.elim
      | ct _ _ => rw [z] at gd; exact gd.elim
      | bad => rw [z] at gd; exact gd.elim
      | exc c d r1 h2 => rw [z] at gd; exact gd
      | nx r1 h2 =>
        rw [z] at gd
        intro rs H2 s2 st2 vw2 es2
        refine ⟨rs, r1, h2, es2, vw2, ?_⟩
        have gd := gd.step st2
        dsimp only at gd
        have pp : p0 <+: rs := (hp.trans st.pre).trans st2.pre
        cases y2 : b r1 h2 with
        | nx r2 h3 =>
          rw [y2] at gd
          exact fun ts H3 s3 st3 vw3 es3 => ⟨ts, r2, h3, pp.trans st3.pre, es3, vw3, GoodS.step gd st3⟩
        | ct r2 h3 =>
          rw [y2] at gd
          exact fun ts H3 s3 st3 vw3 es3 => ⟨ts, r2, h3, pp.trans st3.pre, es3, vw3, GoodS.step gd st3⟩
        | bk r2 h3 => rw [y2] at gd; exact gd
        | rt r2 h3 => rw [y2] at gd; exact gd
        | exc c d r2 h3 => rw [y2] at gd; exact gd
        | bad => rw [y2] at gd; exact gd
theorem ss_for {body : List Stmt} (hi : SI T X tg iter f) (hg : SG T X tg g) (hb : SSs T X body b) (hc : X.calm = true := by rfl) (hs : ∀ x, foldedSetIterable iter X.env x = pure x := by intro _; rfl) : SS T X (.For tg iter body [] pos) (mFor f g b) := fun E cn =>
  PSi (ps_for cn.po hc (hi E cn) (hg E cn) (hb E cn) hs) fun D s H ⟨ps, r, hv, es, vw, gd⟩ => by
    refine ⟨ps, r, hv, es, vw, (good_andS (R := SimI T) es gd).imp (fun J H1 q => ?_) fun _ _ _ z => z⟩
    obtain ⟨qs, S, h1, st, vw1, sim, es1, g1⟩ := q
    exact for_run sim (List.prefix_refl _) es1 vw1 g1

/-! ### lists and tuples -/
def nxSeq (p : Nat) : Nat → Hv → Nxt := fun i h => match h[p]? with
  | some (.lst xs) => (match xs[i]? with | some w => .item w h | none => .stop)
  | some (.rol xs) => (match xs[i]? with | some w => .item w h | none => .stop)
  | _ => .bad
def nxTup (p : Nat) : Nat → Hv → Nxt := fun i h => match h[p]? with
  | some (.tup xs) => (match xs[i]? with | some w => .item w h | none => .stop)
  | _ => .bad
def srcOf (w : W) (h : Hv) : Res Src := match w with
  | .ref p => (match h[p]? with
    | some (.lst xs) => .val ⟨xs.length + 1, nxSeq p⟩ h
    | some (.rol xs) => .val ⟨xs.length + 1, nxSeq p⟩ h
    | some (.tup xs) => .val ⟨xs.length + 1, nxTup p⟩ h
    | _ => .bad)
  | _ => .bad
def mSrc (f : Ws → Hv → Res W) : Ws → Hv → Res Src := fun r h => (f r h).bind srcOf
theorem at_pre {ps qs : List Addr} {p : Nat} {a : Addr} (h : ps <+: qs) (e : ps[p]? = some a) : qs[p]? = some a := by
  obtain ⟨r, rfl⟩ := h
  rw [List.getElem?_append_left (List.getElem?_eq_some_iff.mp e).1]
  exact e
theorem paired_none {ps : List Addr} {xs : List W} {vs : List V} (a : Paired (WV ps) xs vs) {i : Nat} (e : xs[i]? = none) : vs.length ≤ i := by
  rw [← a.length]
  exact List.getElem?_eq_none_iff.mp e
theorem sim_list {K : PySem.W.Frag} {ps : List Addr} {p n : Nat} {a : Addr} (ea : ps[p]? = some a) : SimI T ps ⟨n, nxSeq p⟩ (Itl K a) := by
  intro qs h H i pre vw
  have eq := at_pre pre ea
  show NxOk T qs H (Itl K a) i (nxSeq p i h)
  unfold nxSeq
  split
  · rename_i xs e1
    obtain ⟨vs, rr, eH⟩ := vw.ob _ a _ eq e1
    split
    · rename_i w ew
      obtain ⟨v, ev, wv⟩ := paired_get rr ew
      refine ⟨⟨vs, v, SqL.of eH, ev⟩, fun x H' y => ?_⟩
      obtain ⟨rfl, y⟩ := y
      have z := y vs (SqL.of eH)
      rw [ev] at z
      cases z
      exact ⟨qs, Step.refl _ _, vw, wv⟩
    · rename_i ew
      exact ⟨vs, SqL.of eH, paired_none rr ew⟩
  · rename_i xs e1
    obtain ⟨vs, ob, rr, eH⟩ := vw.ob _ a _ eq e1
    split
    · rename_i w ew
      obtain ⟨v, ev, wv⟩ := paired_get rr ew
      refine ⟨⟨vs, v, .inl (.inr ⟨ob, eH⟩), ev⟩, fun x H' y => ?_⟩
      obtain ⟨rfl, y⟩ := y
      have z := y vs (.inl (.inr ⟨ob, eH⟩))
      rw [ev] at z
      cases z
      exact ⟨qs, Step.refl _ _, vw, wv⟩
    · rename_i ew
      exact ⟨vs, .inl (.inr ⟨ob, eH⟩), paired_none rr ew⟩
  · trivial
theorem sim_tup {K : PySem.W.Frag} {ps : List Addr} {p n : Nat} {a : Addr} (ea : ps[p]? = some a) : SimI T ps ⟨n, nxTup p⟩ (Itt K a) := by
  intro qs h H i pre vw
  have eq := at_pre pre ea
  show NxOk T qs H (Itt K a) i (nxTup p i h)
  unfold nxTup
  split
  · rename_i xs e1
    obtain ⟨vs, rr, eH⟩ := vw.ob _ a _ eq e1
    split
    · rename_i w ew
      obtain ⟨v, ev, wv⟩ := paired_get rr ew
      refine ⟨⟨vs, v, SqT.of eH, ev⟩, fun x H' y => ?_⟩
      obtain ⟨rfl, y⟩ := y
      have z := y vs (SqT.of eH)
      rw [ev] at z
      cases z
      exact ⟨qs, Step.refl _ _, vw, wv⟩
    · rename_i ew
      exact ⟨vs, SqT.of eH, paired_none rr ew⟩
  · trivial
/-- for x in e: a list or a tuple -/
theorem si_seq {e : Expr} {fe : Ws → Hv → Res W} (he : SE T X e fe) : SI T X tg e (mSrc fe) := fun E cn => ⟨fun pins s σ H R I h => by
  obtain ⟨ps, r, hv, es, vw, gd⟩ := h
  have key : (iList X.K (tE T E fe) σ H R) ∨ (iTup X.K (tE T E fe) σ H R) := by
    unfold mSrc at gd
    cases q : fe r hv with
    | bad => rw [q] at gd; exact gd.elim
    | exc c d h1 =>
      rw [q] at gd
      exact .inl ⟨ps, r, hv, es, vw, by rw [q]; exact gd⟩
    | val w h1 =>
      rw [q] at gd
      have g1 : Good T (SimI T) ps H (srcOf w h1) R _ := gd
      unfold srcOf at g1
      split at g1
      · rename_i p
        split at g1
        · rename_i xs e1
          refine .inl ⟨ps, r, hv, es, vw, ?_⟩
          rw [q]
          intro qs H' v st vw' wv
          obtain ⟨a, ea, rfl⟩ := wv
          obtain ⟨vs, rr, eH⟩ := vw'.ob _ a _ ea e1
          exact ⟨a, rfl, ⟨vs, SqL.of eH⟩, g1 qs H' _ st vw' (sim_list ea)⟩
        · rename_i xs e1
          refine .inl ⟨ps, r, hv, es, vw, ?_⟩
          rw [q]
          intro qs H' v st vw' wv
          obtain ⟨a, ea, rfl⟩ := wv
          obtain ⟨vs, ob, rr, eH⟩ := vw'.ob _ a _ ea e1
          exact ⟨a, rfl, ⟨vs, .inl (.inr ⟨ob, eH⟩)⟩, g1 qs H' _ st vw' (sim_list ea)⟩
        · rename_i xs e1
          refine .inr ⟨ps, r, hv, es, vw, ?_⟩
          rw [q]
          intro qs H' v st vw' wv
          obtain ⟨a, ea, rfl⟩ := wv
          obtain ⟨vs, rr, eH⟩ := vw'.ob _ a _ ea e1
          exact ⟨a, rfl, ⟨vs, SqT.of eH⟩, g1 qs H' _ st vw' (sim_tup ea)⟩
        · exact g1.elim
      · exact g1.elim
  rcases key with k | k
  · exact (pi_list (he E cn)).run pins s σ H R I k
  · exact (pi_tup (he E cn)).run pins s σ H R I k⟩
/-! ### range -/
def nxR (lo : Int) (n : Nat) : Nat → Hv → Nxt := fun i h => if i < n then .item (.int (lo + i)) h else .stop
theorem sim_range {ps : List Addr} {lo : Int} {n m : Nat} : SimI T ps ⟨m, nxR lo n⟩ (Itr lo n) := by
  intro qs h H i pre vw
  show NxOk T qs H (Itr lo n) i (nxR lo n i h)
  unfold nxR
  split
  · rename_i hi
    refine ⟨hi, fun x H' y => ?_⟩
    obtain ⟨rfl, rfl⟩ := y
    exact ⟨qs, Step.refl _ _, vw, rfl⟩
  · rename_i hi
    exact Nat.le_of_not_lt hi
def rgB (i : Int) : Bool := decide (-4611686018427387904 ≤ i) && decide (i < 4611686018427387904)
def srcR (ws : List W) (h : Hv) : Res Src := match ws with
  | [.int j] => if rgB j then .val ⟨j.toNat + 1, nxR 0 j.toNat⟩ h else .bad
  | [.int i, .int j] => if rgB i && rgB j then .val ⟨(j - i).toNat + 1, nxR i (j - i).toNat⟩ h else .bad
  | _ => .bad
def mRng (g : Ws → Hv → Res (List W)) : Ws → Hv → Res Src := fun r h => (g r h).bind srcR
theorem rgB_ok {i : Int} (h : rgB i = true) : -(2 ^ 62) ≤ i ∧ i < 2 ^ 62 := by
  unfold rgB at h
  rw [Bool.and_eq_true] at h
  have e : (2 : Int) ^ 62 = 4611686018427387904 := by decide
  rw [e]
  exact ⟨of_decide_eq_true h.1, of_decide_eq_true h.2⟩
theorem si_range1 {a : Expr} {fa : Ws → Hv → Res (List W)} {p pos : Pos} (hg : Gl X "range") (hm : X.mg "range" = none) (ha : SA T X [a] fa) (hl : ∀ r h ws h', fa r h = .val ws h' → ws.length = 1) (hs : starEach [a] X.env = [(false, eval a X.env)] := by rfl) :
    SI T X tg (.Call (.Name "range" p) [a] [] pos) (mRng fa) := fun E cn => ⟨fun pins s σ H R I h => (pi_range1 hg hm (ha E cn) hs).run pins s σ H R I (by
  obtain ⟨ps, r, hv, es, vw, gd⟩ := h
  refine ⟨ps, r, hv, es, vw, ?_⟩
  cases q : fa r hv with
  | bad => unfold mRng at gd; rw [q] at gd; exact gd.elim
  | exc c d h1 => unfold mRng at gd; rw [q] at gd; exact gd
  | val ws h1 =>
    unfold mRng at gd
    rw [q] at gd
    have g1 : Good T (SimI T) ps H (srcR ws h1) R _ := gd
    have hw := hl r hv ws h1 q
    intro qs H' vs st vw' wv
    unfold srcR at g1
    split at g1
    · split at g1
      · rename_i j hj
        obtain ⟨v, rfl, e⟩ := one_of wv
        cases e
        obtain ⟨b1, b2⟩ := rgB_ok hj
        exact ⟨j, rfl, b1, b2, g1 qs H' _ st vw' sim_range⟩
      · exact g1.elim
    · simp at hw
    · exact g1.elim)⟩
theorem si_range2 {a b : Expr} {fa : Ws → Hv → Res (List W)} {p pos : Pos} (hg : Gl X "range") (hm : X.mg "range" = none) (ha : SA T X [a, b] fa) (hl : ∀ r h ws h', fa r h = .val ws h' → ws.length = 2) (hs : starEach [a, b] X.env = [(false, eval a X.env), (false, eval b X.env)] := by rfl) (hs2 : starEach [b] X.env = [(false, eval b X.env)] := by rfl) :
    SI T X tg (.Call (.Name "range" p) [a, b] [] pos) (mRng fa) := fun E cn => ⟨fun pins s σ H R I h => (pi_range2 hg hm (ha E cn) hs hs2).run pins s σ H R I (by
  obtain ⟨ps, r, hv, es, vw, gd⟩ := h
  refine ⟨ps, r, hv, es, vw, ?_⟩
  cases q : fa r hv with
  | bad => unfold mRng at gd; rw [q] at gd; exact gd.elim
  | exc c d h1 => unfold mRng at gd; rw [q] at gd; exact gd
  | val ws h1 =>
    unfold mRng at gd
    rw [q] at gd
    have g1 : Good T (SimI T) ps H (srcR ws h1) R _ := gd
    have hw := hl r hv ws h1 q
    intro qs H' vs st vw' wv
    unfold srcR at g1
    split at g1
    · simp at hw
    · split at g1
      · rename_i i j hj
        rw [Bool.and_eq_true] at hj
        obtain ⟨v, v', rfl, e, e'⟩ := pair_of wv
        cases e; cases e'
        obtain ⟨b1, b2⟩ := rgB_ok hj.1
        obtain ⟨b3, b4⟩ := rgB_ok hj.2
        exact ⟨i, j, rfl, ⟨b1, b2, b3, b4⟩, g1 qs H' _ st vw' sim_range⟩
      · exact g1.elim
    · exact g1.elim)⟩
theorem len_cons {f : Ws → Hv → Res W} {g : Ws → Hv → Res (List W)} {n : Nat} (hg : ∀ r h ws h', g r h = .val ws h' → ws.length = n) : ∀ r h ws h', mCons f g r h = .val ws h' → ws.length = n + 1 := by
  intro r h ws h' e
  unfold mCons at e
  cases q : f r h with
  | bad => rw [q] at e; cases e
  | exc c d h1 => rw [q] at e; cases e
  | val w h1 =>
    rw [q] at e
    cases q2 : g r h1 with
    | bad => simp only [Res.bind, q2] at e; cases e
    | exc c d h1 => simp only [Res.bind, q2] at e; cases e
    | val us h2 =>
      simp only [Res.bind, q2] at e
      cases e
      simp [hg _ _ _ _ q2]
theorem len_nil : ∀ (r : Ws) (h : Hv) (ws : List W) (h' : Hv), mNil r h = .val ws h' → ws.length = 0 := fun r h ws h' e => by
  unfold mNil at e
  cases e
  rfl
/-! ### enumerate -/
def nxEnum (p : Nat) : Nat → Hv → Nxt := fun i h => match h[p]? with
  | some (.lst xs) => (match xs[i]? with | some w => .item (.ref h.length) (h ++ [.tup [.int i, w]]) | none => .stop)
  | some (.rol xs) => (match xs[i]? with | some w => .item (.ref h.length) (h ++ [.tup [.int i, w]]) | none => .stop)
  | _ => .bad
theorem sim_enum {K : PySem.W.Frag} {ps : List Addr} {p n : Nat} {a : Addr} (ea : ps[p]? = some a) : SimI T ps ⟨n, nxEnum p⟩ (Ite K a) := by
  intro qs h H i pre vw
  have eq := at_pre pre ea
  show NxOk T qs H (Ite K a) i (nxEnum p i h)
  unfold nxEnum
  have go : ∀ {vs : List V} {xs : List W}, Paired (WV qs) xs vs → SqL K H a vs → NxOk T qs H (Ite K a) i (match xs[i]? with | some w => .item (.ref h.length) (h ++ [.tup [.int i, w]]) | none => .stop) := by
    intro vs xs rr sq
    split
    · rename_i w ew
      obtain ⟨v, ev, wv⟩ := paired_get rr ew
      refine ⟨⟨vs, v, sq, ev⟩, fun x H' y => ?_⟩
      obtain ⟨q, x', rfl, hq, rfl, y⟩ := y
      have z := y vs sq
      rw [ev] at z
      cases z
      obtain ⟨v1, s1, e1⟩ := vw.alloc hq (o := .tup [.int i, w]) (u := .tup [.int (i : Nat), v]) ⟨_, .cons rfl (.cons wv .nil), upd_same⟩
      exact ⟨_, s1, v1, q, e1, rfl⟩
    · rename_i ew
      exact ⟨vs, sq, paired_none rr ew⟩
  split
  · rename_i xs e1
    obtain ⟨vs, rr, eH⟩ := vw.ob _ a _ eq e1
    exact go rr (SqL.of eH)
  · rename_i xs e1
    obtain ⟨vs, ob, rr, eH⟩ := vw.ob _ a _ eq e1
    exact go rr (.inl (.inr ⟨ob, eH⟩))
  · trivial
def srcE (ws : List W) (h : Hv) : Res Src := match ws with
  | [.ref p] => (match h[p]? with
    | some (.lst xs) => .val ⟨xs.length + 1, nxEnum p⟩ h
    | some (.rol xs) => .val ⟨xs.length + 1, nxEnum p⟩ h
    | _ => .bad)
  | _ => .bad
def mEnum (g : Ws → Hv → Res (List W)) : Ws → Hv → Res Src := fun r h => (g r h).bind srcE
theorem si_enum {e : Expr} {fa : Ws → Hv → Res (List W)} {p pos tpos : Pos} {elts : List Expr} {kk : Nat} (hg : Gl X "enumerate") (hm : X.mg "enumerate" = none) (ha : SA T X [e] fa) (hs : starEach [e] X.env = [(false, eval e X.env)] := by rfl) :
    SI T X (.Tuple elts kk tpos) (.Call (.Name "enumerate" p) [e] [] pos) (mEnum fa) := fun E cn => ⟨fun pins s σ H R I h => (pi_enum hg hm (ha E cn) hs).run pins s σ H R I (by
  obtain ⟨ps, r, hv, es, vw, gd⟩ := h
  refine ⟨ps, r, hv, es, vw, ?_⟩
  cases q : fa r hv with
  | bad => unfold mEnum at gd; rw [q] at gd; exact gd.elim
  | exc c d h1 => unfold mEnum at gd; rw [q] at gd; exact gd
  | val ws h1 =>
    unfold mEnum at gd
    rw [q] at gd
    have g1 : Good T (SimI T) ps H (srcE ws h1) R _ := gd
    intro qs H' vs st vw' wv
    unfold srcE at g1
    split at g1
    · obtain ⟨v, rfl, a, ea, rfl⟩ := one_of wv
      split at g1
      · rename_i xs e1
        obtain ⟨vs, rr, eH⟩ := vw'.ob _ a _ ea e1
        exact ⟨a, vs, rfl, SqL.of eH, g1 qs H' _ st vw' (sim_enum ea)⟩
      · rename_i xs e1
        obtain ⟨vs, ob, rr, eH⟩ := vw'.ob _ a _ ea e1
        exact ⟨a, vs, rfl, .inl (.inr ⟨ob, eH⟩), g1 qs H' _ st vw' (sim_enum ea)⟩
      · exact g1.elim
    · exact g1.elim)⟩
end
end VL
end
section
namespace VL
open PySem L2

/-! ### comprehensions: one name, at most one if -/
def noX {α : Type} : Res α → Res α
  | .exc _ _ _ => .bad
  | x => x
theorem good_noX {α β γ δ : Type} {T : Tx} {R : List Addr → α → β → Prop} {S : List Addr → γ → δ → Prop} {ps : List Addr} {H : Hp} {x : Res α} {k : α → Hv → Res γ} {Q : δ → Hp → Prop} {E : XK} (g : Good T S ps H ((noX x).bind k) Q E) :
    Good T R ps H x (Mid T R S ps H k Q E) (fun _ _ _ => False) := by
  cases x with
  | val w h => exact fun qs H' v s vw rv => ⟨qs, w, h, s, vw, rv, Good.step g s⟩
  | exc c d h => exact g.elim
  | bad => exact g
def compM (nx : Nat → Hv → Nxt) (i : Nat) (t : Ws → Hv → Res Bool) (f : Ws → Hv → Res W) (p : Nat) : Nat → Nat → Ws → Hv → Res W
  | 0, _, _, _ => .bad
  | n + 1, k, r, h => match nx k h with
    | .stop => .val (.ref p) h
    | .bad => .bad
    | .item w h1 => (noX (t (r.set i (some w)) h1)).bind fun b h2 => if b then ((noX (f (r.set i (some w)) h2)).bind fun y h3 => match h3[p]? with
        | some (.lst acc) => if acc.length < 100000 then compM nx i t f p n (k + 1) r (h3.set p (.lst (acc ++ [y]))) else .bad
        | _ => .bad) else compM nx i t f p n (k + 1) r h2
def mLc (src : Ws → Hv → Res Src) (i : Nat) (t : Ws → Hv → Res Bool) (f : Ws → Hv → Res W) : Ws → Hv → Res W := fun r h => (src r h).bind fun S h1 => compM S.nx i t f h1.length S.n 0 r (h1 ++ [.lst []])
abbrev No : WX := fun _ _ _ _ => False
theorem cn_no {X : Cx} {s : Shared} {H : Hp} {scope : Scope} {env : Env} {fp : List Addr} : Cn (X.blk s H scope env fp) No := ⟨takes0, PassesOwn.never⟩
section
variable {T : Tx} {X : Cx} {elt iter : Expr} {ifs : List Expr} {scope : Scope} {pos px : Pos} {src : Ws → Hv → Res Src} {t : Ws → Hv → Res Bool} {f : Ws → Hv → Res W} {x : Str}
theorem lc_read (i : Nat) {E : WX} {s : St} {H : Hp} {Q : VK} {tt : TT} (htt : ∀ s H Q, tT T No t s H Q → tt s H Q) (h : tE T E (mLc src i t f) s H Q) : tLc (tI T E src) (gName i) tt (tE T No f) [i] s H Q := by
  obtain ⟨ps, r, hv, es, vw, gd⟩ := h
  refine ⟨ps, r, hv, es, vw, (Good.bind (R := SimI T) (S := WV) gd).imp (fun J H1 q => ?_) fun _ _ _ z => z⟩
  obtain ⟨qs, S, h1, st, vw1, sim, g1⟩ := q
  intro D hD
  obtain ⟨vw2, st2, e2⟩ := vw1.alloc hD (o := .lst []) (u := .lst []) ⟨[], .nil, upd_same⟩
  have pq := st2.pre
  refine ⟨fun k m H => ∃ ps h, (qs ++ [D]) <+: ps ∧ ES ps r s ∧ View T ps h H ∧ Good T WV ps H (compM S.nx i t f h1.length m k r h) Q (fun c d H' => E c d s H'), ⟨S.n, qs ++ [D], _, List.prefix_refl _, (es.mono st.pre).mono pq, vw2, Good.step g1 st2⟩, ?_⟩
  rintro k m H3 ⟨rs, h3, pre, es3, vw3, g3⟩
  cases m with
  | zero => exact g3.elim
  | succ m =>
    have ok := sim rs h3 H3 k (pq.trans pre) vw3
    unfold compM at g3
    have eD := at_pre pre e2
    cases q : S.nx k h3 with
    | bad => rw [q] at g3; exact g3.elim
    | stop =>
      rw [q] at g3 ok
      exact .inl ⟨ok, g3 rs H3 _ (Step.refl _ _) vw3 ⟨D, eD, rfl⟩⟩
    | item w h4 =>
      rw [q] at g3 ok
      refine .inr ⟨ok.1, fun H => ∃ ps h, (qs ++ [D]) <+: ps ∧ ES ps r s ∧ View T ps h H ∧ Good T WV ps H (compM S.nx i t f h1.length m (k + 1) r h) Q (fun c d H' => E c d s H'), fun H' z => ⟨m, Nat.lt_succ_self m, z⟩, fun v H4 y => ?_⟩
      obtain ⟨ts, st4, vw4, wv⟩ := ok.2 v H4 y
      have g4 := g3.step st4
      dsimp only at g4
      have es4 : ES ts (r.set i (some w)) ((wipe s [i]).set i (some v)) := by
        show ES ts (r.set i (some w)) ((s.set i none).set i (some v))
        rw [List.set_set]
        exact (es3.mono st4.pre).set i wv
      refine ⟨?_, htt _ _ _ ⟨ts, r.set i (some w), h4, es4, vw4, (good_noX (R := BEq2) (S := WV) g4).imp (fun b H5 q5 => ?_) fun _ _ _ z => z⟩⟩
      · show (((s.set i none).set i (some v)).set i none) = s.set i none
        rw [List.set_set, List.set_set]
      · obtain ⟨us, b', h5, st5, vw5, eb, g5⟩ := q5
        cases eb
        have es5 := es4.mono st5.pre
        have esr := (es3.mono st4.pre).mono st5.pre
        have pre5 := (pre.trans st4.pre).trans st5.pre
        cases b with
        | false => exact iteF ⟨us, h5, pre5, esr, vw5, g5⟩
        | true =>
          refine iteT ⟨us, r.set i (some w), h5, es5, vw5, (good_noX (R := WV) (S := WV) g5).imp (fun yv H6 q6 => ?_) fun _ _ _ z => z⟩
          obtain ⟨vs, wy, h6, st6, vw6, wvy, g6⟩ := q6
          dsimp only at g6
          split at g6
          · rename_i acc e6
            split at g6
            · rename_i hl
              have eD6 := at_pre (pre5.trans st6.pre) e2
              obtain ⟨av, rr, eH⟩ := vw6.ob _ D _ eD6 e6
              have l1 : acc.length = av.length := rr.length
              obtain ⟨vw7, st7⟩ := vw6.put eD6 (o := .lst (acc ++ [wy])) (u := .lst (av ++ [yv])) ⟨_, paired_app rr (.cons wvy .nil), upd_same⟩
              exact ⟨av, eH, Nat.lt_of_lt_of_le (l1 ▸ hl) (by decide), vs, _, pre5.trans st6.pre, esr.mono st6.pre, vw7, Good.step g6 st7⟩
            · exact g6.elim
          · exact g6.elim
def mYes : Ws → Hv → Res Bool := fun _ h => .val true h
theorem yes_read {s : St} {H : Hp} {Q : Bool → Hp → Prop} (h : tT T No mYes s H Q) : tYes s H Q := by
  obtain ⟨ps, r, hv, es, vw, gd⟩ := h
  exact Good.now (R := BEq2) gd vw rfl
theorem se_lc (i : Nat) (hN : X.N.Nodup) (hi : SI T X (.Name x px) iter src) (ok : BlkOk X.N X.env.scope scope [(x, i)]) (hx : ∀ (s : Shared) (H : Hp) (C : Addr) (cl : List (Str × Addr)) (fp : List Addr), PG (X.blk s H scope (compEnvC scope cl C X.env) fp) (.Name x px) (gName i))
    (he : ∀ (s : Shared) (H : Hp) (C : Addr) (cl : List (Str × Addr)) (fp : List Addr), SE T (X.blk s H scope (compEnvC scope cl C X.env) fp) elt f) (hc : X.calm = true := by rfl) (hs : ∀ x, foldedSetIterable iter X.env x = pure x := by intro _; rfl) :
    SE T X (.ListComp elt [⟨.Name x px, iter, [], 0⟩] scope pos) (mLc src i mYes f) := fun E cn => PEi (pe_lc (own := [(x, i)]) hc hN (hi E cn) ok hx (fun _ _ _ _ _ => pts_nil) (fun s H C cl fp => he s H C cl fp No cn_no) hs) fun s H Q h => lc_read i (fun _ _ _ z => yes_read z) h
theorem se_lcIf (i : Nat) {c : Expr} (hN : X.N.Nodup) (hi : SI T X (.Name x px) iter src) (ok : BlkOk X.N X.env.scope scope [(x, i)]) (hx : ∀ (s : Shared) (H : Hp) (C : Addr) (cl : List (Str × Addr)) (fp : List Addr), PG (X.blk s H scope (compEnvC scope cl C X.env) fp) (.Name x px) (gName i))
    (ht : ∀ (s : Shared) (H : Hp) (C : Addr) (cl : List (Str × Addr)) (fp : List Addr), STt T (X.blk s H scope (compEnvC scope cl C X.env) fp) c t)
    (he : ∀ (s : Shared) (H : Hp) (C : Addr) (cl : List (Str × Addr)) (fp : List Addr), SE T (X.blk s H scope (compEnvC scope cl C X.env) fp) elt f) (hc : X.calm = true := by rfl) (hs : ∀ x, foldedSetIterable iter X.env x = pure x := by intro _; rfl) :
    SE T X (.ListComp elt [⟨.Name x px, iter, [c], 0⟩] scope pos) (mLc src i t f) := fun E cn => PEi (pe_lc (own := [(x, i)]) hc hN (hi E cn) ok hx (fun s H C cl fp => pts_one (ht s H C cl fp No cn_no)) (fun s H C cl fp => he s H C cl fp No cn_no) hs) fun s H Q h => lc_read i (fun _ _ _ z => z) h
end

/-! ### slices of lists -/
def mPart (o : Option (Ws → Hv → Res W)) : Ws → Hv → Res (Option Int) := match o with
  | none => fun _ h => .val none h
  | some f => fun r h => (f r h).bind fun w h1 => match w with
    | .int i => .val (some i) h1
    | _ => .bad
abbrev OEq2 : List Addr → Option Int → Option Int → Prop := fun _ a b => a = b
def tO (T : Tx) (E : WX) (f : Ws → Hv → Res (Option Int)) : TO := fun s H Q => ∃ ps r h, ES ps r s ∧ View T ps h H ∧ Good T OEq2 ps H (f r h) Q (fun c d H' => E c d s H')
def SO (T : Tx) (X : Cx) (e : Option Expr) (f : Ws → Hv → Res (Option Int)) : Prop := ∀ E, Cn X E → PO X e (tO T E f)
def cutW (xs : List W) (lo hi : Option Int) : List W := (xs.drop (HT.sIx xs.length 0 lo)).take (HT.sIx xs.length xs.length hi - HT.sIx xs.length 0 lo)
def mCut (w : W) (lo hi : Option Int) (h : Hv) : Res W := match w with
  | .ref p => (match h[p]? with
    | some (.lst xs) => mNew (.lst (cutW xs lo hi)) h
    | some (.rol xs) => mNew (.lst (cutW xs lo hi)) h
    | _ => .bad)
  | _ => .bad
def mSl (f : Ws → Hv → Res W) (lo hi : Ws → Hv → Res (Option Int)) : Ws → Hv → Res W := fun r h => (f r h).bind fun w h1 => (lo r h1).bind fun l h2 => (hi r h2).bind fun u h3 => mCut w l u h3
section
variable {T : Tx} {X : Cx} {e : Expr} {f : Ws → Hv → Res W} {lo hi : Option Expr} {fl fh : Ws → Hv → Res (Option Int)} {p2 pos : Pos}
theorem POi {o : Option Expr} {t t' : TO} (h : PO X o t) (k : ∀ s H Q, t' s H Q → t s H Q) : PO X o t' := ⟨fun pins s σ H Q I hw => h.run pins s σ H Q I (k _ _ _ hw)⟩
theorem so_none : SO T X none (mPart none) := fun E cn => POi po_none fun s H Q ⟨ps, r, h, es, vw, g⟩ => Good.now (R := OEq2) g vw rfl
theorem so_some (h : SE T X e f) : SO T X (some e) (mPart (some f)) := fun E cn => POi (po_some (h E cn)) fun s H Q ⟨ps, r, hv, es, vw, gd⟩ => by
  refine ⟨ps, r, hv, es, vw, (Good.bind (R := WV) (S := OEq2) gd).imp (fun v H1 q => ?_) fun _ _ _ z => z⟩
  obtain ⟨qs, w, h1, st, vw1, wv, g1⟩ := q
  dsimp only at g1
  split at g1
  · cases wv
    exact ⟨_, rfl, Good.now (R := OEq2) g1 vw1 rfl⟩
  · exact g1.elim
theorem paired_cut {ps : List Addr} {xs : List W} {vs : List V} (a : Paired (WV ps) xs vs) (lo hi : Option Int) : Paired (WV ps) (cutW xs lo hi) (cutV vs lo hi) := by
  unfold cutW cutV
  rw [a.length]
  exact paired_take (paired_drop a _) _
theorem se_slice (he : SE T X e f) (hl : SO T X lo fl) (hh : SO T X hi fh) : SE T X (.Subscript e (.Slice lo hi none p2) pos) (mSl f fl fh) := fun E cn => PEi (pe_slice sl_list (he E cn) (hl E cn) (hh E cn)) fun s H Q ⟨ps, r, hv, es, vw, gd⟩ => by
  refine ⟨ps, r, hv, es, vw, (Good.bind (R := WV) (S := WV) gd).imp (fun v H1 q => ?_) fun _ _ _ z => z⟩
  obtain ⟨qs, w, h1, st, vw1, wv, g1⟩ := q
  refine ⟨qs, r, h1, es.mono st.pre, vw1, (Good.bind (R := OEq2) (S := WV) g1).imp (fun l H2 q2 => ?_) fun _ _ _ z => z⟩
  obtain ⟨rs, l', h2, st2, vw2, e2, g2⟩ := q2
  cases e2
  refine ⟨rs, r, h2, (es.mono st.pre).mono st2.pre, vw2, (Good.bind (R := OEq2) (S := WV) g2).imp (fun u H3 q3 => ?_) fun _ _ _ z => z⟩
  obtain ⟨ts, u', h3, st3, vw3, e3, g3⟩ := q3
  cases e3
  have wv3 := (wv.mono st2.pre).mono st3.pre
  dsimp only at g3
  unfold mCut at g3
  split at g3
  · obtain ⟨a, ea, rfl⟩ := wv3
    split at g3
    · rename_i xs e1
      obtain ⟨vs, rr, eH⟩ := vw3.ob _ a _ ea e1
      exact ⟨a, vs, rfl, SqL.of eH, fun p hp => good_new vw3 g3 (fun H' p' e => ⟨_, paired_cut rr _ _, e⟩) hp⟩
    · rename_i xs e1
      obtain ⟨vs, ob, rr, eH⟩ := vw3.ob _ a _ ea e1
      exact ⟨a, vs, rfl, .inl (.inr ⟨ob, eH⟩), fun p hp => good_new vw3 g3 (fun H' p' e => ⟨_, paired_cut rr _ _, e⟩) hp⟩
    · exact g3.elim
  · exact g3.elim
end

/-! ### xs.append(e) -/
def mApp (fo fe : Ws → Hv → Res W) : Ws → Hv → Res W := fun r h => (fo r h).bind fun o h1 => match o with
  | .ref p => (match h1[p]? with
    | some (.lst _) => (fe r h1).bind fun w h2 => (match h2[p]? with
      | some (.lst xs) => if xs.length < 100000 then .val .non (h2.set p (.lst (xs ++ [w]))) else .bad
      | _ => .bad)
    | _ => .bad)
  | _ => .bad
section
variable {T : Tx} {X : Cx} {o e : Expr} {fo fe : Ws → Hv → Res W} {pos apos cpos : Pos}
theorem se_append (ho : SE T X o fo) (he : SE T X e fe) (hs : starEach [e] X.env = (false, eval e X.env) :: starEach [] X.env := by rfl)
    (hp : ∀ {to : TE} {t : TA}, PE X o to → PA X [e] t → PE X (.Call (.Attribute o "append" apos) [e] [] cpos) (tBM X.K "list" rAppend to t) := by exact fun a b => pe_bm PySem.F.plainAttrs_list PySem.F.slot_list_append PySem.F.type_list_append mt_append a b) :
    SE T X (.Call (.Attribute o "append" apos) [e] [] cpos) (mApp fo fe) := fun E cn => PEi (hp (ho E cn) (pa_cons (he E cn) pa_nil hs)) fun s H Q ⟨ps, r, hv, es, vw, gd⟩ => by
  refine ⟨ps, r, hv, es, vw, (Good.bind (R := WV) (S := WV) gd).imp (fun v H1 q => ?_) fun _ _ _ z => z⟩
  obtain ⟨qs, w, h1, st, vw1, wv, g1⟩ := q
  dsimp only at g1
  split at g1
  · rename_i p
    obtain ⟨a, ea, rfl⟩ := wv
    split at g1
    · rename_i ys e1
      obtain ⟨vs, rr, eH⟩ := vw1.ob _ a _ ea e1
      refine ⟨.inl ⟨rfl, vs, SqL.of eH⟩, qs, r, h1, es.mono st.pre, vw1, (Good.bind (R := WV) (S := WV) g1).imp (fun y H2 q2 => ?_) fun _ _ _ z => z⟩
      obtain ⟨rs, wy, h2, st2, vw2, wvy, g2⟩ := q2
      dsimp only at g2
      split at g2
      · rename_i xs e2
        split at g2
        · rename_i hl
          have ea2 := at_pre st2.pre ea
          obtain ⟨us, r2, eH2⟩ := vw2.ob _ a _ ea2 e2
          have l1 : xs.length = us.length := r2.length
          obtain ⟨vw3, st3⟩ := vw2.put ea2 (o := .lst (xs ++ [wy])) (u := .lst (us ++ [y])) ⟨_, paired_app r2 (.cons wvy .nil), upd_same⟩
          exact ⟨a, us, y, rfl, rfl, eH2, Nat.lt_of_lt_of_le (l1 ▸ hl) (by decide), g2 _ _ _ st3 vw3 rfl⟩
        · exact g2.elim
      · exact g2.elim
    · exact g1.elim
  · exact g1.elim
end
end VL
end
section
namespace VL
open PySem L2 PySem.Spec PyProof.Rows

/-! ### raise of an own error with one field -/
def mRaise (C : String) (f : Str) (g : Ws → Hv → Res (List W)) : MS := fun r h => (g r h).andS r fun ws h1 => match ws with
  | [w] => .exc C (some h1.length) r (h1 ++ [.xd [(f, w)]])
  | _ => .bad
/-- __init__(self, f): self.f = f -/
def spInit (K : PySem.W.Frag) (C : Addr) (f : Str) : Sp := fun vs H Q _ => ∃ (a : Addr) (v : V), vs = [.ref a, v] ∧ H a = some (exo a C none) ∧ ∀ dx, H dx = none → dx ≠ a → Q .non (upd (upd H dx (exd dx [(f, v)])) a (exo a C (some dx)))
/-- what the text says of the error's class -/
structure ErrC (P : Program) (w : World) (K : PySem.W.Frag) (mg : Str → Option Value) (base : Heap) (x f : Str) (C : Addr) : Prop where
  oex : OexC K C
  mgC : mg x = some (.ref C)
  ini : ∃ fI fd, PySem.W.findIn K (.ref C) "__init__" = some (some (.ref fI)) ∧ PySem.W.typeIn K (.ref fI) = some (.type "function") ∧ FnOk P w K mg base CX0 1 fI fd ["self", f] (spInit K C f) ∧ Binds K fd ["self", f] []
section
variable {T : Tx} {X : Cx} {C : Addr} {cn9 : String} {x f : Str} {e : Expr} {g : Ws → Hv → Res (List W)} {p pos pos' : Pos}
theorem ss_raise (Z : ErrC X.prog X.w X.K X.mg X.base x f C) (hcv : T.cv cn9 = .ref C) (hr : Room 2 X.A) (hg : Gl X x) (ha : SA T X [e] g) (hc : X.calm = true := by rfl) (hdb : (x == ("__debug__" : Str)) = false := by decide)
    (he : starEach [e] X.env = (false, eval e X.env) :: starEach [] X.env := by rfl) (hpl : (backTo pos' (starEach [] X.env)).any (·.1) = false := by rfl) : SS T X (.Raise (some (.Call (.Name x p) [e] [] pos')) none pos) (mRaise cn9 f g) := fun E cn => by
  obtain ⟨fI, fd, h1, h2, h3, h4⟩ := Z.ini
  refine PSi (ps_raise hc cn.tk (pmk_oex Z.oex h1 h2 h3 hr h4 .nil pass0 hg Z.mgC (ha E cn) hdb he hpl)) fun D s H ⟨ps, r, hv, es, vw, gd⟩ => ?_
  refine ⟨ps, r, hv, es, vw, (good_andS (R := WVs) es gd).imp (fun vs H1 q => ?_) fun _ _ _ z => z⟩
  obtain ⟨qs, ws, hh, st, vw1, wv, es1, g1⟩ := q
  split at g1
  · rename_i w
    obtain ⟨v, rfl, wv1⟩ := one_of wv
    refine ⟨by simp, fun a na => ⟨a, v, rfl, upd_same, fun dx hd ne => ⟨rfl, dx, [(f, v)], upd_same, by rw [upd_ne ne, upd_same], ?_, ?_⟩⟩⟩
    · rw [upd_ne ne] at hd
      exact hd
    · rw [upd_ne ne] at hd
      have eqH : upd (del (upd (upd (upd H1 a (exo a C none)) dx (exd dx [(f, v)])) a (exo a C (some dx))) a) dx (.xd [(f, v)]) = upd H1 dx (.xd [(f, v)]) := by
        funext b
        by_cases hb : b = dx
        · rw [hb, upd_same, upd_same]
        · rw [upd_ne hb, upd_ne hb]
          by_cases ha : b = a
          · rw [ha, del_same, na]
          · rw [del_ne ha, upd_ne ha, upd_ne hb, upd_ne ha]
      rw [eqH]
      obtain ⟨vw2, st2, e2⟩ := vw1.alloc hd (o := .xd [(f, w)]) (u := .xd [(f, v)]) ⟨_, .cons ⟨rfl, wv1⟩ .nil, upd_same⟩
      rw [← hcv]
      exact g1 _ _ s (some dx) st2 vw2 (es1.mono st2.pre) ⟨dx, e2, rfl⟩
  · exact g1.elim
end

/-! ### try .. except x as n: a suite that returns -/
theorem View.known {T : Tx} {ps : List Addr} {h : Hv} {H : Hp} (v : View T ps h H) {j : Nat} {a : Addr} (e : ps[j]? = some a) : View (T.known j a) ps h H := ⟨v.len, v.nd, v.ob, v.tab, v.fact, e⟩
theorem View.less {T : Tx} {ps : List Addr} {h : Hv} {H : Hp} {j : Nat} {a : Addr} (v : View (T.known j a) ps h H) : View T ps h H := ⟨v.len, v.nd, v.ob, v.tab, v.fact.1⟩
def mTry (i : Nat) (exm : String → Option Bool) (su : Nat → MS) (b : MS) : MS := fun r h => match b r h with
  | .exc c d r1 h1 => (match exm c with
    | some true => (match d with
      | some j => if i < r1.length then (match su j r1 h1 with
        | .rt w h2 => .rt w h2
        | _ => .bad) else .bad
      | none => .bad)
    | some false => .exc c d r1 h1
    | none => .bad)
  | y => y
section
variable {T : Tx} {X : Cx} {x n : Str} {c : Value} {body suite : List Stmt} {b0 : Stmt} {np pos pos' : Pos} {bM : MS} {sM : Addr → Nat → MS} {su : Nat → MS} {exm : String → Option Bool} {okc : Value → Prop}
theorem ss_try (i : Nat) (hN : X.N.Nodup) (hc : Names X x c) (hexm : ∀ v b, exm v = some b → PySem.W.exmOne X.K (T.cv v) c = some b) (hokc : ∀ v, exm v = some true → okc (T.cv v))
    (hb : ∀ (pn : List (Addr × Obj)) (xe : Value → Shared → Prop), SSs T (X.tr pn xe) body bM)
    (hsu : ∀ (a : Addr) (oe : Obj) (cls : Value) (dd : Addr) (pn : List (Addr × Obj)) (j : Nat), okc cls → Zc cls (some dd) oe → (∃ vs, oe.data = .fields vs) → SSs (T.known j dd) (X.suite a ((a, oe) :: pn)) (b0 :: suite) (sM a j))
    (hind : ∀ a j r h w h2, i < r.length → su j r h = .rt w h2 → sM a j (r.set i (some (.fix a))) h = .rt w h2)
    (hs : X.stack = X.env :: X.outer := by rfl) (hf : X.env.frame = some X.env.locals := by rfl) (hi : X.N[i]? = some n := by rfl) (hln : X.env.kindOf n = some .local := by rfl) :
    SS T X (.Try body [.ExceptHandler (some (.Name x np)) (some n) (b0 :: suite) pos'] [] [] pos) (mTry i exm su bM) := fun E cn => by
  let ts : Addr → Value → Option Addr → TS := fun a cls d D s H => okc cls ∧ ∃ j dd, d = some dd ∧ tS (T.known j dd) No (sM a j) D s H
  have base : PS X (.Try body [.ExceptHandler (some (.Name x np)) (some n) (b0 :: suite) pos'] [] [] pos) (fun D s H => tS T (wAs X.K c i ts E D) bM D s H) := ps_try_as (tb := fun W => tS T W bM) (ts := ts) hs hf hN hi hln hc cn.tk (fun W pn xe tk po => hb pn xe W ⟨tk, po⟩) fun a oe cls d pn hz hd => ⟨fun pins s σ H D I h => by
    obtain ⟨hk, j, dd, rfl, h⟩ := h
    exact ((hsu a oe cls dd pn j hk hz hd) No ⟨takes0, PassesOwn.never⟩).run pins s σ H D I h⟩
  refine ⟨fun pins s σ H D I h => base.run pins s σ H D I ?_⟩
  obtain ⟨ps, r, hv, es, vw, gd⟩ := h
  refine ⟨ps, r, hv, es, vw, ?_⟩
  unfold mTry at gd
  cases q : bM r hv with
  | nx r1 h1 => rw [q] at gd; exact gd
  | rt r1 h1 => rw [q] at gd; exact gd
  | bk r1 h1 => rw [q] at gd; exact gd
  | ct r1 h1 => rw [q] at gd; exact gd
  | bad => rw [q] at gd; exact gd
  | exc cv d r1 h1 =>
    rw [q] at gd
    intro qs H' s' e st vw' es' dv
    dsimp only at gd
    cases ex : exm cv with
    | none => rw [ex] at gd; exact gd.elim
    | some b =>
      rw [ex] at gd
      cases b with
      | false => exact ⟨false, hexm _ _ ex, (fun z => by cases z), fun _ => gd qs H' s' e st vw' es' dv⟩
      | true =>
        cases d with
        | none => exact gd.elim
        | some j =>
          obtain ⟨dd, ej, rfl⟩ := dv
          refine ⟨true, hexm _ _ ex, fun _ a ha => ?_, (fun z => by cases z)⟩
          dsimp only at gd
          split at gd
          · rename_i hl
            cases z : su j r1 h1 with
            | nx _ _ => rw [z] at gd; exact gd.elim
            | bk _ _ => rw [z] at gd; exact gd.elim
            | ct _ _ => rw [z] at gd; exact gd.elim
            | exc _ _ _ _ => rw [z] at gd; exact gd.elim
            | bad => rw [z] at gd; exact gd.elim
            | rt w h2 =>
              rw [z] at gd
              refine ⟨hokc _ ex, j, dd, rfl, qs, r1.set i (some (.fix a)), h1, es'.set i rfl, vw'.known ej, ?_⟩
              rw [hind a j r1 h1 _ _ hl z]
              exact fun rs H2 v st2 vw2 wv => gd rs H2 v (st.trans st2) vw2.less wv
          · exact gd.elim
end

/-! ### the caught error's field -/
def mXf (j : Nat) (f : Str) : Ws → Hv → Res W := fun _ h => match h[j]? with
  | some (.xd fs) => ofO (fs.lookup f) h
  | _ => .bad
def mXfA (i : Nat) (a : Addr) (j : Nat) (f : Str) : Ws → Hv → Res W := fun r h => match r[i]? with
  | some (some (.fix b)) => if b = a then mXf j f r h else .bad
  | _ => .bad
theorem paired_lookup {ps : List Addr} {f : Str} : ∀ {fs : List (Str × W)} {vs : List (Str × V)} {w : W}, Paired (PW2 ps) fs vs → fs.lookup f = some w → ∃ v, vs.lookup f = some v ∧ WV ps w v
  | [], _, _, .nil, e => by cases e
  | (k, u) :: fs, (k', u') :: vs, w, .cons r t, e => by
    obtain ⟨rfl, r⟩ := r
    rw [List.lookup_cons] at e ⊢
    cases q : f == k with
    | true => rw [q] at e; cases e; exact ⟨u', by simp, r⟩
    | false =>
      rw [q] at e
      obtain ⟨v, h1, h2⟩ := paired_lookup t e
      exact ⟨v, by simpa [q] using h1, h2⟩
section
variable {T : Tx} {X : Cx}
theorem se_xf (i : Nat) {a dd C : Addr} {oe : Obj} {cls : Value} {pn : List (Addr × Obj)} {j : Nat} {n f : Str} {p pos : Pos} (Z : XfC X.K C) (hno : PySem.W.findIn X.K (.ref C) f = some none) (hz : Zc cls (some dd) oe) (hf : ∃ vs, oe.data = .fields vs) (hcls : cls = .ref C)
    (hN : X.N[i]? = some n := by rfl) (hv : Vis X.env.scope n := by first | exact Or.inl rfl | exact Or.inr (Or.inl rfl) | exact Or.inr (Or.inr rfl)) (hd : (n == ("__debug__" : Str)) = false := by decide) (hcd : (n == ("__classdict__" : Str)) = false := by decide)
    (hb : attributeBase (.Name n p) f X.env (eval (.Name n p) X.env) = eval (.Name n p) X.env := by rfl) :
    SE (T.known j dd) (X.suite a ((a, oe) :: pn)) (.Attribute (.Name n p) f pos) (mXfA i a j f) := fun E cn => PEi (pe_xf Z hno hz hf (pe_var (X := X.suite a ((a, oe) :: pn)) (i := i) hN hv hd hcd) hb) fun s H Q ⟨ps, r, hv, es, vw, gd⟩ => by
  unfold mXfA at gd
  split at gd
  · rename_i b eb
    split at gd
    · rename_i hba
      subst hba
      obtain ⟨v, e1, e2⟩ := es.2 i _ eb
      cases e2
      unfold mXf at gd
      split at gd
      · rename_i fs ej
        obtain ⟨w, ew, g⟩ := ofO_of gd
        have ed : ps[j]? = some dd := vw.fact.2
        obtain ⟨vs, rr, eH⟩ := vw.ob _ dd _ ed ej
        obtain ⟨v, ev, wv⟩ := paired_lookup rr ew
        exact ⟨_, e1, rfl, hcls, dd, vs, v, rfl, eH, ev, Good.now g vw wv⟩
      · exact gd.elim
    · exact gd.elim
  · exact gd.elim
end

/-! ### a def -/
def startW (N : List Str) (ws : List W) : Ws := ws.map some ++ List.replicate (N.length - ws.length) none
def mDef (N : List Str) (b : MS) : MFn := fun ws h => match b (startW N ws) h with
  | .rt w h1 => .val w h1
  | .nx _ h1 => .val .non h1
  | .exc c d _ h1 => .exc c d h1
  | _ => .bad
theorem es_start {N : List Str} {ps : List Addr} {ws : List W} {vs : List V} (h : Paired (WV ps) ws vs) : ES ps (startW N ws) (L2.start N vs) := by
  have hl : ws.length = vs.length := h.length
  refine ⟨by simp [startW, L2.start, hl], fun i w e => ?_⟩
  unfold startW at e
  unfold L2.start
  by_cases hi : i < ws.length
  · rw [List.getElem?_append_left (by simpa using hi)] at e
    rw [List.getElem?_append_left (by simpa [← hl] using hi)]
    rw [List.getElem?_map] at e ⊢
    cases q : ws[i]? with
    | none => simp [q] at e
    | some w' =>
      rw [q] at e
      cases e
      obtain ⟨v, ev, wv⟩ := paired_get h q
      exact ⟨v, by rw [ev]; rfl, wv⟩
  · rw [List.getElem?_append_right (by simpa using Nat.le_of_not_lt hi)] at e
    rw [List.getElem?_replicate] at e
    split at e
    · cases e
    · cases e
section
variable {P : Program} {w : World} {K : PySem.W.Frag} {mg : Str → Option Value} {base : Heap} {T : Tx} {N qs : List Str} {x qual : Str} {st : Stmt} {f : Addr} {fd : FuncData} {k : Nat} {b : MS}
theorem def_read {vs : List V} {H : Hp} {Q : VK} {E : XK} (h : spV T qs.length (mDef N b) vs H Q E) : tS T (fun c d _ H' => E c d H') b { nx := fun _ H' => Q .non H', rt := Q } (L2.start N vs) H := by
  obtain ⟨hl, ps, hv, ws, vw, wv, gd⟩ := h
  refine ⟨ps, startW N ws, hv, es_start wv, vw, ?_⟩
  unfold mDef at gd
  cases q : b (startW N ws) hv with
  | nx r1 h1 => rw [q] at gd; exact fun rs H' s st vw' es => gd rs H' .non st vw' rfl
  | rt w1 h1 => rw [q] at gd; exact gd
  | bk _ _ => rw [q] at gd; exact gd.elim
  | ct _ _ => rw [q] at gd; exact gd.elim
  | exc c d r1 h1 => rw [q] at gd; exact fun rs H' s e st vw' es dv => gd rs H' e st vw' dv
  | bad => rw [q] at gd; exact gd.elim
/-- THE RULE for a def -/
theorem fn_def (F : Fun K x qual st f fd) (S : FnScope N qs (defScope st))
    (hb : ∀ (cdv : Value) (A : Around) (outer : List Env) (s : Shared) (H : Hp) (E : XK), Room k (A.deeper (envOfC qual (defScope st) s.heap.objs.size f cdv)) → SSs T (cxOf (L2.CX P w) P w K mg base N qual (defScope st) f cdv A outer s H E) (defBody st) b) :
    FnOk P w K mg base (L2.CX P w) (k + 1) f fd qs (spV T qs.length (mDef N b)) :=
  F.okX S (fun vs H Q E h => h.1) fun cdv A outer s H vs Q E hr h => ⟨_, hb cdv A outer s H E hr _ ⟨takes_of rfl rfl rfl rfl, passes_of rfl⟩, def_read h⟩
end
end VL
end
section
namespace VL
open PySem L2 PySem.Spec PyProof.Rows

/-! ### defs that are called while no repr runs -/
structure FnG (P : Program) (w : World) (K : PySem.W.Frag) (mg : Str → Option Value) (base : Heap) (T : Tx) (k : Nat) (f : Addr) (n : Nat) (m : MFn) : Prop where
  run : ∀ (A : Around) (outer : List Env) (s : Shared) (H : Hp) (us : List Value) (vs : List V) (Q : VK) (E : XK), Room k A → A.guards = some [] → Env0 P w K mg base A outer s H → Vals vs us → spV T n m vs H Q E →
    codeAny (model P w) A (.call (.ref f) ⟨us, []⟩) (CR (L2.CX P w) outer P w H s Q E) s
theorem can_G {T : Tx} {X : Cx} {k : Nat} {f : Addr} {n : Nat} {m : MFn} (F : FnG X.prog X.w X.K X.mg X.base T k f n m) (hr : Room k X.A) (hg : X.A.guards = some []) : Can T X f n m := fun pins s σ H us vs Q E I r h => F.run X.A X.stack s H us vs Q E hr hg I.env0 r h
section
variable {P : Program} {w : World} {K : PySem.W.Frag} {mg : Str → Option Value} {base : Heap} {T : Tx} {N qs : List Str} {x qual : Str} {st : Stmt} {f : Addr} {fd : FuncData} {k : Nat} {b : MS}
/-- the def st stands at f, its code object is cdv -/
structure FunC (K : PySem.W.Frag) (x qual : Str) (st : Stmt) (f : Addr) (fd : FuncData) (cdv : Value) : Prop where
  ex : ∃ (oc : Value) (od : Option Addr) (kV doc pm : Value) (an : Option Addr) (ct : Value) (osl : Array (Option Value)),
    fd = PySem.W.fnOf x qual (defArgs st) (defBody st) (defScope st)
      .none kV doc pm an cdv ct ∧ K.lookup f = some ⟨oc, od, .func fd, osl⟩ ∧ PySem.W.codeIn K cdv qual = true
  kp : PySem.W.keepIn K (Value.ref f) = true
theorem Fun.code (F : Fun K x qual st f fd) : ∃ cdv, FunC K x qual st f fd cdv := by
  obtain ⟨oc, od, kV, doc, pm, an, cdv, ct, osl, e, l, c⟩ := F.ex
  exact ⟨cdv, ⟨oc, od, kV, doc, pm, an, ct, osl, e, l, c⟩, F.kp⟩
theorem fn_defC {cdv : Value} (F : FunC K x qual st f fd cdv) (S : FnScope N qs (defScope st)) (hbd : Binds K fd qs [])
    (hb : ∀ (A : Around) (outer : List Env) (s : Shared) (H : Hp) (E : XK), Room k (A.deeper (envOfC qual (defScope st) s.heap.objs.size f cdv)) → A.guards = some [] → SSs T (cxOf (L2.CX P w) P w K mg base N qual (defScope st) f cdv A outer s H E) (defBody st) b) :
    FnG P w K mg base T (k + 1) f qs.length (mDef N b) := ⟨fun A outer s H us vs Q E hr hg e0 r h => by
  obtain ⟨oc, od, kV, doc, pm, an, ct, osl, rfl, lk, hcd⟩ := F.ex
  have hl : vs.length = qs.length := h.1
  have kin : K.In s.heap := e0.mod.kin.keeps fun b o e => (e0.bs b o e).1
  have bt := hbd s us kin (by rw [List.append_nil, ← r.length]; exact hl)
  rw [List.append_nil] at bt
  exact LamX.run_ofS (N := N) (ps := qs) lk hcd S hr e0 bt r hl fun hr' => ⟨_, hb A outer s H E hr' hg _ ⟨takes_of rfl rfl rfl rfl, passes_of rfl⟩, def_read h⟩⟩
theorem fn_defG (F : Fun K x qual st f fd) (S : FnScope N qs (defScope st)) (hbd : Binds K fd qs [])
    (hb : ∀ (cdv : Value) (A : Around) (outer : List Env) (s : Shared) (H : Hp) (E : XK), Room k (A.deeper (envOfC qual (defScope st) s.heap.objs.size f cdv)) → A.guards = some [] → SSs T (cxOf (L2.CX P w) P w K mg base N qual (defScope st) f cdv A outer s H E) (defBody st) b) :
    FnG P w K mg base T (k + 1) f qs.length (mDef N b) := by
  obtain ⟨cdv, C⟩ := Fun.code F
  exact fn_defC C S hbd (hb cdv)
end

/-! ### heard(lambda: e): try: return call() / except x as n: a suite that returns -/
def mHeard (exm : String → Option Bool) (su : Nat → MS) (fb : Ws → Hv → Res W) : Ws → Hv → Res W := fun r h => match fb r h with
  | .val w h1 => .val w h1
  | .exc c (some j) h1 => (match exm c with
    | some true => (match su j [none, none] h1 with
      | .rt w h2 => .val w h2
      | _ => .bad)
    | _ => .bad)
  | _ => .bad
section
variable {X : Cx} {T : Tx} {sM : Addr → Nat → MS} {su : Nat → MS} {exm : String → Option Bool} {okc : Value → Prop} {cx : Value}
/-- what the suite is to do with an error of the class cls whose own dict is at d -/
def tSuite (T : Tx) (okc : Value → Prop) (sM : Addr → Nat → MS) : Addr → Value → Option Addr → TS := fun a cls d D s H => okc cls ∧ ∃ j dd, d = some dd ∧ tS (T.known j dd) No (sM a j) D s H
def wHeard (K : PySem.W.Frag) (T : Tx) (cx : Value) (okc : Value → Prop) (sM : Addr → Nat → MS) (Q : VK) : XK := fun cls d H => ∃ b, PySem.W.exmOne K cls cx = some b ∧
  (b = true → ∀ (D : Ends) (s : L2.St) (a : Addr), D.rt = Q → s.length = 2 → H a = none → tSuite T okc sM a cls d D (s.set 1 (some (.ref a))) H) ∧ (b = false → False)
def TTh (K : PySem.W.Frag) (T : Tx) (cx : Value) (okc : Value → Prop) (sM : Addr → Nat → MS) : (XK → Hp → VK → Prop) → Hp → VK → Prop := fun tl H Q => tl (wHeard K T cx okc sM Q) H Q
/-- the context in which heard's body runs -/
abbrev hCx (X : Cx) (Ng : List Str) (x : Str) (sg : Scope) (g : Addr) (cdg : Value) (s : Shared) (H : Hp) : Cx := (cxOf C8.CX0 X.prog X.w X.K X.mg X.base Ng x sg g cdg X.A X.stack s H C8.E0).nox
theorem heard_gives {x a n e q : Str} {sg : Scope} {g : Addr} {cdg : Value} {b0 : Stmt} {suite : List Stmt} {p1 p2 p3 p4 p7 p8 : Pos} (hnd : ([a, n] : List Str).Nodup)
    (hc : ∀ s H, Names (hCx X [a, n] x sg g cdg s H) e cx)
    (hsu : ∀ (s : Shared) (H : Hp) (ad : Addr) (oe : Obj) (cls : Value) (dd : Addr) (pn : List (Addr × Obj)) (j : Nat), okc cls → Zc cls (some dd) oe → (∃ vs, oe.data = .fields vs) → SSs (T.known j dd) ((hCx X [a, n] x sg g cdg s H).suite ad ((ad, oe) :: pn)) (b0 :: suite) (sM ad j))
    (hkn : sg.names.lookup n = some .local) :
    LamX.GivesTo X [a, n] x sg g cdg [.Try [.Return (some (.Call (.Name a p1) [] [] p2)) p3] [.ExceptHandler (some (.Name e p4)) (some n) (b0 :: suite) p7] [] [] p8] a q (TTh X.K T cx okc sM) := by
  intro f c' s H Q tl act hco h
  refine ⟨_, pss_one (ps_try_as (X := hCx X [a, n] x sg g cdg s H) (i := 1) (ts := tSuite T okc sM) (Wout := No)
    (tb := fun Wx D s' H' => ∃ Ec : XK, (∀ cls d (s2 : L2.St) H2, s2.length = 2 → Ec cls d H2 → Wx cls d s2 H2) ∧ s'[0]? = some (some (.ref f)) ∧ H' c' = some (LamX.CodeO c' q) ∧ tl Ec H' D.rt) rfl rfl hnd rfl hkn (hc s H) takes0 (fun Wx pn xe tk _ => ⟨fun pins s1 σ1 H1 D I h1 => ?_⟩)
    fun ad oe cls d pn hz hf => ⟨fun pins s1 σ1 H1 D I h1 => ?_⟩), ?_⟩
  · obtain ⟨Ec, hW, hs, h2, h3⟩ := h1
    have tk2 : Takes ((cxOf C8.CX0 X.prog X.w X.K X.mg X.base [a, n] x sg g cdg X.A X.stack s H C8.E0).tr pn xe) (fun cls d s2 H2 => s2.length = 2 → Wx cls d s2 H2) := fun u s' xx => by
      obtain ⟨ad, B, sI, pins', s3, H3, cls, d, e1, J, e2, e3, e4, e5, e6, e7, wz⟩ := xx
      exact tk u s' ⟨ad, B, sI, pins', s3, H3, cls, d, e1, J, e2, e3, e4, e5, e6, e7, wz J.len⟩
    have hp := act _ pn xe Ec p1 p2 tk2 fun cls d s2 H2 hh hl => hW cls d s2 H2 hl hh
    exact (pss_one (ps_ret (pos := p3) hp)).run pins s1 σ1 H1 D I ⟨hs, h2, h3⟩
  · obtain ⟨hk, j, dd, rfl, h2⟩ := h1
    exact ((hsu s H ad oe cls dd pn j hk hz hf) No ⟨takes0, PassesOwn.never⟩).run pins s1 σ1 H1 D I h2
  · refine ⟨wHeard X.K T cx okc sM Q, fun cls d s2 H2 hl hw => ?_, rfl, hco, h⟩
    obtain ⟨b, e1, e2, e3⟩ := hw
    exact ⟨b, e1, fun hb ad ha => e2 hb _ s2 ad rfl hl ha, fun hb => (e3 hb).elim⟩
theorem View.ext {ps : List Addr} {h : Hv} {H H1 : Hp} (v : View T ps h H) (e : LamX.ExtN H H1) (t : LamX.Tabs T.tb H1) : View T ps h H1 ∧ Step ps H ps H1 := by
  refine ⟨⟨v.len, v.nd, fun i a o h1 h2 => ?_, t, v.fact⟩, ⟨List.prefix_refl _, fun _ _ h n _ => absurd h n, fun a o h1 h2 _ => e a o h1 h2⟩⟩
  have q := v.ob i a o h1 h2
  obtain ⟨u, hu, ht, _⟩ := q.there
  exact q.put fun u' hu' => by
    rw [hu] at hu'
    cases hu'
    exact e a u hu ht
theorem heard_read {E : WX} {s : L2.St} {H : Hp} {Q : VK} {fb : Ws → Hv → Res W} (hexm : ∀ v b, exm v = some b → PySem.W.exmOne X.K (T.cv v) cx = some b) (hokc : ∀ v, exm v = some true → okc (T.cv v)) (hind : ∀ a j r h w h2, 1 < r.length → su j r h = .rt w h2 → sM a j (r.set 1 (some (.fix a))) h = .rt w h2)
    (h : tE T E (mHeard exm su fb) s H Q) : LamX.tLam T.tb (TTh X.K T cx okc sM) (fun E' => tE T (fun c d _ H' => E' c d H') fb) s H Q := by
  obtain ⟨ps, r, hv, es, vw, gd⟩ := h
  refine ⟨vw.tab, fun H1 eN tN => ?_⟩
  obtain ⟨vw1, st1⟩ := vw.ext eN tN
  have gd := Good.step gd st1
  refine ⟨ps, r, hv, es, vw1, ?_⟩
  unfold mHeard at gd
  cases q : fb r hv with
  | bad => rw [q] at gd; exact gd.elim
  | val w h1 => rw [q] at gd; exact gd
  | exc c d h1 =>
    rw [q] at gd
    cases d with
    | none => exact gd.elim
    | some j =>
      dsimp only at gd
      intro qs H' e st vw' dv
      obtain ⟨dd, ej, rfl⟩ := dv
      cases ex : exm c with
      | none => rw [ex] at gd; exact gd.elim
      | some b =>
        rw [ex] at gd
        cases b with
        | false => exact gd.elim
        | true =>
          dsimp only at gd
          cases z : su j [none, none] h1 with
          | nx _ _ => rw [z] at gd; exact gd.elim
          | bk _ _ => rw [z] at gd; exact gd.elim
          | ct _ _ => rw [z] at gd; exact gd.elim
          | exc _ _ _ _ => rw [z] at gd; exact gd.elim
          | bad => rw [z] at gd; exact gd.elim
          | rt w h2 =>
            rw [z] at gd
            refine ⟨true, hexm _ _ ex, fun _ D s2 a hD hl ha => ⟨hokc _ ex, j, dd, rfl, qs, [none, none].set 1 (some (.fix a)), h1, ?_, vw'.known ej, ?_⟩, fun z => by cases z⟩
            · have e0 : ES qs [none, none] s2 := ⟨by rw [hl]; rfl, fun i w e => by
                match i, e with
                | 0, e => cases e
                | 1, e => cases e
                | i + 2, e => simp at e⟩
              exact e0.set 1 rfl
            · rw [hind a j [none, none] h1 _ _ (by decide) z]
              intro rs H2 v st2 vw2 wv
              rw [hD]
              exact gd rs H2 v (st.trans st2) vw2.less wv
/-- heard(lambda: e) -/
theorem se_heard {k : Nat} {x a n e : Str} {g c P : Addr} {pg : Arguments} {sg : Scope} {dV kV doc pm cdv ct oc : Value} {an od : Option Addr} {osl : Array (Option Value)} {b0 : Stmt} {suite : List Stmt} {p1 p2 p3 p4 p7 p8 : Pos}
    {params : Arguments} {body : Expr} {scope : Scope} {fb : Ws → Hv → Res W} {p lpos pos : Pos}
    (hexm : ∀ v b, exm v = some b → PySem.W.exmOne X.K (T.cv v) cx = some b) (hokc : ∀ v, exm v = some true → okc (T.cv v)) (hind : ∀ a j r h w h2, 1 < r.length → su j r h = .rt w h2 → sM a j (r.set 1 (some (.fix a))) h = .rt w h2)
    (hm : X.mg x = some (.ref g)) (hk : PySem.W.keepIn X.K (.ref g) = true)
    (lk : X.K.lookup g = some ⟨oc, od, .func (PySem.W.fnOf x x pg [.Try [.Return (some (.Call (.Name a p1) [] [] p2)) p3] [.ExceptHandler (some (.Name e p4)) (some n) (b0 :: suite) p7] [] [] p8] sg dV kV doc pm an cdv ct), osl⟩) (hcg : PySem.W.codeIn X.K cdv x = true)
    (hb : L2.Binds X.K (PySem.W.fnOf x x pg [.Try [.Return (some (.Call (.Name a p1) [] [] p2)) p3] [.ExceptHandler (some (.Name e p4)) (some n) (b0 :: suite) p7] [] [] p8] sg dV kV doc pm an cdv ct) [a] []) (Sg : FnScope [a, n] [a] sg) (hva : Vis sg a)
    (hc : ∀ s H, Names (hCx X [a, n] x sg g cdv s H) e cx)
    (hsu : ∀ (s : Shared) (H : Hp) (ad : Addr) (oe : Obj) (cls : Value) (dd : Addr) (pn : List (Addr × Obj)) (j : Nat), okc cls → Zc cls (some dd) oe → (∃ vs, oe.data = .fields vs) → SSs (T.known j dd) ((hCx X [a, n] x sg g cdv s H).suite ad ((ad, oe) :: pn)) (b0 :: suite) (sM ad j))
    (hkn : sg.names.lookup n = some .local)
    (TB : LamX.TabB X.base X.mg c P) (hcode : X.env.code = .ref c) (hmT : (P, X.env.qual ++ "<lambda>") ∈ T.tb) (hu : ∀ p ∈ T.tb, p.1 = P → p.2 = X.env.qual ++ "<lambda>") (hr : Room (k + 2) X.A) (L : LamX.LamS X.env.scope scope) (hdef : defaultsOf params X.env = ([], [])) (hbind : ∀ (q : Str) (cl : List (Str × Addr)) (pm cv ctv : Value), bindArgs (PySem.W.kla_fn "<lambda>" q params body scope cl pm cv ctv) ⟨[], []⟩ = pure [])
    (hbody : ∀ (A : Around) (outer : List Env) (s : Shared) (H : Hp) (E : XK) (f c' : Addr), Room k (A.deeper (LamX.lamEnv X scope s.heap.objs.size f c')) → SE T (LamX.lamCx X A outer s H E scope f c') body fb)
    (hg : Gl X x := by rfl) (hdb : (x == ("__debug__" : Str)) = false := by decide) (hd : (a == ("__debug__" : Str)) = false := by decide) (hcd : (a == ("__classdict__" : Str)) = false := by decide) :
    SE T X (.Call (.Name x p) [.Lambda params body scope lpos] [] pos) (mHeard exm su fb) := fun E cn => by
  refine PEi (LamX.pe_lamcall (T := T.tb) (TT := TTh X.K T cx okc sM) (t := fun E' => tE T (fun c d _ H' => E' c d H') fb) hg hm hk lk hcg hb Sg rfl hva (heard_gives Sg.nd hc hsu hkn) TB hcode hmT hu hr L hdef hbind
    (fun A outer s H E' f c' hr' => hbody A outer s H E' f c' hr' _ ⟨takes_of rfl rfl rfl rfl, passes_of rfl⟩) hdb hd hcd) fun s H Q h => heard_read hexm hokc hind h
end
end VL
end
section
namespace VL
open PySem L2 PySem.Spec PyProof.Rows

/-! ### the end of a law -/
section
variable {P : Program} {w : World} {K : PySem.W.Frag} {mg mb : Str → Option Value} {k : Nat} {fa a : Addr} {cs : List (Addr × Addr)} {s1 : Shared} {vs : List Value} {ns : List Int} {T : Tx} {m : MFn}
theorem mem_lookup2 {l : List (Addr × Obj)} {b : Addr} {o : Obj} (h : l.lookup b = some o) : (b, o) ∈ l := by
  induction l with
  | nil => cases h
  | cons p r ih =>
    obtain ⟨c, u⟩ := p
    rw [List.lookup_cons] at h
    by_cases e : b = c
    · subst e
      simp at h
      rw [h]
      exact List.mem_cons_self
    · have e2 : (b == c) = false := by simpa using e
      rw [e2] at h
      exact .tail _ (ih h)
theorem paired_ints {ps : List Addr} : ∀ l : List Int, Paired (WV ps) (l.map W.int) (l.map V.int)
  | [] => .nil
  | _ :: r => .cons rfl (paired_ints r)
/-- the abstract heap at the law's entry: the script, and the tables of code objects -/
def entryH (a : Addr) (o : Obj) (xs : List V) (ts : List Addr) : Hp := fun b => if b = a then some (.frz o (.lst xs)) else if b ∈ ts then some (.tbl #[]) else none
theorem entry_a {o : Obj} {xs : List V} {ts : List Addr} : entryH a o xs ts a = some (.frz o (.lst xs)) := if_pos rfl
theorem entry_t {o : Obj} {xs : List V} {ts : List Addr} {b : Addr} (hb : b ∈ ts) (hn : b ≠ a) : entryH a o xs ts b = some (.tbl #[]) := (if_neg hn).trans (if_pos hb)
theorem entry_n {o : Obj} {xs : List V} {ts : List Addr} {b : Addr} (hb : b ∉ ts) (hn : b ≠ a) : entryH a o xs ts b = none := (if_neg hn).trans (if_neg hb)
theorem entry_some {o : Obj} {xs : List V} {ts : List Addr} {b : Addr} {u : HO} (h : entryH a o xs ts b = some u) : (b = a ∧ u = .frz o (.lst xs)) ∨ (b ≠ a ∧ b ∈ ts ∧ u = .tbl #[]) := by
  by_cases hb : b = a
  · left
    subst hb
    rw [entry_a] at h
    exact ⟨rfl, (Option.some.inj h).symm⟩
  · right
    by_cases ht : b ∈ ts
    · rw [entry_t ht hb] at h
      exact ⟨hb, ht, (Option.some.inj h).symm⟩
    · rw [entry_n ht hb] at h
      cases h
abbrev scrO (vs : List Value) : Obj := { cls := .type "list", data := .seq vs.toArray }
abbrev tabO : Obj := { cls := .none, data := .fields #[] }
theorem law_callV (KX : K.In s1.heap) (gl : s1.heap.Ns mainGlobals mg) (bl : s1.heap.Ns builtinsNs mb) (blb : ∀ x : Str, x ≠ "__name__" → mb x = bootBuiltins x) (lim : s1.heap.NoLimit) (hgens : s1.gens = #[])
    (tabs : ∀ p ∈ cs, s1.heap.get? p.2 = some tabO) (noK : ∀ p ∈ cs, K.lookup p.2 = none) (heads : ∀ p ∈ cs, PySem.W.CodeHd s1.heap p.1 p.2)
    (bmod : ∃ (bm : Addr) (ob : Obj), mg "__builtins__" = some (.ref bm) ∧ bm ≠ builtinsNs ∧ s1.heap.get? bm = some ob ∧ ob.cls = .type "module" ∧ ob.dict = some builtinsNs ∧ ob.data = .plain)
    (scr : s1.heap.get? a = some (scrO vs)) (nis : IntsAre vs ns) (len : ns.length ≤ sizeLine) (room : Room k callerA) (Kl : K.all (fun p => !(p.2.cls == .type "list")) = true)
    (inT : ∀ p ∈ T.tb, p.1 ∈ cs.map (·.2)) (fact : T.C [a]) (F : ∀ base : Heap, K.In base → base.Ns mainGlobals mg → (∀ p ∈ cs, LamX.TabB base mg p.1 p.2) → FnG P w K mg base T k fa 1 m)
    (mir : ∃ h', m [.ref 0] [.rol (ns.map W.int)] = .val (.bl true) h') :
    codeAny (model P w) callerA (.call (.ref fa) ⟨[.ref a], []⟩) (fun r s' => r = .ok (.ret (.bool true)) ∧ OldK s1.heap s'.heap ∧ s'.os = s1.os ∧ AllBare s'.gens) s1 := by
  have rel := vals_ints nis
  have tabAt : ∀ b ∈ cs.map (·.2), s1.heap.get? b = some tabO := fun b hb => by
    obtain ⟨p, hp, rfl⟩ := List.mem_map.mp hb
    exact tabs p hp
  have neT : ∀ b ∈ cs.map (·.2), b ≠ a := fun b hb z => by
    have q := tabAt b hb
    rw [z, scr] at q
    have q2 := congrArg Obj.data (Option.some.inj q)
    cases q2
  have noKa : K.lookup a = none := by
    cases e : K.lookup a with
    | none => rfl
    | some o =>
      have q := KX a o e
      rw [scr] at q
      have mem := mem_lookup2 e
      have z := List.all_eq_true.mp Kl _ mem
      have c : o.cls = .type "list" := by rw [← Option.some.inj q]
      simp [c] at z
  let H : Hp := entryH a (scrO vs) (ns.map V.int) (cs.map (·.2))
  have hok : HOk P w H s1.heap := fun b u e => by
    rcases entry_some e with ⟨rfl, rfl⟩ | ⟨_, ht, rfl⟩
    · exact ⟨scr, by rw [List.length_map]; exact len, vs, _, rel, scr⟩
    · exact tabAt b ht
  -- what is not the script and no table is not tracked
  have free : ∀ {b : Addr} {o : Obj}, s1.heap.get? b = some o → (∀ z n, o.data ≠ .seq z n) → o.data ≠ .fields #[] → H b = none := fun {b o} e n1 n2 => by
    by_cases hb : b = a
    · subst hb
      rw [scr] at e
      cases e
      exact absurd rfl (n1 vs.toArray _)
    · by_cases ht : b ∈ cs.map (·.2)
      · rw [tabAt b ht] at e
        cases e
        exact absurd rfl n2
      · exact entry_n ht hb
  have nsFree : ∀ {b : Addr} {f : Str → Option Value}, s1.heap.Ns b f → (hidT s1.heap H).Ns b f := fun {b f} ⟨o, es, ep, e, d, r⟩ => by
    refine ⟨o, es, ep, hidT_get e (free e (fun z n q => ?_) fun q => ?_), d, r⟩
    · rw [d] at q; cases q
    · rw [d] at q; cases q
  have KB : K.In (hidT s1.heap H) := fun b o e => by
    have nb : b ≠ a := fun z => by rw [z, noKa] at e; cases e
    have nt : b ∉ cs.map (·.2) := fun z => by
      obtain ⟨p, hp, rfl⟩ := List.mem_map.mp z
      rw [noK p hp] at e; cases e
    exact hidT_get (KX b o e) (entry_n nt nb)
  have MD : L2.Mod K mg (hidT s1.heap H) := by
    obtain ⟨mc, l1, l2⟩ := lim
    exact ⟨KB, nsFree gl, ⟨mb, nsFree bl, blb⟩, mc, nsFree l1, l2⟩
  have TB : ∀ p ∈ cs, LamX.TabB (hidT s1.heap H) mg p.1 p.2 := fun p hp => by
    obtain ⟨og, eg, epg, hg0, dg, rg⟩ := id gl
    have tp := tabs p hp
    refine ⟨?_, ?_, fun z => ?_⟩
    · obtain ⟨o, us, file, tf, flags, tg, inF, text, tt, e1, q1, q2, q3, q4, q5, q6, q7, q8, hne⟩ := heads p hp
      refine ⟨o, us, file, tf, flags, tg, inF, text, tt, hidT_get e1 (free e1 (fun z n q => ?_) fun q => ?_), q1, q2, q3, q4, q5, q6, q7, q8, hne⟩
      · rw [q2] at q; cases q
      · rw [q2] at q; cases q; simp at q3
    · obtain ⟨bm, ob, e1, e2, e3, e4, e5, e6⟩ := bmod
      refine ⟨bm, ob, e1, e2, fun z => ?_, fun z => ?_, hidT_get e3 (free e3 (fun z n q => ?_) fun q => ?_), e4, e5, e6⟩
      · rw [z, hg0] at e3; cases e3; rw [dg] at e6; cases e6
      · rw [z, tp] at e3; cases e3; cases e6
      · rw [e6] at q; cases q
      · rw [e6] at q; cases q
    · rw [z, tp] at hg0; cases hg0; cases dg
  have E0 : Env0 P w K mg (hidT s1.heap H) callerA [] s1 H := ⟨rfl, MD, fun b o e => of_hidT e, Nat.le_of_eq (hidT_size _ _), trivial, (fun b hb => by cases hb), hok, .of_eq hgens⟩
  -- the view at the entry
  have view : View T [a] [.rol (ns.map W.int)] H := by
    refine ⟨rfl, by simp, fun i b o e1 e2 => ?_, fun p hp => ?_, fact⟩
    · match i, e1, e2 with
      | 0, e1, e2 =>
        cases e1; cases e2
        refine ⟨ns.map V.int, scrO vs, ?_, entry_a⟩
        exact paired_ints ns
      | i + 1, e1, e2 => simp at e1
    · exact LamX.TabS.nil (entry_t (inT p hp) (neT _ (inT p hp)))
  obtain ⟨h', em⟩ := mir
  have prom : spV T 1 m [.ref a] H (fun v _ => v = .bl true) (fun _ _ _ => False) := ⟨rfl, [a], _, [.ref 0], view, .cons ⟨a, rfl, rfl⟩ .nil, by
    rw [em]
    exact fun qs H' v _ _ wv => wv⟩
  refine codeAny_mono ((F _ KB (nsFree gl) TB).run callerA [] s1 H [.ref a] [.ref a] _ _ room rfl E0 (.cons rfl .nil) prom) fun fin s' hq => ?_
  match fin, hq with
  | .error e, hq =>
    obtain ⟨_, _, _, _, _, _, _, _, _, _, _, _, z⟩ := hq
    exact z.elim
  | .ok .next, hq => exact hq.elim
  | .ok .brk, hq => exact hq.elim
  | .ok .cont, hq => exact hq.elim
  | .ok (.ret u), hq =>
    obtain ⟨v, H2, e1, e2, un, hok2, rv, q⟩ := hq
    cases q
    cases rv
    have kept : ∀ b o, b ∉ cs.map (·.2) → s1.heap.get? b = some o → s'.heap.get? b = some o := fun b o nt e => by
      by_cases hb : b = a
      · subst hb
        have z2 := hok2 b _ (un.frzs b _ _ entry_a)
        rw [scr] at e
        cases e
        exact z2.1
      · exact un.keep b o e (entry_n nt hb) (fun z => by cases z) (fun z => by cases z)
    have grown : ∀ c ∈ cs, ∃ ys : Array Value, s'.heap.get? c.2 = some { cls := .none, data := .fields ys } := fun c hc => by
      have mc : c.2 ∈ cs.map (·.2) := List.mem_map.mpr ⟨c, hc, rfl⟩
      obtain ⟨ys, z⟩ := un.tbls c.2 #[] (entry_t mc (neT _ mc))
      exact ⟨_, hok2 c.2 _ z⟩
    have part : ∀ b, (∃ c, c ∈ cs ∧ c.2 = b) ∨ b ∉ cs.map (·.2) := fun b => (Classical.em (b ∈ cs.map (·.2))).imp List.mem_map.mp id
    refine ⟨rfl, ⟨fun b o e => ?_, fun b o e => ?_⟩, e1, e2⟩
    · rcases part b with ⟨c, hc, rfl⟩ | nb
      · obtain ⟨ys, hy⟩ := grown c hc
        rw [tabs c hc] at e; cases e
        exact .inr (.inl ⟨((heads c hc).tab (tabs c hc)).isCodeTable, rfl, #[], ys, rfl, by rw [Array.empty_append]; exact hy⟩)
      · exact .inl (kept b o nb e)
    · rcases part b with ⟨c, hc, rfl⟩ | nb
      · obtain ⟨ys, hy⟩ := grown c hc; exact ⟨_, hy⟩
      · exact ⟨o, kept b o nb e⟩
end
end VL
end
section
namespace VL
open PySem L2 PySem.Spec PyProof.Rows

/-! ### {} -/
section
variable {T : Tx} {X : Cx} {pos : Pos}
theorem se_dict0 : SE T X (.Dict [] [] pos) (fun _ h => mNew (.dic []) h) := fun E cn => PEi pe_dnewK fun s H Q ⟨ps, r, h, es, vw, gd⟩ p hp => good_new vw gd (fun H' p' e => ⟨[], .nil, e⟩) hp
/-! ### repr, {} too -/
def mReprE : MFn := fun ws h => match ws with
  | [.ref p] => (match h[p]? with
    | some (.dic []) => .val (.str ("{}" : Str)) h
    | _ => mRepr ws h)
  | _ => mRepr ws h
def rReprE (K : PySem.W.Frag) : List V → Hp → VK → Prop := fun xs H Q => (∃ a, xs = [.ref a] ∧ H a = some (.dK []) ∧ Q (.str ("{}" : Str)) H) ∨ rRepr K xs H Q
theorem rc_reprE : RC T (rReprE X.K) mReprE := by
  intro ps h H ws vs Q E vw wv gd
  unfold mReprE at gd
  split at gd
  · split at gd
    · rename_i e1
      obtain ⟨v, rfl, a, ea, rfl⟩ := one_of wv
      obtain ⟨kv, rr, eH⟩ := vw.ob _ a _ ea e1
      cases rr
      exact .inl ⟨a, rfl, eH, Good.now gd vw rfl⟩
    · exact .inr (rc_repr ps h H _ vs Q E vw wv gd)
  · exact .inr (rc_repr ps h H _ vs Q E vw wv gd)
theorem call_reprE (hg : X.A.guards = some []) (hu : X.A.units + 64 < cLine) : CallR X (.builtin "repr") (rReprE X.K) := by
  intro pins s σ H xs us Q I r h; rcases h with ⟨a, rfl, ea, q⟩ | h
  · obtain ⟨u, rfl, ru⟩ := vals1 r
    cases ru
    have hob : ObjOk X.prog X.w H s.heap a (.dK []) := I.hok a _ ea
    obtain ⟨_, hsm, kv, rkv, o, es, ep, h1, h2, h3, h4, h5, _⟩ := hob
    cases rkv
    have e0 : es.toList = [] := by
      cases q : es.toList with
      | nil => rfl
      | cons a b => rw [q] at h5; cases h5
    have rd : Reads s.heap (.ref a) (.dict []) ([a] ++ [] ++ []) := .dict (kvs := []) h1 h2.1 h3 (by rw [e0]; exact .nil) (by rw [e0]; exact .nil)
    have ns : sysModules ∉ ([a] ++ [] ++ [] : List Addr) := by
      have z : ¬ a = sysModules := by simpa using hsm
      simpa using fun q => z q.symm
    have sh : (PyData.dict []).shown = ("{}" : Str) := by decide +kernel
    have dp : (PyData.dict []).depth ≤ 60 := by decide +kernel
    have un : X.A.units + ((PyData.dict []).depth + 1) < cLine := by omega
    refine repr_of_reads' rd (by decide +kernel) (fun _ => ns) hg un (fun _ _ e => e) (fun h' u tk hk => ?_) (by rw [sh]; decide)
    rw [sh]
    exact ⟨.str _, H, I.kept hk, ⟨_, rfl⟩, q⟩
  · exact call_reprD hg hu pins s σ H xs us Q I r h
end

/-! ### a suite that returns an expression -/
theorem hind_ret {i : Nat} {fA : Addr → Nat → Ws → Hv → Res W} {f : Nat → Ws → Hv → Res W} (hf : ∀ a j r h, i < r.length → fA a j (r.set i (some (.fix a))) h = f j r h) (a : Addr) (j : Nat) (r : Ws) (h : Hv) (w : W) (h2 : Hv) (hl : i < r.length)
    (e : mRet (f j) r h = .rt w h2) : mRet (fA a j) (r.set i (some (.fix a))) h = .rt w h2 := by
  unfold mRet at e ⊢
  rw [hf a j r h hl]
  cases q : f j r h with
  | val w1 h1 => rw [q] at e; exact e
  | exc c d h1 => rw [q] at e; cases e
  | bad => rw [q] at e; cases e
theorem mXfA_at {i : Nat} {a : Addr} {j : Nat} {f : Str} {r : Ws} {h : Hv} (hl : i < r.length) : mXfA i a j f (r.set i (some (.fix a))) h = mXf j f r h := by
  unfold mXfA
  rw [List.getElem?_set_self hl]
  simp [mXf]
/-- the errors of these classes are taken -/
def exmC (cs : List String) : String → Option Bool := fun n => if cs.contains n then some true else none
theorem exmC_ok {K : PySem.W.Frag} {T : Tx} {n : String} {v : Value} (h : PySem.W.exmOne K (T.cv n) v = some true) : ∀ m b, exmC [n] m = some b → PySem.W.exmOne K (T.cv m) v = some b := fun m b e => by
  unfold exmC at e
  split at e
  · rename_i z
    have z2 : m = n := by simpa using z
    subst z2
    cases e
    exact h
  · cases e
theorem exmC_c {n m : String} (e : exmC [n] m = some true) : m = n := by
  unfold exmC at e
  split at e
  · rename_i z
    simpa using z
  · cases e
/-! ### a call that needs nothing of the view, and hands back a plain value -/
def plainW : W → Bool
  | .ref _ => false
  | _ => true
def mFresh (m : MFn) : Ws → Hv → Res W := fun _ h => match m [] [] with
  | .val w _ => if plainW w then .val w h else .bad
  | _ => .bad
theorem plainW_any {w : W} (hp : plainW w = true) {ps qs : List Addr} {v : V} (h : WV ps w v) : WV qs w v := by
  cases w with
  | ref i => cases hp
  | non => exact h
  | bl b => exact h
  | int b => exact h
  | str b => exact h
  | fix b => exact h
  | ty b => exact h
theorem View.nil {T : Tx} {ps : List Addr} {h : Hv} {H : Hp} (v : View T ps h H) (hC : T.C []) : View T [] [] H := ⟨rfl, List.nodup_nil, fun i a o e _ => by simp at e, v.tab, hC⟩
theorem View.over {T : Tx} {ps qs : List Addr} {h h' : Hv} {H H1 : Hp} (v : View T ps h H) (s : Step [] H qs H1) (v1 : View T qs h' H1) : View T ps h H1 ∧ Step ps H ps H1 := by
  have keep : ∀ a o, H a = some o → (∀ z, o ≠ .tbl z) → H1 a = some o := fun a o e ht => s.fr a o e ht (by simp)
  refine ⟨⟨v.len, v.nd, fun i a o e1 e2 => ?_, v1.tab, v.fact⟩, ⟨List.prefix_refl _, fun _ _ h n _ => absurd h n, fun a o e ht _ => keep a o e ht⟩⟩
  have q := v.ob i a o e1 e2
  obtain ⟨u, hu, ht, _⟩ := q.there
  exact q.put fun u' hu' => by
    rw [hu] at hu'
    cases hu'
    exact keep a u hu ht
section
variable {T : Tx} {X : Cx} {f : Addr} {m : MFn} {x : Str} {p pos : Pos}
theorem se_fresh (C : Can T X f 0 m) (hC : T.C []) (hg : Gl X x) (hm : X.mg x = some (.ref f)) (hk : PySem.W.keepIn X.K (.ref f) = true) (hdb : (x == ("__debug__" : Str)) = false := by decide) : SE T X (.Call (.Name x p) [] [] pos) (mFresh m) := fun E cn => ⟨fun pins s σ H Q I h => by
  refine wpAny_Call_Name_kw (ld_glob (X := X) I hg hm ?_ hdb)
  obtain ⟨ps, r, hv, es, vw, gd⟩ := h
  refine PySem.W.callWith_K0 I.kIn hk (C.wp (us := []) cn I .nil ⟨rfl, [], [], [], vw.nil hC, .nil, ?_⟩)
  unfold mFresh at gd
  cases q : m [] [] with
  | bad => rw [q] at gd; exact gd.elim
  | exc c d h1 => rw [q] at gd; exact gd.elim
  | val w h1 =>
    rw [q] at gd
    dsimp only at gd
    split at gd
    · rename_i hp
      intro qs H' v st vw' wv
      obtain ⟨v2, s2⟩ := vw.over st vw'
      exact gd ps H' v s2 v2 (plainW_any hp wv)
    · exact gd.elim⟩
end

/-! ### the walk -/
/-- what is known of the law at the head's heap h -/
def LawV (l : PySem.W.OpenLaw) (w : World) (K : PySem.W.Frag) (k n : Nat) (mg : Str → Option Value) (fa : Addr) (h : Heap) : Prop :=
  ∃ (cs : List (Addr × Addr)) (T : Tx) (m : MFn), (∀ p ∈ cs, h.get? p.2 = some tabO) ∧ (∀ p ∈ cs, K.lookup p.2 = none) ∧ (∀ p ∈ cs, PySem.W.CodeHd h p.1 p.2) ∧ K.all (fun p => !(p.2.cls == .type "list")) = true ∧ (∀ p ∈ T.tb, p.1 ∈ cs.map (·.2)) ∧ (∀ a, T.C [a]) ∧
    (∀ base : Heap, K.In base → base.Ns mainGlobals mg → (∀ p ∈ cs, LamX.TabB base mg p.1 p.2) → FnG l.prog w K mg base T k fa 1 m) ∧
    ∀ ns : List Int, ns.length ≤ n → (∀ z ∈ ns, Builtin.Int.intBits z ≤ 1048576) → ∃ h', m [.ref 0] [.rol (ns.map W.int)] = .val (.bl true) h'
theorem walk_V {l : PySem.W.OpenLaw} {n k : Nat} {q : Program} {loose : List Str} {XP : (Str → Option Value) → Heap → Prop} {YP : World → Heap → Prop} {d : DefRec} {K : Params → PySem.W.Frag} (hn : l.most = some n) (hn2 : n ≤ sizeLine) (hdf : d.params.defaults = []) (hr : Room k callerA)
    (hY : ∀ (w : World) (h : Heap), YP w h → (K w.params).In h) (F : ∀ (w : World) (mg : Str → Option Value) (fa : Addr) (h : Heap), YP w h → (K w.params).In h → h.Ns mainGlobals mg → mg d.name = some (.ref fa) → LawV l w (K w.params) k n mg fa h) :
    PySem.W.WalkO q loose XP YP l.row.toRowW d [] (fun f vs => PySem.call f vs) := Att.attach_callB hn hdf fun w s0 s1 mg mb fa o pm cd doc a vs ns G Y ho hd hcd hmg hobj hints hlen hbits hg => by
  have KX := hY w _ Y
  obtain ⟨cs, T, m, h1, h2, h3, h4, h5, h6, h7, h8⟩ := F w mg fa _ Y KX G.T.g hmg
  exact law_callV KX G.T.g G.T.b G.T.builtins G.T.nolimit hg h1 h2 h3 G.T.bmain hobj hints (Nat.le_trans hlen hn2) hr h4 h5 (h6 a) h7 (h8 ns hlen hbits)
end VL
end
section
namespace VL
open PySem L2
/-! ### the mirrors' operations on known values -/
section
variable {i j : Int} {h : Hv}
@[simp] theorem mAdd_int : mAdd (.int i) (.int j) h = .val (.int (i + j)) h := rfl
@[simp] theorem mSub_int : mSub (.int i) (.int j) h = .val (.int (i - j)) h := rfl
theorem mMul_int (hb : i.natAbs.log2 + j.natAbs.log2 < 1000000) : mMul (.int i) (.int j) h = .val (.int (i * j)) h := by
  simp [mMul, mulB, hb]
theorem mDiv_int (h1 : j ≠ 0) (h2 : j.natAbs.log2 < 9000) : mDiv (.int i) (.int j) h = .val (.int (i.fdiv j)) h := by
  simp [mDiv, mI, divB, h1, h2]
theorem mMod_int (h1 : j ≠ 0) : mMod (.int i) (.int j) h = .val (.int (i.fmod j)) h := by
  simp [mMod, mI, h1]
theorem mPow_int (h1 : 0 ≤ j) (h2 : j ≤ 1000000) (h3 : i.natAbs < 2 ^ 64) : mPow (.int i) (.int j) h = .val (.int (i ^ j.toNat)) h := by
  have e : powB i j = true := by
    simp only [powB, Bool.and_eq_true, decide_eq_true_eq]
    exact ⟨h1, h2, h3⟩
  simp [mPow, mI, e]
@[simp] theorem mLt_int : mLt (.int i) (.int j) h = .val (.bl (decide (i < j))) h := rfl
@[simp] theorem mLe_int : mLe (.int i) (.int j) h = .val (.bl (decide (i ≤ j))) h := rfl
@[simp] theorem mGt_int : mGt (.int i) (.int j) h = .val (.bl (decide (j < i))) h := rfl
@[simp] theorem mGe_int : mGe (.int i) (.int j) h = .val (.bl (decide (j ≤ i))) h := rfl
@[simp] theorem mNeg_int : mNeg (.int i) h = .val (.int (-i)) h := rfl
@[simp] theorem mAbs_int : mAbs [.int i] h = .val (.int (i.natAbs : Int)) h := by
  have e : (if i < 0 then -i else i) = (i.natAbs : Int) := by split <;> omega
  simp [mAbs, e]
@[simp] theorem mMax_int : mMax [.int i, .int j] h = .val (.int (max i j)) h := by
  have e : (if j > i then j else i) = max i j := by split <;> omega
  simp [mMax, e]
@[simp] theorem mInt_int : mInt [.int i] h = .val (.int i) h := rfl
@[simp] theorem mInt_bl {b : Bool} : mInt [.bl b] h = .val (.int (if b then 1 else 0)) h := rfl
theorem shaped_int (i : Int) : SeqAt.shaped (.int i) = true := by
  simp [SeqAt.shaped, PyData.canLay0, PyData.depth]
theorem shaped_bool (b : Bool) : SeqAt.shaped (.bool b) = true := by
  simp [SeqAt.shaped, PyData.canLay0, PyData.depth]
@[simp] theorem mEq_int : mEq false (.int i) (.int j) h = .val (.bl (decide (i = j))) h := by
  have e1 : toD dF h (.int i) = some (.int i) := rfl
  have e2 : toD dF h (.int j) = some (.int j) := rfl
  simp [mEq, e1, e2, shaped_int, PyData.eqv, Bool.beq_eq_decide_eq]
@[simp] theorem mNe_int : mEq true (.int i) (.int j) h = .val (.bl (decide (i ≠ j))) h := by
  have e1 : toD dF h (.int i) = some (.int i) := rfl
  have e2 : toD dF h (.int j) = some (.int j) := rfl
  simp [mEq, e1, e2, shaped_int, PyData.eqv, Bool.beq_eq_decide_eq]
@[simp] theorem mNe_bl {a b : Bool} : mEq true (.bl a) (.bl b) h = .val (.bl (decide (a ≠ b))) h := by
  have e1 : toD dF h (.bl a) = some (.bool a) := rfl
  have e2 : toD dF h (.bl b) = some (.bool b) := rfl
  cases a <;> cases b <;> simp [mEq, e1, e2, shaped_bool, PyData.eqv]
end
/-! ### and of the pieces -/
section
variable {α β : Type} {a : α} {h : Hv} {k : α → Hv → Res β} {ks : α → Hv → ResS} {r : Ws} {c : String} {d : Option Nat}
@[simp] theorem bind_val : (Res.val a h).bind k = k a h := rfl
@[simp] theorem bind_exc : (Res.exc c d h : Res α).bind k = .exc c d h := rfl
@[simp] theorem andS_val : (Res.val a h).andS r ks = ks a h := rfl
@[simp] theorem andS_exc : (Res.exc c d h : Res α).andS r ks = .exc c d r h := rfl
@[simp] theorem asB_bl {b : Bool} : asB (.bl b) h = .val b h := rfl
@[simp] theorem mC_eq {w : W} : mC w r h = .val w h := rfl
@[simp] theorem mNil_eq : mNil r h = .val [] h := rfl
@[simp] theorem mNext_eq : mNext r h = .nx r h := rfl
@[simp] theorem m2_eq {g : MOp} {fa fb : Ws → Hv → Res W} : m2 g fa fb r h = (fa r h).bind fun x h1 => (fb r h1).bind fun y h2 => g x y h2 := rfl
@[simp] theorem m1_eq {g : W → Hv → Res W} {fa : Ws → Hv → Res W} : m1 g fa r h = (fa r h).bind g := rfl
@[simp] theorem mCons_eq {f : Ws → Hv → Res W} {g : Ws → Hv → Res (List W)} : mCons f g r h = (f r h).bind fun w h1 => (g r h1).bind fun ws h2 => .val (w :: ws) h2 := rfl
@[simp] theorem mB_eq {m : MFn} {g : Ws → Hv → Res (List W)} : mB m g r h = (g r h).bind m := rfl
@[simp] theorem mT_eq {f : Ws → Hv → Res W} : mT f r h = (f r h).bind asB := rfl
@[simp] theorem mNotT_eq {t : Ws → Hv → Res Bool} : mNotT t r h = (t r h).bind fun b h1 => .val (!b) h1 := rfl
@[simp] theorem mAndT_eq {t u : Ws → Hv → Res Bool} : mAndT t u r h = (t r h).bind fun b h1 => if b then u r h1 else .val false h1 := rfl
@[simp] theorem mOrT_eq {t u : Ws → Hv → Res Bool} : mOrT t u r h = (t r h).bind fun b h1 => if b then .val true h1 else u r h1 := rfl
@[simp] theorem mNotV_eq {f : Ws → Hv → Res W} : mNotV f r h = (mT f r h).bind fun b h1 => .val (.bl (!b)) h1 := rfl
@[simp] theorem mAndV_eq {f g : Ws → Hv → Res W} : mAndV f g r h = (mT f r h).bind fun b h1 => if b then g r h1 else .val (.bl false) h1 := rfl
@[simp] theorem mOrV_eq {f g : Ws → Hv → Res W} : mOrV f g r h = (mT f r h).bind fun b h1 => if b then .val (.bl true) h1 else g r h1 := rfl
@[simp] theorem mIf_eq {t : Ws → Hv → Res Bool} {f g : Ws → Hv → Res W} : mIf t f g r h = (t r h).bind fun b h1 => if b then f r h1 else g r h1 := rfl
@[simp] theorem mExpr_eq {f : Ws → Hv → Res W} : mExpr f r h = (f r h).andS r fun _ h1 => .nx r h1 := rfl
@[simp] theorem mRet_eq {f : Ws → Hv → Res W} : mRet f r h = (f r h).andS r fun w h1 => .rt w h1 := rfl
@[simp] theorem mSet_eq {i : Nat} {f : Ws → Hv → Res W} : mSet i f r h = (f r h).andS r fun w h1 => .nx (r.set i (some w)) h1 := rfl
@[simp] theorem mIfS_eq {t : Ws → Hv → Res Bool} {f g : MS} : mIfS t f g r h = (t r h).andS r fun b h1 => if b then f r h1 else g r h1 := rfl
@[simp] theorem mTup_eq {g : Ws → Hv → Res (List W)} : mTup g r h = (g r h).bind fun ws h1 => if ws.length ≤ 100000 then mNew (.tup ws) h1 else .bad := rfl
@[simp] theorem mLst_eq {g : Ws → Hv → Res (List W)} : mLst g r h = (g r h).bind fun ws h1 => if ws.length ≤ 100000 then mNew (.lst ws) h1 else .bad := rfl
@[simp] theorem mCall_eq {n : Nat} {m : MFn} {g : Ws → Hv → Res (List W)} : mCall n m g r h = (g r h).bind fun ws h1 => if ws.length = n then m ws h1 else .bad := rfl
@[simp] theorem mNew_eq {o : O} : mNew o h = .val (.ref h.length) (h ++ [o]) := rfl
@[simp] theorem mGn_eq {i : Nat} {w : W} : mGn i w r h = .nx (r.set i (some w)) h := rfl
/-- one statement behind another -/
def thenS (x : ResS) (g : MS) : ResS := match x with
  | .nx r1 h1 => g r1 h1
  | y => y
@[simp] theorem mSeq_eq {f g : MS} : mSeq f g r h = thenS (f r h) g := rfl
@[simp] theorem thenS_nx {g : MS} : thenS (.nx r h) g = g r h := rfl
@[simp] theorem thenS_rt {g : MS} {w : W} : thenS (.rt w h) g = .rt w h := rfl
@[simp] theorem thenS_exc {g : MS} : thenS (.exc c d r h) g = .exc c d r h := rfl
/-- a def's end -/
def endS (x : ResS) : Res W := match x with
  | .rt w h1 => .val w h1
  | .nx _ h1 => .val .non h1
  | .exc c d _ h1 => .exc c d h1
  | _ => .bad
theorem mDef_eq {N : List Str} {b : MS} {ws : List W} : mDef N b ws h = endS (b (startW N ws) h) := by
  unfold mDef endS
  rfl
@[simp] theorem endS_rt {w : W} : endS (.rt w h) = .val w h := rfl
@[simp] theorem endS_nx : endS (.nx r h) = .val .non h := rfl
@[simp] theorem endS_exc : endS (.exc c d r h) = .exc c d h := rfl
end
@[simp] theorem mVar0 {w : W} {r : Ws} {h : Hv} : mVar 0 (some w :: r) h = .val w h := rfl
@[simp] theorem mVarS {i : Nat} {x : Option W} {r : Ws} {h : Hv} : mVar (i + 1) (x :: r) h = mVar i r h := rfl
/-! ### items -/
theorem mIx_tup {p : Nat} {h : Hv} {xs : List W} {i : Int} {w : W} (e : h[p]? = some (.tup xs)) (ei : atI xs i = some w) : mIx (.ref p) (.int i) h = .val w h := by
  simp [mIx, e, ei, ofO]
theorem mIx_lst {p : Nat} {h : Hv} {xs : List W} {i : Int} {w : W} (e : h[p]? = some (.lst xs)) (ei : atI xs i = some w) : mIx (.ref p) (.int i) h = .val w h := by
  simp [mIx, e, ei, ofO]
@[simp] theorem atI0 {α : Type} {x : α} {xs : List α} : atI (x :: xs) 0 = some x := atI_nat (j := 0) rfl
@[simp] theorem atI1 {α : Type} {x y : α} {xs : List α} : atI (x :: y :: xs) 1 = some y := atI_nat (j := 1) rfl
theorem get_last {h : Hv} {o : O} : (h ++ [o])[h.length]? = some o := by simp
theorem get_old {h : Hv} {t : Hv} {p : Nat} {o : O} (e : h[p]? = some o) : (h ++ t)[p]? = some o := by
  rw [List.getElem?_append_left (List.getElem?_eq_some_iff.mp e).1]
  exact e
end VL
end
section
/-! ### isinstance of a caught error that bears fields -/
namespace VX
open PySem PySem.W PySem.Spec PySem.Calls PyProof.Rows
variable {prog : Program} {w : World} {A : Around} {E : Value → Shared → Prop} {s : Shared} {K : Frag} {x D : Addr} {ox : Obj} {od : Option Obj}
theorem found_cls (Z : L2.ExcC K D) : findObj K D od "__class__" = some (.bind (.builtin "getset_descriptor.__get__") (.builtin "object.__class__")) := by
  obtain ⟨cd, hc, _⟩ := any_some Z.hd
  simp only [findObj, hc, Z.ha, Z.hn, Z.ht, Option.bind_some]
theorem cls_of {Q : Option Value → Shared → Prop} (Z : L2.ExcC K D) (X : K.In s.heap) (I : W.InstAt s.heap x ox D od) (h : Q (some (.ref D)) { s with toks := s.toks + 1 }) : wpAny (model prog w) A (getAttr? (.ref x) "__class__") Q E s := by
  obtain ⟨hp, g, d, t, os⟩ := s
  have T0 := I.type (M := model prog w)
  have T1 := looks_findIn (M := model prog w) X Z.hg
  have T2 := looks_findIn (M := model prog w) X Z.hk
  have T3 := looks_find (M := model prog w) X I (found_cls (od := od) Z)
  have sb : Looks (model prog w) hp (isInstance (.ref x) (.type "BaseException")) true := T0.andThen (looks_subIn X Z.hs)
  have n0 : (false && onTheHeap (Value.builtin "BaseException.__getattribute__")) = false := rfl
  have n2 : (Value.builtin "BaseException.__getattribute__" == Value.builtin "object.__getattribute__") = false := by decide +kernel
  have n1 : (onTheHeap (Value.ref D) && Value.builtin "BaseException.__getattribute__" == Value.builtin "object.__getattribute__") = false := by rw [n2, Bool.and_false]
  unfold getAttr? getAttrBy? getAttrBy; refine wpAny_bind (wpAny_mkText (wpAny_bind (wpAny_attempt (wpAny_holding (wpAny_bind (T0.at (wpAny_bind (T1.at ?_))))))))
  show wpAny _ _ (if (onTheHeap (Value.ref D) && Value.builtin "BaseException.__getattribute__" == Value.builtin "object.__getattribute__") = true then _ else _) _ _ _; rw [n1, if_neg Bool.false_ne_true]
  unfold getAttrByItsOwn hookBefore; refine wpAny_bind ?_
  rw [if_pos (show onTheHeap (Value.ref D) = true from rfl)]; refine T2.at (wpAny_bind (wpAny_attempt (wpAny_holding ?_)))
  unfold callGetattribute; rw [n0, if_neg Bool.false_ne_true]
  unfold boundAndCalled; rw [PySem.F.excAttr_ValueError.ga.bind (.ref x)]
  refine wpAny_bind (wpAny_pure ?_); show wpAny _ _ (call (.builtin "BaseException.__getattribute__") [.ref x, .str "__class__" t]) _ _ _
  refine wpAny_call (codeAny_call_builtin PySem.F.excAttr_ValueError.ga.plain PySem.F.entry_bexc_ga ?_); refine @check_slot (model prog w) _ _ ⟨hp, g, d, t + 1, os⟩ "BaseException.__getattribute__" "BaseException" "__getattribute__" (.ref x) [.str "__class__" t] [] _ (by decide +kernel) (by decide +kernel) sb (PySem.F.args_bexc_ga (.ref x) (.str "__class__" t)) ?_
  unfold Builtin.«object.__getattribute__»; refine wpAny_bind (wpAny_of_eq (a := ((Value.ref x : Value), [Value.str "__class__" t])) (by first | rfl | (simp only [slotArgs]; rfl)) ?_)
  refine wpAny_bind (wpAny_pure (wpAny_bind (T0.at (wpAny_bind (T3.at ?_))))); show wpAny _ _ (holding [Value.builtin "object.__class__"] (call (.builtin "getset_descriptor.__get__") [.builtin "object.__class__", .ref x, .ref D]) >>= ret) _ _ _
  refine wpAny_bind (wpAny_holding (wpAny_call (class_get (s := ⟨hp, g, d, t + 1, os⟩) (ox := ox) (od := od) X I Z.hm ?_))); refine wpAny_pure ?_
  show wpAny _ _ (handedOut (.ref D)) _ _ _; rw [handedOut_of (v := .ref D) rfl]
  first | exact wpAny_pure (wpAny_pure h) | exact wpAny_pure h | exact wpAny_pure (wpAny_bind (wpAny_pure (wpAny_pure h)))
theorem kit_of (Z : L2.ExcC K D) : KitX K (.ref x) (.ref D) (fun h => ∃ od, W.InstAt h x ox D od) where
  ty := fun _ _ _ ⟨_, I⟩ => I.type
  it := fun M h X _ => by
    obtain ⟨cd, hc, _⟩ := any_some Z.hd
    unfold clsIn at hc; split at hc
    · rename_i c1 d1 cd1 sl1 ho; intro A1 Q1 E1 s1 k q; unfold isType loadHead; exact wpAny_bind (wpAny_loadPart (k _ _ (X _ _ ho)) (wpAny_pure q))
    · cases hc
  ne := fun h tp dd its n sl X htp => (W.handS_kitx_exc (x := x) (ox := ox) Z.hg Z.hk Z.hs Z.hd Z.ha Z.hn Z.ht Z.hm).ne h tp dd its n sl X htp
  ca := fun X ⟨od, I⟩ k => cls_of Z X I k
end VX
namespace VL
open PySem L2 PySem.Spec PyProof.Rows
/-- isinstance(e, c), e the caught error, its fields at dd -/
def rIsF (K : PySem.W.Frag) (D a dd : Addr) : List V → Hp → VK → Prop := fun xs H Q => ∃ (c : V) (cv : Value) (b : Bool) (fs : List (Str × V)), xs = [.ref a, c] ∧ (∀ u, RelV c u → u = cv) ∧ PySem.W.kitOne K (.ref D) cv = some b ∧ H dd = some (.xd fs) ∧ Q (.bl b) H
theorem call_isF {X : Cx} {a D dd : Addr} {oe : Obj} {pn : List (Addr × Obj)} (Z : ExcC X.K D) (hz : Zc (.ref D) (some dd) oe) (hf : ∃ vs, oe.data = .fields vs) : CallR (X.suite a ((a, oe) :: pn)) (.builtin "isinstance") (rIsF X.K D a dd) := by
  intro pins s σ H xs us Q I r h; obtain ⟨c, cv, b, fs, rfl, hcv, e, ea, q⟩ := h
  cases r with
  | cons rx rr => cases rr with
    | cons rt rr =>
      cases rr; cases rx; obtain rfl := hcv _ rt
      obtain ⟨hget, _⟩ := I.pin (a, oe) (List.mem_append_left _ List.mem_cons_self)
      obtain ⟨vs, hv⟩ := hf
      have hx : ObjOk X.prog X.w H s.heap dd (.xd fs) := I.hok dd _ ea
      obtain ⟨mA, hns, hr⟩ := hx
      obtain ⟨od, ho, hl⟩ := lookIn_ns hns; have J : PySem.W.InstAt s.heap a oe D (some od) := ⟨hget, hz.1, (by unfold PySem.W.notCls; rw [hv] <;> rfl), (by rw [hz.2]; exact ho)⟩
      exact PySem.W.kia_one (VX.kit_of (x := a) (ox := oe) Z) I.kIn ⟨_, J⟩ e (fun z => nomatch z) fun tk => ⟨.bl b, H, I.kept (t' := tk) fun _ _ z => z, rfl, q⟩
def mIsx (j : Nat) (b : Bool) : Ws → Hv → Res W := fun _ h => match h[j]? with
  | some (.xd _) => .val (.bl b) h
  | _ => .bad
def mIsxA (i : Nat) (a : Addr) (j : Nat) (b : Bool) : Ws → Hv → Res W := fun r h => match r[i]? with
  | some (some (.fix c)) => if c = a then mIsx j b r h else .bad
  | _ => .bad
section
variable {T : Tx} {X : Cx}
theorem mIsxA_at {i : Nat} {a : Addr} {j : Nat} {b : Bool} {r : Ws} {h : Hv} (hl : i < r.length) : mIsxA i a j b (r.set i (some (.fix a))) h = mIsx j b r h := by
  unfold mIsxA
  rw [List.getElem?_set_self hl]
  simp [mIsx]
theorem se_isx (i : Nat) {a dd C : Addr} {oe : Obj} {cls : Value} {pn : List (Addr × Obj)} {j : Nat} {b : Bool} {n : Str} {p pn1 pos : Pos} {ec : Expr} {c : V} {cv : Value} (Z : ExcC X.K C) (hz : Zc cls (some dd) oe) (hf : ∃ vs, oe.data = .fields vs) (hcls : cls = .ref C)
    (hgi : Gl (X.suite a ((a, oe) :: pn)) "isinstance") (hmi : X.mg "isinstance" = none) (hc : PE (X.suite a ((a, oe) :: pn)) ec (tC c)) (hcv : ∀ u, RelV c u → u = cv) (hk : PySem.W.kitOne X.K (.ref C) cv = some b)
    (hN : X.N[i]? = some n := by rfl) (hv : Vis X.env.scope n := by first | exact Or.inl rfl | exact Or.inr (Or.inl rfl) | exact Or.inr (Or.inr rfl)) (hd : (n == ("__debug__" : Str)) = false := by decide) (hcd : (n == ("__classdict__" : Str)) = false := by decide)
    (hs1 : starEach [.Name n pn1, ec] X.env = (false, eval (.Name n pn1) X.env) :: starEach [ec] X.env := by rfl) (hs2 : starEach [ec] X.env = (false, eval ec X.env) :: starEach [] X.env := by rfl) (hpl : (backTo pos (starEach [ec] X.env)).any (·.1) = false := by rfl) :
    SE (T.known j dd) (X.suite a ((a, oe) :: pn)) (.Call (.Name "isinstance" p) [.Name n pn1, ec] [] pos) (mIsxA i a j b) := fun E cn =>
  PEi (pe_callB (call_isF (pn := pn) (dd := dd) Z (hcls ▸ hz) hf) hgi hmi (by decide +kernel) (pa_cons (pe_var (X := X.suite a ((a, oe) :: pn)) (i := i) hN hv hd hcd) (pa_cons hc pa_nil hs2) hs1) (by decide) (by decide) hs1 hpl) fun s H Q ⟨ps, r, hv, es, vw, gd⟩ => by
    unfold mIsxA at gd
    split at gd
    · rename_i b2 eb
      split at gd
      · rename_i hba
        subst hba
        obtain ⟨v, e1, e2⟩ := es.2 i _ eb
        cases e2
        unfold mIsx at gd
        split at gd
        · rename_i fs ej
          have ed : ps[j]? = some dd := vw.fact.2
          obtain ⟨vs, rr, eH⟩ := vw.ob _ dd _ ed ej
          exact ⟨_, e1, c, cv, b, vs, rfl, hcv, hk, eH, Good.now gd vw rfl⟩
        · exact gd.elim
      · exact gd.elim
    · exact gd.elim
end
/-! ### xs[::-1] -/
def mRevO (w : W) (h : Hv) : Res W := match w with
  | .ref p => (match h[p]? with
    | some (.lst xs) => mNew (.lst xs.reverse) h
    | some (.rol xs) => mNew (.lst xs.reverse) h
    | _ => .bad)
  | _ => .bad
def mRev (f : Ws → Hv → Res W) : Ws → Hv → Res W := fun r h => (f r h).bind mRevO
section
variable {T : Tx} {X : Cx} {e : Expr} {f : Ws → Hv → Res W}
theorem paired_rev {ps : List Addr} : ∀ {xs : List W} {ys : List V}, Paired (WV ps) xs ys → Paired (WV ps) xs.reverse ys.reverse
  | _, _, .nil => .nil
  | _, _, .cons r t => by
    simp only [List.reverse_cons]
    exact paired_app (paired_rev t) (.cons r .nil)
theorem se_rev {k : Nat} {p1 p2 p3 pos : Pos} (he : SE T X e f) : SE T X (.Subscript e (.Slice none none (some (.UnaryOp .USub (.Constant (.int 1) k p1) p2)) p3) pos) (mRev f) := fun E cn => PEi (pe_revL (he E cn)) fun s H Q ⟨ps, r, hv, es, vw, gd⟩ => by
  refine ⟨ps, r, hv, es, vw, (Good.bind (R := WV) (S := WV) gd).imp (fun v H1 q => ?_) fun _ _ _ z => z⟩
  obtain ⟨qs, w, h1, st, vw1, wv, g1⟩ := q
  unfold mRevO at g1
  split at g1
  · obtain ⟨a, ea, rfl⟩ := wv
    split at g1
    · rename_i xs e1
      obtain ⟨vs, rr, eH⟩ := vw1.ob _ a _ ea e1
      exact ⟨a, vs, rfl, SqL.of eH, fun p hp => good_new vw1 g1 (fun H' p' e => ⟨_, paired_rev rr, e⟩) hp⟩
    · rename_i xs e1
      obtain ⟨vs, ob, rr, eH⟩ := vw1.ob _ a _ ea e1
      exact ⟨a, vs, rfl, .inl (.inr ⟨ob, eH⟩), fun p hp => good_new vw1 g1 (fun H' p' e => ⟨_, paired_rev rr, e⟩) hp⟩
    · exact g1.elim
  · exact g1.elim
/-! ### str of a whole number -/
def mStrI : MFn := fun ws h => match ws with
  | [.int i] => if i.natAbs.log2 < 1920 then .val (.str (Str.ofString (toString i))) h else .bad
  | _ => .bad
theorem rc_strI : RC T (fun xs H Q => ∃ i, xs = [.int i] ∧ i.natAbs.log2 < 1920 ∧ Q (.str (toString i)) H) mStrI := by
  intro ps h H ws vs Q E vw wv gd
  unfold mStrI at gd
  split at gd
  · split at gd
    · rename_i hc
      obtain ⟨v, rfl, e⟩ := one_of wv
      cases e
      exact ⟨_, rfl, hc, Good.now gd vw rfl⟩
    · exact gd.elim
  · exact gd.elim
end
end VL
end
section
namespace K02
open PySem L2 VL
def top (i : Nat) : Stmt := PySem.Challenge.pw_whatiftimes_k02_fractions.main.body.getD i (.Pass ⟨0, 0, 0, 0⟩)
structure Cs where
  InvalidNumber : Addr
def fuel_common_divisor : Ws → Hv → Nat := fun r _ => match r[1]? with
  | some (some (VL.W.int i)) => i.natAbs + 1
  | _ => 1
def fuel__law_fraction : Ws → Hv → Nat := fun r _ => match r[2]? with
  | some (some (VL.W.int i)) => i.natAbs + 1
  | _ => 1
abbrev s_is_whole : Stmt := top 4
theorem sc_is_whole : FnScope ["value"] ["value"] (defScope s_is_whole) := ⟨rfl, rfl, rfl, by decide +kernel, rfl, by decide +kernel, by decide +kernel⟩
def m_is_whole : MFn := mDef ["value"] ((mRet (mAndV (mB mIsi (mCons (mVar 0) (mCons (mC (.ty "int")) mNil))) (mNotV (mB mIsi (mCons (mVar 0) (mCons (mC (.ty "bool")) mNil)))))))
abbrev s_is_whole_pair : Stmt := top 5
theorem sc_is_whole_pair : FnScope ["value"] ["value"] (defScope s_is_whole_pair) := ⟨rfl, rfl, rfl, by decide +kernel, rfl, by decide +kernel, by decide +kernel⟩
def m_is_whole_pair : MFn := mDef ["value"] ((mSeq (mIfS (mOrT (mNotT (mT (mB mIsi (mCons (mVar 0) (mCons (mC (.ty "tuple")) mNil))))) (mT (m2 (mEq true) (mB mLen (mCons (mVar 0) mNil)) (mC (.int 2))))) (mRet (mC (.bl false))) mNext)
    (mRet (mAndV (mCall 1 m_is_whole (mCons (m2 mIx (mVar 0) (mC (.int 0))) mNil)) (mCall 1 m_is_whole (mCons (m2 mIx (mVar 0) (mC (.int 1))) mNil))))))
abbrev s_sign_of : Stmt := top 6
theorem sc_sign_of : FnScope ["number"] ["number"] (defScope s_sign_of) := ⟨rfl, rfl, rfl, by decide +kernel, rfl, by decide +kernel, by decide +kernel⟩
def m_sign_of : MFn := mDef ["number"] ((mSeq (mIfS (mT (m2 mLt (mVar 0) (mC (.int 0)))) (mRet (m1 mNeg (mC (.int 1)))) mNext)
    (mSeq (mIfS (mT (m2 mGt (mVar 0) (mC (.int 0)))) (mRet (mC (.int 1))) mNext)
    (mRet (mC (.int 0))))))
abbrev s_common_divisor : Stmt := top 7
theorem sc_common_divisor : FnScope ["one", "other"] ["one", "other"] (defScope s_common_divisor) := ⟨rfl, rfl, rfl, by decide +kernel, rfl, by decide +kernel, by decide +kernel⟩
def m_common_divisor : MFn := mDef ["one", "other"] ((mSeq (mWhile fuel_common_divisor (mT (m2 (mEq true) (mVar 1) (mC (.int 0)))) (mPar 0 1 (mCons (mVar 1) (mCons (m2 mMod (mVar 0) (mVar 1)) mNil))))
    (mRet (mB mAbs (mCons (mVar 0) mNil)))))
abbrev s_is_fraction : Stmt := top 9
theorem sc_is_fraction : FnScope ["value"] ["value"] (defScope s_is_fraction) := ⟨rfl, rfl, rfl, by decide +kernel, rfl, by decide +kernel, by decide +kernel⟩
def m_is_fraction : MFn := mDef ["value"] ((mRet (mAndV (mCall 1 m_is_whole_pair (mCons (mVar 0) mNil)) (mAndV (m2 mGe (m2 mIx (mVar 0) (mC (.int 1))) (mC (.int 1))) (m2 (mEq false) (mCall 2 m_common_divisor (mCons (m2 mIx (mVar 0) (mC (.int 0))) (mCons (m2 mIx (mVar 0) (mC (.int 1))) mNil))) (mC (.int 1)))))))
abbrev s_require_fraction : Stmt := top 10
theorem sc_require_fraction : FnScope ["value"] ["value"] (defScope s_require_fraction) := ⟨rfl, rfl, rfl, by decide +kernel, rfl, by decide +kernel, by decide +kernel⟩
def m_require_fraction : MFn := mDef ["value"] ((mIfS (mNotT (mT (mCall 1 m_is_fraction (mCons (mVar 0) mNil)))) (mRaise "InvalidNumber" "value" (mCons (mVar 0) mNil)) mNext))
abbrev s_fraction : Stmt := top 11
theorem sc_fraction : FnScope ["number", "divisor", "common"] ["number", "divisor"] (defScope s_fraction) := ⟨rfl, rfl, rfl, by decide +kernel, rfl, by decide +kernel, by decide +kernel⟩
def m_fraction : MFn := mDef ["number", "divisor", "common"] ((mSeq (mIfS (mNotT (mT (mCall 1 m_is_whole (mCons (mVar 0) mNil)))) (mRaise "InvalidNumber" "value" (mCons (mVar 0) mNil)) mNext)
    (mSeq (mIfS (mOrT (mNotT (mT (mCall 1 m_is_whole (mCons (mVar 1) mNil)))) (mT (m2 (mEq false) (mVar 1) (mC (.int 0))))) (mRaise "InvalidNumber" "value" (mCons (mVar 1) mNil)) mNext)
    (mSeq (mSet 2 (mCall 2 m_common_divisor (mCons (mVar 0) (mCons (mVar 1) mNil))))
    (mSeq (mIfS (mT (m2 mLt (mVar 1) (mC (.int 0)))) (mSet 2 (m1 mNeg (mVar 2))) mNext)
    (mRet (mTup (mCons (m2 mDiv (mVar 0) (mVar 2)) (mCons (m2 mDiv (mVar 1) (mVar 2)) mNil)))))))))
abbrev s_order_of : Stmt := top 13
theorem sc_order_of : FnScope ["one", "other"] ["one", "other"] (defScope s_order_of) := ⟨rfl, rfl, rfl, by decide +kernel, rfl, by decide +kernel, by decide +kernel⟩
def m_order_of : MFn := mDef ["one", "other"] ((mRet (mCall 1 m_sign_of (mCons (m2 mSub (m2 mMul (m2 mIx (mVar 0) (mC (.int 0))) (m2 mIx (mVar 1) (mC (.int 1)))) (m2 mMul (m2 mIx (mVar 1) (mC (.int 0))) (m2 mIx (mVar 0) (mC (.int 1))))) mNil))))
abbrev s_compared : Stmt := top 12
theorem sc_compared : FnScope ["one", "other"] ["one", "other"] (defScope s_compared) := ⟨rfl, rfl, rfl, by decide +kernel, rfl, by decide +kernel, by decide +kernel⟩
def m_compared : MFn := mDef ["one", "other"] ((mSeq (mExpr (mCall 1 m_require_fraction (mCons (mVar 0) mNil)))
    (mSeq (mExpr (mCall 1 m_require_fraction (mCons (mVar 1) mNil)))
    (mRet (mCall 2 m_order_of (mCons (mVar 0) (mCons (mVar 1) mNil)))))))
abbrev s_sum_of_two : Stmt := top 15
theorem sc_sum_of_two : FnScope ["total", "each", "common", "number", "reduced"] ["total", "each"] (defScope s_sum_of_two) := ⟨rfl, rfl, rfl, by decide +kernel, rfl, by decide +kernel, by decide +kernel⟩
def m_sum_of_two : MFn := mDef ["total", "each", "common", "number", "reduced"] ((mSeq (mSet 2 (mCall 2 m_common_divisor (mCons (m2 mIx (mVar 0) (mC (.int 1))) (mCons (m2 mIx (mVar 1) (mC (.int 1))) mNil))))
    (mSeq (mSet 3 (m2 mAdd (m2 mMul (m2 mIx (mVar 0) (mC (.int 0))) (m2 mDiv (m2 mIx (mVar 1) (mC (.int 1))) (mVar 2))) (m2 mMul (m2 mIx (mVar 1) (mC (.int 0))) (m2 mDiv (m2 mIx (mVar 0) (mC (.int 1))) (mVar 2)))))
    (mSeq (mSet 4 (mCall 2 m_common_divisor (mCons (mVar 3) (mCons (mVar 2) mNil))))
    (mRet (mTup (mCons (m2 mDiv (mVar 3) (mVar 4)) (mCons (m2 mMul (m2 mDiv (m2 mIx (mVar 0) (mC (.int 1))) (mVar 2)) (m2 mDiv (m2 mIx (mVar 1) (mC (.int 1))) (mVar 4))) mNil))))))))
abbrev s_total_of : Stmt := top 14
theorem sc_total_of : FnScope ["some", "total", "each"] ["some"] (defScope s_total_of) := ⟨rfl, rfl, rfl, by decide +kernel, rfl, by decide +kernel, by decide +kernel⟩
def m_total_of : MFn := mDef ["some", "total", "each"] ((mSeq (mIfS (mNotT (mT (mB mIsi (mCons (mVar 0) (mCons (mC (.ty "list")) mNil))))) (mRaise "InvalidNumber" "value" (mCons (mVar 0) mNil)) mNext)
    (mSeq (mSet 1 (mTup (mCons (mC (.int 0)) (mCons (mC (.int 1)) mNil))))
    (mSeq (mFor (mSrc (mVar 0)) (mGn 2) (mSeq (mExpr (mCall 1 m_require_fraction (mCons (mVar 2) mNil)))
    (mSet 1 (mCall 2 m_sum_of_two (mCons (mVar 1) (mCons (mVar 2) mNil))))))
    (mRet (mVar 1))))))
abbrev s_middle : Stmt := top 16
theorem sc_middle : FnScope ["low", "high"] ["low", "high"] (defScope s_middle) := ⟨rfl, rfl, rfl, by decide +kernel, rfl, by decide +kernel, by decide +kernel⟩
def m_middle : MFn := mDef ["low", "high"] ((mSeq (mExpr (mCall 1 m_require_fraction (mCons (mVar 0) mNil)))
    (mSeq (mExpr (mCall 1 m_require_fraction (mCons (mVar 1) mNil)))
    (mRet (mCall 2 m_fraction (mCons (m2 mAdd (m2 mMul (m2 mIx (mVar 0) (mC (.int 0))) (m2 mIx (mVar 1) (mC (.int 1)))) (m2 mMul (m2 mIx (mVar 1) (mC (.int 0))) (m2 mIx (mVar 0) (mC (.int 1))))) (mCons (m2 mMul (m2 mMul (mC (.int 2)) (m2 mIx (mVar 0) (mC (.int 1)))) (m2 mIx (mVar 1) (mC (.int 1)))) mNil)))))))
abbrev s__law_numbers : Stmt := top 18
theorem sc__law_numbers : FnScope ["_law_cell", "_law_salt", "_law_sizes", "_law_whole_here", "_law_left", "_law_result", "_law_k", "_law_one"] ["_law_cell", "_law_salt", "_law_sizes"] (defScope s__law_numbers) := ⟨rfl, rfl, rfl, by decide +kernel, rfl, by decide +kernel, by decide +kernel⟩
def m__law_numbers : MFn := mDef ["_law_cell", "_law_salt", "_law_sizes", "_law_whole_here", "_law_left", "_law_result", "_law_k", "_law_one"] ((mSeq (mSet 3 (mB mMax (mCons (mVar 0) (mCons (m2 mSub (m1 mNeg (mC (.int 1))) (mVar 0)) mNil))))
    (mSeq (mSet 4 (mVar 3))
    (mSeq (mSet 5 (mLst mNil))
    (mSeq (mFor (mRng (mCons (mB mLen (mCons (mVar 2) mNil)) mNil)) (mGn 6) (mIfS (mAndT (mT (m2 mGe (mVar 3) (m2 mPow (mC (.int 10)) (mC (.int 18))))) (mT (m2 mGt (mVar 4) (mC (.int 0))))) (mSeq (mExpr (mApp (mVar 5) (m2 mMod (mVar 4) (m2 mIx (mVar 2) (mVar 6)))))
    (mSet 4 (m2 mDiv (mVar 4) (m2 mIx (mVar 2) (mVar 6))))) (mSeq (mSet 7 (m2 mMod (m2 mPow (m2 mAdd (m2 mAdd (m2 mMod (mVar 3) (mC (.int 2147483629))) (m2 mMul (mC (.int 7919)) (mVar 1))) (mC (.int 1))) (mC (.int 3))) (mC (.int 2147483647))))
    (mSeq (mSet 7 (m2 mMod (m2 mMul (m2 mAdd (mVar 7) (m2 mMul (mC (.int 104729)) (m2 mAdd (mVar 6) (mC (.int 1))))) (m2 mAdd (mVar 6) (mC (.int 3)))) (mC (.int 2147483629))))
    (mSeq (mSet 7 (m2 mMod (m2 mMul (m2 mMod (m2 mPow (mVar 7) (mC (.int 5))) (mC (.int 2147483647))) (mC (.int 48271))) (mC (.int 2147483629))))
    (mExpr (mApp (mVar 5) (m2 mMod (m2 mDiv (mVar 7) (mC (.int 16))) (m2 mIx (mVar 2) (mVar 6))))))))))
    (mRet (mVar 5)))))))
abbrev s__law_draw : Stmt := top 19
theorem sc__law_draw : FnScope ["_law_state", "_law_many", "_law_at"] ["_law_state", "_law_many"] (defScope s__law_draw) := ⟨rfl, rfl, rfl, by decide +kernel, rfl, by decide +kernel, by decide +kernel⟩
def m__law_draw : MFn := mDef ["_law_state", "_law_many", "_law_at"] ((mSeq (mSet 2 (m2 mIx (mVar 0) (mC (.int 1))))
    (mSeq (mAsg (m2 mAdd (mVar 2) (mC (.int 1))) (mSub1 (mVar 0) (mC (.int 1))))
    (mRet (mIf (mT (m2 mLt (mVar 2) (mB mLen (mCons (m2 mIx (mVar 0) (mC (.int 0))) mNil)))) (m2 mMod (mB mInt (mCons (m2 mIx (m2 mIx (mVar 0) (mC (.int 0))) (mVar 2)) mNil)) (mVar 1)) (mC (.int 0)))))))
abbrev s__law_fraction : Stmt := top 20
theorem sc__law_fraction : FnScope ["_law_number", "_law_divisor", "_law_one", "_law_other"] ["_law_number", "_law_divisor"] (defScope s__law_fraction) := ⟨rfl, rfl, rfl, by decide +kernel, rfl, by decide +kernel, by decide +kernel⟩
def m__law_fraction : MFn := mDef ["_law_number", "_law_divisor", "_law_one", "_law_other"] ((mSeq (mPar 2 3 (mCons (mB mMax (mCons (mVar 0) (mCons (m1 mNeg (mVar 0)) mNil))) (mCons (mVar 1) mNil)))
    (mSeq (mWhile fuel__law_fraction (mT (m2 mGt (mVar 2) (mC (.int 0)))) (mPar 2 3 (mCons (m2 mMod (mVar 3) (mVar 2)) (mCons (mVar 2) mNil))))
    (mRet (mTup (mCons (m2 mDiv (mVar 0) (mVar 3)) (mCons (m2 mDiv (mVar 1) (mVar 3)) mNil)))))))
abbrev s__law_whole : Stmt := top 21
theorem sc__law_whole : FnScope ["_law_state", "_law_some"] ["_law_state"] (defScope s__law_whole) := ⟨rfl, rfl, rfl, by decide +kernel, rfl, by decide +kernel, by decide +kernel⟩
def m__law_whole : MFn := mDef ["_law_state", "_law_some"] ((mSeq (mSet 1 (mLst (mCons (mC (.int 0)) (mCons (mC (.int 1)) (mCons (mCall 2 m__law_draw (mCons (mVar 0) (mCons (mC (.int 420)) mNil))) (mCons (m2 mAdd (m2 mPow (mC (.int 10)) (mC (.int 58))) (mCall 2 m__law_draw (mCons (mVar 0) (mCons (mC (.int 420)) mNil)))) (mCons (m2 mMul (m2 mPow (mC (.int 6)) (mC (.int 20))) (mCall 2 m__law_draw (mCons (mVar 0) (mCons (mC (.int 420)) mNil)))) mNil)))))))
    (mRet (m2 mMul (m2 mIx (mVar 1) (mCall 2 m__law_draw (mCons (mVar 0) (mCons (mC (.int 5)) mNil)))) (m2 mIx (mLst (mCons (mC (.int 1)) (mCons (m1 mNeg (mC (.int 1))) mNil))) (mCall 2 m__law_draw (mCons (mVar 0) (mCons (mC (.int 2)) mNil))))))))
abbrev s__law_heard : Stmt := top 22
theorem sc__law_heard : FnScope ["_law_call", "e"] ["_law_call"] (defScope s__law_heard) := ⟨rfl, rfl, rfl, by decide +kernel, rfl, by decide +kernel, by decide +kernel⟩
def suA_heard (ad : Addr) (j : Nat) : Ws → Hv → Res W := (mLst (mCons (mC (.str ("number" : Str))) (mCons (mB mReprE (mCons (mXfA 1 ad j "value") mNil)) (mCons (mAndV (mIsxA 1 ad j true) (mNotV (mIsxA 1 ad j false))) mNil))))
def su0_heard (j : Nat) : Ws → Hv → Res W := (mLst (mCons (mC (.str ("number" : Str))) (mCons (mB mReprE (mCons (mXf j "value") mNil)) (mCons (mAndV (mIsx j true) (mNotV (mIsx j false))) mNil))))
def su_heard (j : Nat) : MS := mRet (su0_heard j)
abbrev s__law_one_right : Stmt := top 23
theorem sc__law_one_right : FnScope ["_law_state", "_law_number", "_law_divisor", "_law_due", "_law_factor", "_law_wide"] ["_law_state"] (defScope s__law_one_right) := ⟨rfl, rfl, rfl, by decide +kernel, rfl, by decide +kernel, by decide +kernel⟩
def m__law_one_right : MFn := mDef ["_law_state", "_law_number", "_law_divisor", "_law_due", "_law_factor", "_law_wide"] ((mSeq (mAsg (mTup (mCons (mCall 1 m__law_whole (mCons (mVar 0) mNil)) (mCons (mCall 1 m__law_whole (mCons (mVar 0) mNil)) mNil))) (mGtup 2 (mGcons (mGn 1) (mGcons (mGn 2) mGnil))))
    (mSeq (mIfS (mT (m2 (mEq false) (mVar 2) (mC (.int 0)))) (mRet (m2 (mEq false) (mHeard (exmC ["InvalidNumber"]) su_heard (mCall 2 m_fraction (mCons (mVar 1) (mCons (mVar 2) mNil)))) (mLst (mCons (mC (.str ("number" : Str))) (mCons (mC (.str ("0" : Str))) (mCons (mC (.bl true)) mNil)))))) mNext)
    (mSeq (mSet 3 (mCall 2 m__law_fraction (mCons (m2 mMul (mVar 1) (m2 mIx (mLst (mCons (mC (.int 1)) (mCons (m1 mNeg (mC (.int 1))) mNil))) (mB mInt (mCons (m2 mLt (mVar 2) (mC (.int 0))) mNil)))) (mCons (mB mMax (mCons (mVar 2) (mCons (m1 mNeg (mVar 2)) mNil))) mNil))))
    (mSeq (mSet 4 (m2 mAdd (mC (.int 2)) (mCall 2 m__law_draw (mCons (mVar 0) (mCons (mC (.int 7)) mNil)))))
    (mSeq (mIfS (mOrT (mT (m2 (mEq true) (mB mReprE (mCons (mCall 2 m_fraction (mCons (mVar 1) (mCons (mVar 2) mNil))) mNil)) (mB mReprE (mCons (mVar 3) mNil)))) (mT (m2 (mEq true) (mCall 2 m_fraction (mCons (m2 mMul (mVar 1) (mVar 4)) (mCons (m2 mMul (mVar 2) (mVar 4)) mNil))) (mVar 3)))) (mRet (mC (.bl false))) mNext)
    (mSeq (mSet 5 (mTup (mCons (m2 mMul (m2 mIx (mVar 3) (mC (.int 0))) (mVar 4)) (mCons (m2 mMul (m2 mIx (mVar 3) (mC (.int 1))) (mVar 4)) mNil))))
    (mRet (mAndV (m2 (mIs false) (mCall 1 m_is_fraction (mCons (mVar 3) mNil)) (mC (.bl true))) (mAndV (m2 (mIs false) (mCall 1 m_is_fraction (mCons (mVar 5) mNil)) (mC (.bl false))) (m2 (mIs false) (mCall 1 m_is_fraction (mCons (mTup (mCons (m2 mIx (mVar 3) (mC (.int 0))) (mCons (m1 mNeg (m2 mIx (mVar 3) (mC (.int 1)))) mNil))) mNil)) (mC (.bl false)))))))))))))
abbrev s__law_sums_right : Stmt := top 24
theorem sc__law_sums_right : FnScope ["_law_state", "_law_some", "_law_turn", "_law_total", "_law_shown", "_law_number", "_law_divisor", "_law_one", "_law_other", "_law_left", "_law_right"] ["_law_state"] (defScope s__law_sums_right) := ⟨rfl, rfl, rfl, by decide +kernel, rfl, by decide +kernel, by decide +kernel⟩
def m__law_sums_right : MFn := mDef ["_law_state", "_law_some", "_law_turn", "_law_total", "_law_shown", "_law_number", "_law_divisor", "_law_one", "_law_other", "_law_left", "_law_right"] ((mSeq (mSet 1 (mLst mNil))
    (mSeq (mFor (mRng (mCons (mCall 2 m__law_draw (mCons (mVar 0) (mCons (mC (.int 6)) mNil))) mNil)) (mGn 2) (mExpr (mApp (mVar 1) (mCall 2 m__law_fraction (mCons (mCall 1 m__law_whole (mCons (mVar 0) mNil)) (mCons (m2 mAdd (mC (.int 1)) (mCall 2 m__law_draw (mCons (mVar 0) (mCons (mC (.int 420)) mNil)))) mNil))))))
    (mSeq (mPar 3 4 (mCons (mTup (mCons (mC (.int 0)) (mCons (mC (.int 1)) mNil))) (mCons (mB mReprE (mCons (mVar 1) mNil)) mNil)))
    (mSeq (mFor (mSrc (mVar 1)) (mGtup 2 (mGcons (mGn 5) (mGcons (mGn 6) mGnil))) (mSet 3 (mCall 2 m__law_fraction (mCons (m2 mAdd (m2 mMul (m2 mIx (mVar 3) (mC (.int 0))) (mVar 6)) (m2 mMul (mVar 5) (m2 mIx (mVar 3) (mC (.int 1))))) (mCons (m2 mMul (m2 mIx (mVar 3) (mC (.int 1))) (mVar 6)) mNil)))))
    (mSeq (mIfS (mOrT (mT (m2 (mEq true) (mCall 1 m_total_of (mCons (mVar 1) mNil)) (mVar 3))) (mOrT (mT (m2 (mEq true) (mB mReprE (mCons (mVar 1) mNil)) (mVar 4))) (mT (m2 (mEq true) (mCall 1 m_total_of (mCons (mRev (mVar 1)) mNil)) (mVar 3))))) (mRet (mC (.bl false))) mNext)
    (mSeq (mFor (mSrc (mVar 1)) (mGn 7) (mFor (mSrc (mVar 1)) (mGn 8) (mSeq (mPar 9 10 (mCons (m2 mMul (m2 mIx (mVar 7) (mC (.int 0))) (m2 mIx (mVar 8) (mC (.int 1)))) (mCons (m2 mMul (m2 mIx (mVar 8) (mC (.int 0))) (m2 mIx (mVar 7) (mC (.int 1)))) mNil)))
    (mSeq (mIfS (mT (m2 (mEq true) (mB mReprE (mCons (mCall 2 m_compared (mCons (mVar 7) (mCons (mVar 8) mNil))) mNil)) (mB mStrI (mCons (m2 mSub (mB mInt (mCons (m2 mGt (mVar 9) (mVar 10)) mNil)) (mB mInt (mCons (m2 mLt (mVar 9) (mVar 10)) mNil))) mNil)))) (mRet (mC (.bl false))) mNext)
    (mIfS (mT (m2 (mEq true) (mCall 2 m_middle (mCons (mVar 7) (mCons (mVar 8) mNil))) (mCall 2 m__law_fraction (mCons (m2 mAdd (mVar 9) (mVar 10)) (mCons (m2 mMul (m2 mMul (mC (.int 2)) (m2 mIx (mVar 7) (mC (.int 1)))) (m2 mIx (mVar 8) (mC (.int 1)))) mNil))))) (mRet (mC (.bl false))) mNext)))))
    (mRet (mC (.bl true))))))))))
abbrev s__law_odd_right : Stmt := top 25
theorem sc__law_odd_right : FnScope ["_law_some", "_law_odd", "_law_due", "_law_told"] [] (defScope s__law_odd_right) := ⟨rfl, rfl, rfl, by decide +kernel, rfl, by decide +kernel, by decide +kernel⟩
def m__law_odd_right : MFn := mDef ["_law_some", "_law_odd", "_law_due", "_law_told"] ((mSeq (mSet 0 (mLst (mCons (mC .non) (mCons (mC (.bl true)) (mCons (mC (.str ("1" : Str))) (mCons (mTup (mCons (mC (.int 1)) (mCons (mC (.int 0)) mNil))) (mCons (mTup (mCons (mC (.int 2)) (mCons (mC (.int 4)) mNil))) (mCons (mTup (mCons (mC (.int 0)) (mCons (mC (.int 2)) mNil))) (mCons (mTup (mCons (mC (.int 1)) (mCons (m1 mNeg (mC (.int 2))) mNil))) (mCons (mLst (mCons (mC (.int 1)) (mCons (mC (.int 2)) mNil))) (mCons (mTup (mCons (mC (.int 1)) mNil)) (mCons (mTup (mCons (mC (.int 1)) (mCons (mC (.int 2)) (mCons (mC (.int 3)) mNil)))) (mCons (mTup (mCons (mC (.bl true)) (mCons (mC (.int 1)) mNil))) (mCons (mTup (mCons (mC (.int 1)) (mCons (mC (.bl true)) mNil))) (mCons (mC (.int 5)) mNil)))))))))))))))
    (mSeq (mFor (mSrc (m2 mAdd (mVar 0) (mLst (mCons (mTup (mCons (mC .non) (mCons (mC (.int 1)) mNil))) (mCons (mTup (mCons (mC (.str ("1" : Str))) (mCons (mC (.int 2)) mNil))) (mCons (mTup (mCons (mTup (mCons (mC (.int 1)) (mCons (mC (.int 2)) mNil))) (mCons (mC (.int 1)) mNil))) (mCons (fun _ h => mNew (.dic []) h) (mCons (mTup mNil) mNil)))))))) (mGn 1) (mSeq (mSet 2 (mLst (mCons (mC (.str ("number" : Str))) (mCons (mB mReprE (mCons (mVar 1) mNil)) (mCons (mC (.bl true)) mNil)))))
    (mSeq (mIfS (mT (m2 (mIs true) (mCall 1 m_is_fraction (mCons (mVar 1) mNil)) (mC (.bl false)))) (mRet (mC (.bl false))) mNext)
    (mSeq (mSet 3 (mLst (mCons (mHeard (exmC ["InvalidNumber"]) su_heard (mCall 2 m_compared (mCons (mVar 1) (mCons (mC .non) mNil)))) mNil)))
    (mSeq (mExpr (mApp (mVar 3) (mHeard (exmC ["InvalidNumber"]) su_heard (mCall 2 m_compared (mCons (mTup (mCons (mC (.int 1)) (mCons (mC (.int 2)) mNil))) (mCons (mVar 1) mNil))))))
    (mSeq (mExpr (mApp (mVar 3) (mHeard (exmC ["InvalidNumber"]) su_heard (mCall 2 m_middle (mCons (mVar 1) (mCons (mC .non) mNil))))))
    (mSeq (mExpr (mApp (mVar 3) (mHeard (exmC ["InvalidNumber"]) su_heard (mCall 2 m_middle (mCons (mTup (mCons (mC (.int 1)) (mCons (mC (.int 2)) mNil))) (mCons (mVar 1) mNil))))))
    (mIfS (mT (m2 (mEq true) (m2 mAdd (mVar 3) (mLst (mCons (mHeard (exmC ["InvalidNumber"]) su_heard (mCall 1 m_total_of (mCons (mLst (mCons (mTup (mCons (mC (.int 1)) (mCons (mC (.int 2)) mNil))) (mCons (mVar 1) (mCons (mC .non) mNil)))) mNil))) mNil))) (m2 mMul (mLst (mCons (mVar 2) mNil)) (mC (.int 5))))) (mRet (mC (.bl false))) mNext))))))))
    (mSeq (mFor (mSrc (mLst (mCons (mC .non) (mCons (mTup (mCons (mTup (mCons (mC (.int 1)) (mCons (mC (.int 2)) mNil))) mNil)) (mCons (mC (.str ("" : Str))) (mCons (mC (.int 5)) (mCons (mTup (mCons (mC (.int 1)) (mCons (mC (.int 2)) mNil))) (mCons (fun _ h => mNew (.dic []) h) mNil)))))))) (mGn 1) (mIfS (mT (m2 (mEq true) (mHeard (exmC ["InvalidNumber"]) su_heard (mCall 1 m_total_of (mCons (mVar 1) mNil))) (mLst (mCons (mC (.str ("number" : Str))) (mCons (mB mReprE (mCons (mVar 1) mNil)) (mCons (mC (.bl true)) mNil)))))) (mRet (mC (.bl false))) mNext))
    (mSeq (mFor (mSrc (mLst (mCons (mC .non) (mCons (mC (.bl true)) (mCons (mC (.str ("1" : Str))) (mCons (mTup (mCons (mC (.int 1)) (mCons (mC (.int 1)) mNil))) (mCons (mLst mNil) mNil))))))) (mGn 1) (mSeq (mIfS (mT (m2 (mEq true) (mHeard (exmC ["InvalidNumber"]) su_heard (mCall 2 m_fraction (mCons (mVar 1) (mCons (mC .non) mNil)))) (mLst (mCons (mC (.str ("number" : Str))) (mCons (mB mReprE (mCons (mVar 1) mNil)) (mCons (mC (.bl true)) mNil)))))) (mRet (mC (.bl false))) mNext)
    (mIfS (mT (m2 (mEq true) (mHeard (exmC ["InvalidNumber"]) su_heard (mCall 2 m_fraction (mCons (mC (.int 7)) (mCons (mVar 1) mNil)))) (mLst (mCons (mC (.str ("number" : Str))) (mCons (mB mReprE (mCons (mVar 1) mNil)) (mCons (mC (.bl true)) mNil)))))) (mRet (mC (.bl false))) mNext)))
    (mSeq (mIfS (mT (m2 (mEq true) (mCall 1 m_total_of (mCons (mLst (mCons (mTup (mCons (mC (.int 1)) (mCons (mC (.int 2)) mNil))) (mCons (mTup (mCons (mC (.int 1)) (mCons (mC (.int 2)) mNil))) (mCons (mTup (mCons (m1 mNeg (mC (.int 1))) (mCons (mC (.int 3)) mNil))) (mCons (mTup (mCons (mC (.int 1)) (mCons (mC (.int 2)) mNil))) mNil))))) mNil)) (mTup (mCons (mC (.int 7)) (mCons (mC (.int 6)) mNil))))) (mRet (mC (.bl false))) mNext)
    (mRet (mAndV (m2 (mEq false) (mCall 1 m_total_of (mCons (mLst mNil) mNil)) (mTup (mCons (mC (.int 0)) (mCons (mC (.int 1)) mNil)))) (m2 (mEq false) (mCall 2 m_fraction (mCons (mC (.int 0)) (mCons (m1 mNeg (mC (.int 5))) mNil))) (mTup (mCons (mC (.int 0)) (mCons (mC (.int 1)) mNil))))))))))))
abbrev s_law : Stmt := top 26
theorem sc_law : FnScope ["_law_script", "_law_k", "_law_cell", "_law_state", "_law_turn"] ["_law_script"] (defScope s_law) := ⟨rfl, rfl, rfl, by decide +kernel, rfl, by decide +kernel, by decide +kernel⟩
def m_law : MFn := mDef ["_law_script", "_law_k", "_law_cell", "_law_state", "_law_turn"] ((mSeq (mFor (mEnum (mCons (m2 mAdd (mSl (mVar 0) (mPart none) (mPart (some (mC (.int 5))))) (m2 mMul (mLst (mCons (mC (.int 7)) mNil)) (mB mInt (mCons (m2 (mEq false) (mVar 0) (mLst mNil)) mNil)))) mNil)) (mGtup 2 (mGcons (mGn 1) (mGcons (mGn 2) mGnil))) (mSeq (mSet 3 (mLst (mCons (mCall 3 m__law_numbers (mCons (mVar 2) (mCons (m2 mAdd (mC (.int 200)) (mVar 1)) (mCons (m2 mMul (mLst (mCons (mC (.int 420)) mNil)) (mC (.int 120))) mNil)))) (mCons (mC (.int 0)) mNil))))
    (mSeq (mIfS (mT (m2 (mEq true) (mLc (mRng (mCons (mC (.int 6)) mNil)) 4 (mNotT (mT (mCall 1 m__law_one_right (mCons (mVar 3) mNil)))) (mVar 4)) (mLst mNil))) (mRet (mC (.bl false))) mNext)
    (mIfS (mOrT (mNotT (mT (mCall 1 m__law_sums_right (mCons (mVar 3) mNil)))) (mNotT (mT (mFresh m__law_odd_right)))) (mRet (mC (.bl false))) mNext))))
    (mRet (mC (.bl true)))))
structure Gx (P : Program) (w : World) (K : PySem.W.Frag) (mg : Str → Option Value) (base : Heap) where
  c : Cs
  f_is_whole : Addr
  d_is_whole : FuncData
  F_is_whole : Fun K "is_whole" "is_whole" s_is_whole f_is_whole d_is_whole
  g_is_whole : mg "is_whole" = some (.ref f_is_whole)
  n_is_whole : Binds K d_is_whole ["value"] []
  k_is_whole : PySem.W.keepIn K (.ref f_is_whole) = true
  f_is_whole_pair : Addr
  d_is_whole_pair : FuncData
  F_is_whole_pair : Fun K "is_whole_pair" "is_whole_pair" s_is_whole_pair f_is_whole_pair d_is_whole_pair
  g_is_whole_pair : mg "is_whole_pair" = some (.ref f_is_whole_pair)
  n_is_whole_pair : Binds K d_is_whole_pair ["value"] []
  k_is_whole_pair : PySem.W.keepIn K (.ref f_is_whole_pair) = true
  f_sign_of : Addr
  d_sign_of : FuncData
  F_sign_of : Fun K "sign_of" "sign_of" s_sign_of f_sign_of d_sign_of
  g_sign_of : mg "sign_of" = some (.ref f_sign_of)
  n_sign_of : Binds K d_sign_of ["number"] []
  k_sign_of : PySem.W.keepIn K (.ref f_sign_of) = true
  f_common_divisor : Addr
  d_common_divisor : FuncData
  F_common_divisor : Fun K "common_divisor" "common_divisor" s_common_divisor f_common_divisor d_common_divisor
  g_common_divisor : mg "common_divisor" = some (.ref f_common_divisor)
  n_common_divisor : Binds K d_common_divisor ["one", "other"] []
  k_common_divisor : PySem.W.keepIn K (.ref f_common_divisor) = true
  f_is_fraction : Addr
  d_is_fraction : FuncData
  F_is_fraction : Fun K "is_fraction" "is_fraction" s_is_fraction f_is_fraction d_is_fraction
  g_is_fraction : mg "is_fraction" = some (.ref f_is_fraction)
  n_is_fraction : Binds K d_is_fraction ["value"] []
  k_is_fraction : PySem.W.keepIn K (.ref f_is_fraction) = true
  f_require_fraction : Addr
  d_require_fraction : FuncData
  F_require_fraction : Fun K "require_fraction" "require_fraction" s_require_fraction f_require_fraction d_require_fraction
  g_require_fraction : mg "require_fraction" = some (.ref f_require_fraction)
  n_require_fraction : Binds K d_require_fraction ["value"] []
  k_require_fraction : PySem.W.keepIn K (.ref f_require_fraction) = true
  f_fraction : Addr
  d_fraction : FuncData
  F_fraction : Fun K "fraction" "fraction" s_fraction f_fraction d_fraction
  g_fraction : mg "fraction" = some (.ref f_fraction)
  n_fraction : Binds K d_fraction ["number", "divisor"] []
  k_fraction : PySem.W.keepIn K (.ref f_fraction) = true
  f_order_of : Addr
  d_order_of : FuncData
  F_order_of : Fun K "order_of" "order_of" s_order_of f_order_of d_order_of
  g_order_of : mg "order_of" = some (.ref f_order_of)
  n_order_of : Binds K d_order_of ["one", "other"] []
  k_order_of : PySem.W.keepIn K (.ref f_order_of) = true
  f_compared : Addr
  d_compared : FuncData
  F_compared : Fun K "compared" "compared" s_compared f_compared d_compared
  g_compared : mg "compared" = some (.ref f_compared)
  n_compared : Binds K d_compared ["one", "other"] []
  k_compared : PySem.W.keepIn K (.ref f_compared) = true
  f_sum_of_two : Addr
  d_sum_of_two : FuncData
  F_sum_of_two : Fun K "sum_of_two" "sum_of_two" s_sum_of_two f_sum_of_two d_sum_of_two
  g_sum_of_two : mg "sum_of_two" = some (.ref f_sum_of_two)
  n_sum_of_two : Binds K d_sum_of_two ["total", "each"] []
  k_sum_of_two : PySem.W.keepIn K (.ref f_sum_of_two) = true
  f_total_of : Addr
  d_total_of : FuncData
  F_total_of : Fun K "total_of" "total_of" s_total_of f_total_of d_total_of
  g_total_of : mg "total_of" = some (.ref f_total_of)
  n_total_of : Binds K d_total_of ["some"] []
  k_total_of : PySem.W.keepIn K (.ref f_total_of) = true
  f_middle : Addr
  d_middle : FuncData
  F_middle : Fun K "middle" "middle" s_middle f_middle d_middle
  g_middle : mg "middle" = some (.ref f_middle)
  n_middle : Binds K d_middle ["low", "high"] []
  k_middle : PySem.W.keepIn K (.ref f_middle) = true
  f__law_numbers : Addr
  d__law_numbers : FuncData
  F__law_numbers : Fun K "_law_numbers" "_law_numbers" s__law_numbers f__law_numbers d__law_numbers
  g__law_numbers : mg "_law_numbers" = some (.ref f__law_numbers)
  n__law_numbers : Binds K d__law_numbers ["_law_cell", "_law_salt", "_law_sizes"] []
  k__law_numbers : PySem.W.keepIn K (.ref f__law_numbers) = true
  f__law_draw : Addr
  d__law_draw : FuncData
  F__law_draw : Fun K "_law_draw" "_law_draw" s__law_draw f__law_draw d__law_draw
  g__law_draw : mg "_law_draw" = some (.ref f__law_draw)
  n__law_draw : Binds K d__law_draw ["_law_state", "_law_many"] []
  k__law_draw : PySem.W.keepIn K (.ref f__law_draw) = true
  f__law_fraction : Addr
  d__law_fraction : FuncData
  F__law_fraction : Fun K "_law_fraction" "_law_fraction" s__law_fraction f__law_fraction d__law_fraction
  g__law_fraction : mg "_law_fraction" = some (.ref f__law_fraction)
  n__law_fraction : Binds K d__law_fraction ["_law_number", "_law_divisor"] []
  k__law_fraction : PySem.W.keepIn K (.ref f__law_fraction) = true
  f__law_whole : Addr
  d__law_whole : FuncData
  F__law_whole : Fun K "_law_whole" "_law_whole" s__law_whole f__law_whole d__law_whole
  g__law_whole : mg "_law_whole" = some (.ref f__law_whole)
  n__law_whole : Binds K d__law_whole ["_law_state"] []
  k__law_whole : PySem.W.keepIn K (.ref f__law_whole) = true
  f__law_heard : Addr
  d__law_heard : FuncData
  F__law_heard : Fun K "_law_heard" "_law_heard" s__law_heard f__law_heard d__law_heard
  g__law_heard : mg "_law_heard" = some (.ref f__law_heard)
  n__law_heard : Binds K d__law_heard ["_law_call"] []
  k__law_heard : PySem.W.keepIn K (.ref f__law_heard) = true
  f__law_one_right : Addr
  d__law_one_right : FuncData
  F__law_one_right : Fun K "_law_one_right" "_law_one_right" s__law_one_right f__law_one_right d__law_one_right
  g__law_one_right : mg "_law_one_right" = some (.ref f__law_one_right)
  n__law_one_right : Binds K d__law_one_right ["_law_state"] []
  k__law_one_right : PySem.W.keepIn K (.ref f__law_one_right) = true
  f__law_sums_right : Addr
  d__law_sums_right : FuncData
  F__law_sums_right : Fun K "_law_sums_right" "_law_sums_right" s__law_sums_right f__law_sums_right d__law_sums_right
  g__law_sums_right : mg "_law_sums_right" = some (.ref f__law_sums_right)
  n__law_sums_right : Binds K d__law_sums_right ["_law_state"] []
  k__law_sums_right : PySem.W.keepIn K (.ref f__law_sums_right) = true
  f__law_odd_right : Addr
  d__law_odd_right : FuncData
  F__law_odd_right : Fun K "_law_odd_right" "_law_odd_right" s__law_odd_right f__law_odd_right d__law_odd_right
  g__law_odd_right : mg "_law_odd_right" = some (.ref f__law_odd_right)
  n__law_odd_right : Binds K d__law_odd_right [] []
  k__law_odd_right : PySem.W.keepIn K (.ref f__law_odd_right) = true
  f_law : Addr
  d_law : FuncData
  F_law : Fun K "law" "law" s_law f_law d_law
  g_law : mg "law" = some (.ref f_law)
  n_law : Binds K d_law ["_law_script"] []
  k_law : PySem.W.keepIn K (.ref f_law) = true
  b_ValueError : mg "ValueError" = none
  b_abs : mg "abs" = none
  b_bool : mg "bool" = none
  b_enumerate : mg "enumerate" = none
  b_int : mg "int" = none
  b_isinstance : mg "isinstance" = none
  b_len : mg "len" = none
  b_list : mg "list" = none
  b_max : mg "max" = none
  b_range : mg "range" = none
  b_repr : mg "repr" = none
  b_str : mg "str" = none
  b_tuple : mg "tuple" = none
  e_InvalidNumber : ErrC P w K mg base "InvalidNumber" "value" c.InvalidNumber
  xf_InvalidNumber : XfC K c.InvalidNumber
  no_InvalidNumber : PySem.W.findIn K (.ref c.InvalidNumber) "value" = some none
  te_InvalidNumber : PySem.W.exmOne K (.ref c.InvalidNumber) (.ref c.InvalidNumber) = some true
  xc_InvalidNumber : ExcC K c.InvalidNumber
  kTimesError : Addr
  m_TimesError : mg "TimesError" = some (.ref kTimesError)
  ki_ValueError : PySem.W.kitOne K (.ref c.InvalidNumber) (.type "ValueError") = some true
  ki_TimesError : PySem.W.kitOne K (.ref c.InvalidNumber) (.ref kTimesError) = some false
  cO_law_one_right : Addr
  pO_law_one_right : Addr
  FC_law_one_right : FunC K "_law_one_right" "_law_one_right" s__law_one_right f__law_one_right d__law_one_right (.ref cO_law_one_right)
  TB_law_one_right : LamX.TabB base mg cO_law_one_right pO_law_one_right
  cO_law_odd_right : Addr
  pO_law_odd_right : Addr
  FC_law_odd_right : FunC K "_law_odd_right" "_law_odd_right" s__law_odd_right f__law_odd_right d__law_odd_right (.ref cO_law_odd_right)
  TB_law_odd_right : LamX.TabB base mg cO_law_odd_right pO_law_odd_right
  ne_law_one_right_law_odd_right : pO_law_one_right ≠ pO_law_odd_right
def lamq_law_one_right : Str := (PyProof.Rows.envOfC "_law_one_right" (defScope s__law_one_right) 0 0 .none).qual ++ "<lambda>"
def lamq_law_odd_right : Str := (PyProof.Rows.envOfC "_law_odd_right" (defScope s__law_odd_right) 0 0 .none).qual ++ "<lambda>"
section
variable {P : Program} {w : World} {K : PySem.W.Frag}
  {mg : Str → Option Value} {base : Heap}
abbrev cvOf (c : Cs) : String → Value := fun n => if n = "InvalidNumber" then .ref c.InvalidNumber else .none
abbrev Gx.T (G : Gx P w K mg base) : Tx := Tx.plain [(G.pO_law_one_right, lamq_law_one_right), (G.pO_law_odd_right, lamq_law_odd_right)] (cvOf G.c)
theorem Gx.v_InvalidNumber (G : Gx P w K mg base) : G.T.cv "InvalidNumber" = .ref G.c.InvalidNumber := by simp [Tx.plain, cvOf]
theorem ok_is_whole (G : Gx P w K mg base) : FnOk P w K mg base (L2.CX P w) 2 G.f_is_whole G.d_is_whole ["value"] (spV G.T 1 m_is_whole) := fn_def G.F_is_whole sc_is_whole (fun cdv A outer s H E hr => by
  have hu := hr.units
  have S := sc_is_whole
  exact (sss_one (ss_ret (se_and (se_b call_isi rc_isi rfl G.b_isinstance (by decide +kernel) (sa_cons (se_var 0) (sa_cons (se_ty rfl G.b_int (by decide +kernel)) sa_nil))) (se_one (se_not (se_b call_isi rc_isi rfl G.b_isinstance (by decide +kernel) (sa_cons (se_var 0) (sa_cons (se_ty rfl G.b_bool (by decide +kernel)) sa_nil)))))))))
theorem ok_is_whole_pair (G : Gx P w K mg base) : FnOk P w K mg base (L2.CX P w) 3 G.f_is_whole_pair G.d_is_whole_pair ["value"] (spV G.T 1 m_is_whole_pair) := fn_def G.F_is_whole_pair sc_is_whole_pair (fun cdv A outer s H E hr => by
  have hu := hr.units
  have S := sc_is_whole_pair
  exact (sss_cons (ss_if (st_w (sw_or (st_not (st_val (se_b call_isi rc_isi rfl G.b_isinstance (by decide +kernel) (sa_cons (se_var 0) (sa_cons (se_ty rfl G.b_tuple (by decide +kernel)) sa_nil))))) (sw_or1 (st_cmp (op_neD hu) ro_ne (se_b call_len rc_len rfl G.b_len PySem.boot_len (sa_cons (se_var 0) sa_nil)) se_int (nomark _))))) (sss_one (ss_ret se_bl)) sss_nil)
    (sss_one (ss_ret (se_and (se_call (can_ok (ok_is_whole G) (hr.mono (by decide)) G.n_is_whole) rfl G.g_is_whole G.k_is_whole (sa_cons (se_ix (se_var 0) se_int) sa_nil)) (se_one (se_call (can_ok (ok_is_whole G) (hr.mono (by decide)) G.n_is_whole) rfl G.g_is_whole G.k_is_whole (sa_cons (se_ix (se_var 0) se_int) sa_nil))))))))
theorem ok_sign_of (G : Gx P w K mg base) : FnOk P w K mg base (L2.CX P w) 2 G.f_sign_of G.d_sign_of ["number"] (spV G.T 1 m_sign_of) := fn_def G.F_sign_of sc_sign_of (fun cdv A outer s H E hr => by
  have hu := hr.units
  have S := sc_sign_of
  exact (sss_cons (ss_if (st_cmp op_lt ro_lt (se_var 0) se_int (nomark _)) (sss_one (ss_ret (se_neg se_int))) sss_nil)
    (sss_cons (ss_if (st_cmp op_gt ro_gt (se_var 0) se_int (nomark _)) (sss_one (ss_ret se_int)) sss_nil)
    (sss_one (ss_ret se_int)))))
theorem ok_common_divisor (G : Gx P w K mg base) : FnOk P w K mg base (L2.CX P w) 2 G.f_common_divisor G.d_common_divisor ["one", "other"] (spV G.T 2 m_common_divisor) := fn_def G.F_common_divisor sc_common_divisor (fun cdv A outer s H E hr => by
  have hu := hr.units
  have S := sc_common_divisor
  exact (sss_cons (ss_while fuel_common_divisor (st_cmp (op_neD hu) ro_ne (se_var 1) se_int (nomark _)) (sss_one (ss_par 0 1 S.nd (sa_cons (se_var 1) (sa_cons (se_op op_modN ro_mod (se_var 0) (se_var 1)) sa_nil)))))
    (sss_one (ss_ret (se_b call_abs rc_abs rfl G.b_abs (by decide +kernel) (sa_cons (se_var 0) sa_nil))))))
theorem ok_is_fraction (G : Gx P w K mg base) : FnOk P w K mg base (L2.CX P w) 4 G.f_is_fraction G.d_is_fraction ["value"] (spV G.T 1 m_is_fraction) := fn_def G.F_is_fraction sc_is_fraction (fun cdv A outer s H E hr => by
  have hu := hr.units
  have S := sc_is_fraction
  exact (sss_one (ss_ret (se_and (se_call (can_ok (ok_is_whole_pair G) (hr.mono (by decide)) G.n_is_whole_pair) rfl G.g_is_whole_pair G.k_is_whole_pair (sa_cons (se_var 0) sa_nil)) (se_and (se_cmp op_ge ro_ge (se_ix (se_var 0) se_int) se_int (nomark _)) (se_one (se_cmp (op_eqD hu) ro_eq (se_call (can_ok (ok_common_divisor G) (hr.mono (by decide)) G.n_common_divisor) rfl G.g_common_divisor G.k_common_divisor (sa_cons (se_ix (se_var 0) se_int) (sa_cons (se_ix (se_var 0) se_int) sa_nil))) se_int (nomark _))))))))
theorem ok_require_fraction (G : Gx P w K mg base) : FnOk P w K mg base (L2.CX P w) 5 G.f_require_fraction G.d_require_fraction ["value"] (spV G.T 1 m_require_fraction) := fn_def G.F_require_fraction sc_require_fraction (fun cdv A outer s H E hr => by
  have hu := hr.units
  have S := sc_require_fraction
  exact (sss_one (ss_if (st_not (st_val (se_call (can_ok (ok_is_fraction G) (hr.mono (by decide)) G.n_is_fraction) rfl G.g_is_fraction G.k_is_fraction (sa_cons (se_var 0) sa_nil)))) (sss_one (ss_raise G.e_InvalidNumber G.v_InvalidNumber (hr.mono (by decide)) rfl (sa_cons (se_var 0) sa_nil))) sss_nil)))
theorem ok_fraction (G : Gx P w K mg base) : FnOk P w K mg base (L2.CX P w) 3 G.f_fraction G.d_fraction ["number", "divisor"] (spV G.T 2 m_fraction) := fn_def G.F_fraction sc_fraction (fun cdv A outer s H E hr => by
  have hu := hr.units
  have S := sc_fraction
  exact (sss_cons (ss_if (st_not (st_val (se_call (can_ok (ok_is_whole G) (hr.mono (by decide)) G.n_is_whole) rfl G.g_is_whole G.k_is_whole (sa_cons (se_var 0) sa_nil)))) (sss_one (ss_raise G.e_InvalidNumber G.v_InvalidNumber (hr.mono (by decide)) rfl (sa_cons (se_var 0) sa_nil))) sss_nil)
    (sss_cons (ss_if (st_w (sw_or (st_not (st_val (se_call (can_ok (ok_is_whole G) (hr.mono (by decide)) G.n_is_whole) rfl G.g_is_whole G.k_is_whole (sa_cons (se_var 1) sa_nil)))) (sw_or1 (st_cmp (op_eqD hu) ro_eq (se_var 1) se_int (nomark _))))) (sss_one (ss_raise G.e_InvalidNumber G.v_InvalidNumber (hr.mono (by decide)) rfl (sa_cons (se_var 1) sa_nil))) sss_nil)
    (sss_cons (ss_set 2 S.nd (se_call (can_ok (ok_common_divisor G) (hr.mono (by decide)) G.n_common_divisor) rfl G.g_common_divisor G.k_common_divisor (sa_cons (se_var 0) (sa_cons (se_var 1) sa_nil))))
    (sss_cons (ss_if (st_cmp op_lt ro_lt (se_var 1) se_int (nomark _)) (sss_one (ss_set 2 S.nd (se_neg (se_var 2)))) sss_nil)
    (sss_one (ss_ret (se_tup (sa_cons (se_op op_fdivG ro_div (se_var 0) (se_var 2)) (sa_cons (se_op op_fdivG ro_div (se_var 1) (se_var 2)) sa_nil))))))))))
theorem ok_order_of (G : Gx P w K mg base) : FnOk P w K mg base (L2.CX P w) 3 G.f_order_of G.d_order_of ["one", "other"] (spV G.T 2 m_order_of) := fn_def G.F_order_of sc_order_of (fun cdv A outer s H E hr => by
  have hu := hr.units
  have S := sc_order_of
  exact (sss_one (ss_ret (se_call (can_ok (ok_sign_of G) (hr.mono (by decide)) G.n_sign_of) rfl G.g_sign_of G.k_sign_of (sa_cons (se_op op_sub ro_sub (se_op op_mulA ro_mul (se_ix (se_var 0) se_int) (se_ix (se_var 1) se_int)) (se_op op_mulA ro_mul (se_ix (se_var 1) se_int) (se_ix (se_var 0) se_int))) sa_nil)))))
theorem ok_compared (G : Gx P w K mg base) : FnOk P w K mg base (L2.CX P w) 6 G.f_compared G.d_compared ["one", "other"] (spV G.T 2 m_compared) := fn_def G.F_compared sc_compared (fun cdv A outer s H E hr => by
  have hu := hr.units
  have S := sc_compared
  exact (sss_cons (ss_expr (se_call (can_ok (ok_require_fraction G) (hr.mono (by decide)) G.n_require_fraction) rfl G.g_require_fraction G.k_require_fraction (sa_cons (se_var 0) sa_nil)))
    (sss_cons (ss_expr (se_call (can_ok (ok_require_fraction G) (hr.mono (by decide)) G.n_require_fraction) rfl G.g_require_fraction G.k_require_fraction (sa_cons (se_var 1) sa_nil)))
    (sss_one (ss_ret (se_call (can_ok (ok_order_of G) (hr.mono (by decide)) G.n_order_of) rfl G.g_order_of G.k_order_of (sa_cons (se_var 0) (sa_cons (se_var 1) sa_nil))))))))
theorem ok_sum_of_two (G : Gx P w K mg base) : FnOk P w K mg base (L2.CX P w) 3 G.f_sum_of_two G.d_sum_of_two ["total", "each"] (spV G.T 2 m_sum_of_two) := fn_def G.F_sum_of_two sc_sum_of_two (fun cdv A outer s H E hr => by
  have hu := hr.units
  have S := sc_sum_of_two
  exact (sss_cons (ss_set 2 S.nd (se_call (can_ok (ok_common_divisor G) (hr.mono (by decide)) G.n_common_divisor) rfl G.g_common_divisor G.k_common_divisor (sa_cons (se_ix (se_var 0) se_int) (sa_cons (se_ix (se_var 1) se_int) sa_nil))))
    (sss_cons (ss_set 3 S.nd (se_op op_addA ro_add (se_op op_mulA ro_mul (se_ix (se_var 0) se_int) (se_op op_fdivG ro_div (se_ix (se_var 1) se_int) (se_var 2))) (se_op op_mulA ro_mul (se_ix (se_var 1) se_int) (se_op op_fdivG ro_div (se_ix (se_var 0) se_int) (se_var 2)))))
    (sss_cons (ss_set 4 S.nd (se_call (can_ok (ok_common_divisor G) (hr.mono (by decide)) G.n_common_divisor) rfl G.g_common_divisor G.k_common_divisor (sa_cons (se_var 3) (sa_cons (se_var 2) sa_nil))))
    (sss_one (ss_ret (se_tup (sa_cons (se_op op_fdivG ro_div (se_var 3) (se_var 4)) (sa_cons (se_op op_mulA ro_mul (se_op op_fdivG ro_div (se_ix (se_var 0) se_int) (se_var 2)) (se_op op_fdivG ro_div (se_ix (se_var 1) se_int) (se_var 4))) sa_nil)))))))))
theorem ok_total_of (G : Gx P w K mg base) : FnOk P w K mg base (L2.CX P w) 6 G.f_total_of G.d_total_of ["some"] (spV G.T 1 m_total_of) := fn_def G.F_total_of sc_total_of (fun cdv A outer s H E hr => by
  have hu := hr.units
  have S := sc_total_of
  exact (sss_cons (ss_if (st_not (st_val (se_b call_isi rc_isi rfl G.b_isinstance (by decide +kernel) (sa_cons (se_var 0) (sa_cons (se_ty rfl G.b_list (by decide +kernel)) sa_nil))))) (sss_one (ss_raise G.e_InvalidNumber G.v_InvalidNumber (hr.mono (by decide)) rfl (sa_cons (se_var 0) sa_nil))) sss_nil)
    (sss_cons (ss_set 1 S.nd (se_tup (sa_cons se_int (sa_cons se_int sa_nil))))
    (sss_cons (ss_for (si_seq (se_var 0)) (sg_name 2 S.nd) (sss_cons (ss_expr (se_call (can_ok (ok_require_fraction G) (hr.mono (by decide)) G.n_require_fraction) rfl G.g_require_fraction G.k_require_fraction (sa_cons (se_var 2) sa_nil)))
    (sss_one (ss_set 1 S.nd (se_call (can_ok (ok_sum_of_two G) (hr.mono (by decide)) G.n_sum_of_two) rfl G.g_sum_of_two G.k_sum_of_two (sa_cons (se_var 1) (sa_cons (se_var 2) sa_nil)))))))
    (sss_one (ss_ret (se_var 1)))))))
theorem ok_middle (G : Gx P w K mg base) : FnOk P w K mg base (L2.CX P w) 6 G.f_middle G.d_middle ["low", "high"] (spV G.T 2 m_middle) := fn_def G.F_middle sc_middle (fun cdv A outer s H E hr => by
  have hu := hr.units
  have S := sc_middle
  exact (sss_cons (ss_expr (se_call (can_ok (ok_require_fraction G) (hr.mono (by decide)) G.n_require_fraction) rfl G.g_require_fraction G.k_require_fraction (sa_cons (se_var 0) sa_nil)))
    (sss_cons (ss_expr (se_call (can_ok (ok_require_fraction G) (hr.mono (by decide)) G.n_require_fraction) rfl G.g_require_fraction G.k_require_fraction (sa_cons (se_var 1) sa_nil)))
    (sss_one (ss_ret (se_call (can_ok (ok_fraction G) (hr.mono (by decide)) G.n_fraction) rfl G.g_fraction G.k_fraction (sa_cons (se_op op_addA ro_add (se_op op_mulA ro_mul (se_ix (se_var 0) se_int) (se_ix (se_var 1) se_int)) (se_op op_mulA ro_mul (se_ix (se_var 1) se_int) (se_ix (se_var 0) se_int))) (sa_cons (se_op op_mulA ro_mul (se_op op_mulA ro_mul se_int (se_ix (se_var 0) se_int)) (se_ix (se_var 1) se_int)) sa_nil))))))))
theorem ok__law_numbers (G : Gx P w K mg base) : FnOk P w K mg base (L2.CX P w) 2 G.f__law_numbers G.d__law_numbers ["_law_cell", "_law_salt", "_law_sizes"] (spV G.T 3 m__law_numbers) := fn_def G.F__law_numbers sc__law_numbers (fun cdv A outer s H E hr => by
  have hu := hr.units
  have S := sc__law_numbers
  exact (sss_cons (ss_set 3 S.nd (se_b (call_max2 rfl) rc_max rfl G.b_max (by decide +kernel) (sa_cons (se_var 0) (sa_cons (se_op op_sub ro_sub (se_neg se_int) (se_var 0)) sa_nil))))
    (sss_cons (ss_set 4 S.nd (se_var 3))
    (sss_cons (ss_set 5 S.nd (se_lst sa_nil))
    (sss_cons (ss_for (si_range1 rfl G.b_range (sa_cons (se_b call_len rc_len rfl G.b_len PySem.boot_len (sa_cons (se_var 2) sa_nil)) sa_nil) (len_cons len_nil)) (sg_name 6 S.nd) (sss_one (ss_if (st_w (sw_and (st_cmp op_ge ro_ge (se_var 3) (se_op op_pow ro_pow se_int se_int) (nomark _)) (sw_and1 (st_cmp op_gt ro_gt (se_var 4) se_int (nomark _))))) (sss_cons (ss_expr (se_append (se_var 5) (se_op op_modN ro_mod (se_var 4) (se_ix (se_var 2) (se_var 6)))))
    (sss_one (ss_set 4 S.nd (se_op op_fdivG ro_div (se_var 4) (se_ix (se_var 2) (se_var 6)))))) (sss_cons (ss_set 7 S.nd (se_op op_modN ro_mod (se_op op_pow ro_pow (se_op op_addA ro_add (se_op op_addA ro_add (se_op op_modN ro_mod (se_var 3) se_int) (se_op op_mulA ro_mul se_int (se_var 1))) se_int) se_int) se_int))
    (sss_cons (ss_set 7 S.nd (se_op op_modN ro_mod (se_op op_mulA ro_mul (se_op op_addA ro_add (se_var 7) (se_op op_mulA ro_mul se_int (se_op op_addA ro_add (se_var 6) se_int))) (se_op op_addA ro_add (se_var 6) se_int)) se_int))
    (sss_cons (ss_set 7 S.nd (se_op op_modN ro_mod (se_op op_mulA ro_mul (se_op op_modN ro_mod (se_op op_pow ro_pow (se_var 7) se_int) se_int) se_int) se_int))
    (sss_one (ss_expr (se_append (se_var 5) (se_op op_modN ro_mod (se_op op_fdivG ro_div (se_var 7) se_int) (se_ix (se_var 2) (se_var 6))))))))))))
    (sss_one (ss_ret (se_var 5))))))))
theorem ok__law_draw (G : Gx P w K mg base) : FnOk P w K mg base (L2.CX P w) 2 G.f__law_draw G.d__law_draw ["_law_state", "_law_many"] (spV G.T 2 m__law_draw) := fn_def G.F__law_draw sc__law_draw (fun cdv A outer s H E hr => by
  have hu := hr.units
  have S := sc__law_draw
  exact (sss_cons (ss_set 2 S.nd (se_ix (se_var 0) se_int))
    (sss_cons (ss_asg (se_op op_addA ro_add (se_var 2) se_int) (sg_sub (se_var 0) se_int))
    (sss_one (ss_ret (se_if (st_cmp op_lt ro_lt (se_var 2) (se_b call_len rc_len rfl G.b_len PySem.boot_len (sa_cons (se_ix (se_var 0) se_int) sa_nil)) (nomark _)) (se_op op_modN ro_mod (se_bt call_int1 rc_int rfl G.b_int (by decide +kernel) (sa_cons (se_ix (se_ix (se_var 0) se_int) (se_var 2)) sa_nil)) (se_var 1)) se_int))))))
theorem ok__law_fraction (G : Gx P w K mg base) : FnOk P w K mg base (L2.CX P w) 2 G.f__law_fraction G.d__law_fraction ["_law_number", "_law_divisor"] (spV G.T 2 m__law_fraction) := fn_def G.F__law_fraction sc__law_fraction (fun cdv A outer s H E hr => by
  have hu := hr.units
  have S := sc__law_fraction
  exact (sss_cons (ss_par 2 3 S.nd (sa_cons (se_b (call_max2 rfl) rc_max rfl G.b_max (by decide +kernel) (sa_cons (se_var 0) (sa_cons (se_neg (se_var 0)) sa_nil))) (sa_cons (se_var 1) sa_nil)))
    (sss_cons (ss_while fuel__law_fraction (st_cmp op_gt ro_gt (se_var 2) se_int (nomark _)) (sss_one (ss_par 2 3 S.nd (sa_cons (se_op op_modN ro_mod (se_var 3) (se_var 2)) (sa_cons (se_var 2) sa_nil)))))
    (sss_one (ss_ret (se_tup (sa_cons (se_op op_fdivG ro_div (se_var 0) (se_var 3)) (sa_cons (se_op op_fdivG ro_div (se_var 1) (se_var 3)) sa_nil))))))))
theorem ok__law_whole (G : Gx P w K mg base) : FnOk P w K mg base (L2.CX P w) 3 G.f__law_whole G.d__law_whole ["_law_state"] (spV G.T 1 m__law_whole) := fn_def G.F__law_whole sc__law_whole (fun cdv A outer s H E hr => by
  have hu := hr.units
  have S := sc__law_whole
  exact (sss_cons (ss_set 1 S.nd (se_lst (sa_cons se_int (sa_cons se_int (sa_cons (se_call (can_ok (ok__law_draw G) (hr.mono (by decide)) G.n__law_draw) rfl G.g__law_draw G.k__law_draw (sa_cons (se_var 0) (sa_cons se_int sa_nil))) (sa_cons (se_op op_addA ro_add (se_op op_pow ro_pow se_int se_int) (se_call (can_ok (ok__law_draw G) (hr.mono (by decide)) G.n__law_draw) rfl G.g__law_draw G.k__law_draw (sa_cons (se_var 0) (sa_cons se_int sa_nil)))) (sa_cons (se_op op_mulA ro_mul (se_op op_pow ro_pow se_int se_int) (se_call (can_ok (ok__law_draw G) (hr.mono (by decide)) G.n__law_draw) rfl G.g__law_draw G.k__law_draw (sa_cons (se_var 0) (sa_cons se_int sa_nil)))) sa_nil)))))))
    (sss_one (ss_ret (se_op op_mulA ro_mul (se_ix (se_var 1) (se_call (can_ok (ok__law_draw G) (hr.mono (by decide)) G.n__law_draw) rfl G.g__law_draw G.k__law_draw (sa_cons (se_var 0) (sa_cons se_int sa_nil)))) (se_ix (se_lst (sa_cons se_int (sa_cons (se_neg se_int) sa_nil))) (se_call (can_ok (ok__law_draw G) (hr.mono (by decide)) G.n__law_draw) rfl G.g__law_draw G.k__law_draw (sa_cons (se_var 0) (sa_cons se_int sa_nil)))))))))
theorem su_ind (a : Addr) (j : Nat) (r : Ws) (h : Hv) (hl : 1 < r.length) : suA_heard a j (r.set 1 (some (.fix a))) h = su0_heard j r h := by
  simp only [suA_heard, su0_heard, mLst, mCons, mC, mB, mNil, Res.bind, mXfA_at hl, mIsxA_at hl, mAndV, mNotV, mT]
abbrev XO_law_one_right (G : Gx P w K mg base) (A : Around) (outer : List Env) (s : Shared) (H : Hp) (E : XK) : Cx := cxOf (L2.CX P w) P w K mg base ["_law_state", "_law_number", "_law_divisor", "_law_due", "_law_factor", "_law_wide"] "_law_one_right" (defScope s__law_one_right) G.f__law_one_right (.ref G.cO_law_one_right) A outer s H E
theorem heard__law_one_right (G : Gx P w K mg base) (A : Around) (outer : List Env) (s : Shared) (H : Hp) (E : XK) (hr : Room 8 (XO_law_one_right G A outer s H E).A) (hgd : A.guards = some []) {params : Arguments} {body : Expr} {scope : Scope} {fb : Ws → Hv → Res W} {p lpos pos : Pos}
    (L : LamX.LamS (XO_law_one_right G A outer s H E).env.scope scope) (hdef : defaultsOf params (XO_law_one_right G A outer s H E).env = ([], [])) (hbind : ∀ (q : Str) (cl : List (Str × Addr)) (pm cv ctv : Value), bindArgs (PySem.W.kla_fn "<lambda>" q params body scope cl pm cv ctv) ⟨[], []⟩ = pure [])
    (hbody : ∀ (A2 : Around) (o2 : List Env) (s2 : Shared) (H2 : Hp) (E2 : XK) (f2 c2 : Addr), Room 6 (A2.deeper (LamX.lamEnv (XO_law_one_right G A outer s H E) scope s2.heap.objs.size f2 c2)) → SE G.T (LamX.lamCx (XO_law_one_right G A outer s H E) A2 o2 s2 H2 E2 scope f2 c2) body fb) :
    SE G.T (XO_law_one_right G A outer s H E) (.Call (.Name "_law_heard" p) [.Lambda params body scope lpos] [] pos) (mHeard (exmC ["InvalidNumber"]) su_heard fb) := by
  obtain ⟨oc, od, kV, doc, pm, an, cdv, ct, osl, e, lk, hcd⟩ := G.F__law_heard.ex
  rw [e] at lk
  have hb := G.n__law_heard
  rw [e] at hb
  have hu : (XO_law_one_right G A outer s H E).A.units + 3 + 64 < cLine := by have := hr.un; omega
  refine se_heard (k := 6) (okc := fun v => v = .ref G.c.InvalidNumber) (cx := .ref G.c.InvalidNumber) (sM := fun ad j => mRet (suA_heard ad j)) (su := su_heard) (exmC_ok (by rw [G.v_InvalidNumber]; exact G.te_InvalidNumber)) (fun v e => by rw [exmC_c e]; exact G.v_InvalidNumber)
    (fun a j r h w h2 hl e => hind_ret (fA := suA_heard) (f := su0_heard) (i := 1) su_ind a j r h w h2 hl e) G.g__law_heard G.k__law_heard lk hcd hb sc__law_heard (Or.inl rfl) (fun _ _ => ⟨rfl, by decide, Or.inl G.e_InvalidNumber.mgC⟩)
    (fun s2 H2 ad oe cls dd pn j hk hz hf => sss_one (ss_ret (se_lst (sa_cons se_str (sa_cons (se_b (call_reprE hgd hu) rc_reprE rfl G.b_repr (by decide +kernel) (sa_cons (se_xf 1 G.xf_InvalidNumber G.no_InvalidNumber hz hf hk) sa_nil)) (sa_cons (se_and (se_isx 1 G.xc_InvalidNumber hz hf hk rfl G.b_isinstance (pe_bltn (v := .ty "ValueError") rfl G.b_ValueError (by decide +kernel) rfl) (fun _ r => r) G.ki_ValueError) (se_one (se_not (se_isx 1 G.xc_InvalidNumber hz hf hk rfl G.b_isinstance (pe_glob (v := .ref G.kTimesError) rfl G.m_TimesError rfl) (fun _ r => r) G.ki_TimesError)))) sa_nil)))))) rfl G.TB_law_one_right rfl List.mem_cons_self (by
      intro p hp
      simp only [Tx.plain, List.mem_cons, List.not_mem_nil, or_false] at hp
      rcases hp with rfl | rfl
      · exact (by intro _; rfl)
      · exact (fun e => absurd e (Ne.symm G.ne_law_one_right_law_odd_right))) hr L hdef hbind hbody
abbrev XO_law_odd_right (G : Gx P w K mg base) (A : Around) (outer : List Env) (s : Shared) (H : Hp) (E : XK) : Cx := cxOf (L2.CX P w) P w K mg base ["_law_some", "_law_odd", "_law_due", "_law_told"] "_law_odd_right" (defScope s__law_odd_right) G.f__law_odd_right (.ref G.cO_law_odd_right) A outer s H E
theorem heard__law_odd_right (G : Gx P w K mg base) (A : Around) (outer : List Env) (s : Shared) (H : Hp) (E : XK) (hr : Room 8 (XO_law_odd_right G A outer s H E).A) (hgd : A.guards = some []) {params : Arguments} {body : Expr} {scope : Scope} {fb : Ws → Hv → Res W} {p lpos pos : Pos}
    (L : LamX.LamS (XO_law_odd_right G A outer s H E).env.scope scope) (hdef : defaultsOf params (XO_law_odd_right G A outer s H E).env = ([], [])) (hbind : ∀ (q : Str) (cl : List (Str × Addr)) (pm cv ctv : Value), bindArgs (PySem.W.kla_fn "<lambda>" q params body scope cl pm cv ctv) ⟨[], []⟩ = pure [])
    (hbody : ∀ (A2 : Around) (o2 : List Env) (s2 : Shared) (H2 : Hp) (E2 : XK) (f2 c2 : Addr), Room 6 (A2.deeper (LamX.lamEnv (XO_law_odd_right G A outer s H E) scope s2.heap.objs.size f2 c2)) → SE G.T (LamX.lamCx (XO_law_odd_right G A outer s H E) A2 o2 s2 H2 E2 scope f2 c2) body fb) :
    SE G.T (XO_law_odd_right G A outer s H E) (.Call (.Name "_law_heard" p) [.Lambda params body scope lpos] [] pos) (mHeard (exmC ["InvalidNumber"]) su_heard fb) := by
  obtain ⟨oc, od, kV, doc, pm, an, cdv, ct, osl, e, lk, hcd⟩ := G.F__law_heard.ex
  rw [e] at lk
  have hb := G.n__law_heard
  rw [e] at hb
  have hu : (XO_law_odd_right G A outer s H E).A.units + 3 + 64 < cLine := by have := hr.un; omega
  refine se_heard (k := 6) (okc := fun v => v = .ref G.c.InvalidNumber) (cx := .ref G.c.InvalidNumber) (sM := fun ad j => mRet (suA_heard ad j)) (su := su_heard) (exmC_ok (by rw [G.v_InvalidNumber]; exact G.te_InvalidNumber)) (fun v e => by rw [exmC_c e]; exact G.v_InvalidNumber)
    (fun a j r h w h2 hl e => hind_ret (fA := suA_heard) (f := su0_heard) (i := 1) su_ind a j r h w h2 hl e) G.g__law_heard G.k__law_heard lk hcd hb sc__law_heard (Or.inl rfl) (fun _ _ => ⟨rfl, by decide, Or.inl G.e_InvalidNumber.mgC⟩)
    (fun s2 H2 ad oe cls dd pn j hk hz hf => sss_one (ss_ret (se_lst (sa_cons se_str (sa_cons (se_b (call_reprE hgd hu) rc_reprE rfl G.b_repr (by decide +kernel) (sa_cons (se_xf 1 G.xf_InvalidNumber G.no_InvalidNumber hz hf hk) sa_nil)) (sa_cons (se_and (se_isx 1 G.xc_InvalidNumber hz hf hk rfl G.b_isinstance (pe_bltn (v := .ty "ValueError") rfl G.b_ValueError (by decide +kernel) rfl) (fun _ r => r) G.ki_ValueError) (se_one (se_not (se_isx 1 G.xc_InvalidNumber hz hf hk rfl G.b_isinstance (pe_glob (v := .ref G.kTimesError) rfl G.m_TimesError rfl) (fun _ r => r) G.ki_TimesError)))) sa_nil)))))) rfl G.TB_law_odd_right rfl (List.mem_cons_of_mem _ List.mem_cons_self) (by
      intro p hp
      simp only [Tx.plain, List.mem_cons, List.not_mem_nil, or_false] at hp
      rcases hp with rfl | rfl
      · exact (fun e => absurd e G.ne_law_one_right_law_odd_right)
      · exact (by intro _; rfl)) hr L hdef hbind hbody
theorem ok__law_one_right (G : Gx P w K mg base) : FnG P w K mg base G.T 9 G.f__law_one_right 1 m__law_one_right := fn_defC (qs := ["_law_state"]) G.FC_law_one_right sc__law_one_right G.n__law_one_right (fun A outer s H E hr hgd => by
  have hu := hr.units
  have S := sc__law_one_right
  exact (sss_cons (ss_asg (se_tup (sa_cons (se_call (can_ok (ok__law_whole G) (hr.mono (by decide)) G.n__law_whole) rfl G.g__law_whole G.k__law_whole (sa_cons (se_var 0) sa_nil)) (sa_cons (se_call (can_ok (ok__law_whole G) (hr.mono (by decide)) G.n__law_whole) rfl G.g__law_whole G.k__law_whole (sa_cons (se_var 0) sa_nil)) sa_nil))) (sg_tup (sgs_cons (sg_name 1 S.nd) (sgs_cons (sg_name 2 S.nd) sgs_nil))))
    (sss_cons (ss_if (st_cmp (op_eqD hu) ro_eq (se_var 2) se_int (nomark _)) (sss_one (ss_ret (se_cmp (op_eqD hu) ro_eq (heard__law_one_right G A outer s H E (hr.mono (by decide)) hgd (LamX.lamS_by (sc := defScope s__law_one_right) (by decide +kernel)) rfl (fun _ _ _ _ _ => rfl) (fun A2 o2 s2 H2 E2 f2 c2 hr => by
      have hu := hr.units
      exact (se_call (can_ok (ok_fraction G) (hr.mono (by decide)) G.n_fraction) rfl G.g_fraction G.k_fraction (sa_cons (se_var 1) (sa_cons (se_var 2) sa_nil))))) (se_lst (sa_cons se_str (sa_cons se_str (sa_cons se_bl sa_nil)))) (nomark _)))) sss_nil)
    (sss_cons (ss_set 3 S.nd (se_call (can_ok (ok__law_fraction G) (hr.mono (by decide)) G.n__law_fraction) rfl G.g__law_fraction G.k__law_fraction (sa_cons (se_op op_mulA ro_mul (se_var 1) (se_ix (se_lst (sa_cons se_int (sa_cons (se_neg se_int) sa_nil))) (se_bt call_int1 rc_int rfl G.b_int (by decide +kernel) (sa_cons (se_cmp op_lt ro_lt (se_var 2) se_int (nomark _)) sa_nil)))) (sa_cons (se_b (call_max2 rfl) rc_max rfl G.b_max (by decide +kernel) (sa_cons (se_var 2) (sa_cons (se_neg (se_var 2)) sa_nil))) sa_nil))))
    (sss_cons (ss_set 4 S.nd (se_op op_addA ro_add se_int (se_call (can_ok (ok__law_draw G) (hr.mono (by decide)) G.n__law_draw) rfl G.g__law_draw G.k__law_draw (sa_cons (se_var 0) (sa_cons se_int sa_nil)))))
    (sss_cons (ss_if (st_w (sw_or (st_cmp (op_neD hu) ro_ne (se_b (call_reprE hgd hu) rc_reprE rfl G.b_repr (by decide +kernel) (sa_cons (se_call (can_ok (ok_fraction G) (hr.mono (by decide)) G.n_fraction) rfl G.g_fraction G.k_fraction (sa_cons (se_var 1) (sa_cons (se_var 2) sa_nil))) sa_nil)) (se_b (call_reprE hgd hu) rc_reprE rfl G.b_repr (by decide +kernel) (sa_cons (se_var 3) sa_nil)) (nomark _)) (sw_or1 (st_cmp (op_neD hu) ro_ne (se_call (can_ok (ok_fraction G) (hr.mono (by decide)) G.n_fraction) rfl G.g_fraction G.k_fraction (sa_cons (se_op op_mulA ro_mul (se_var 1) (se_var 4)) (sa_cons (se_op op_mulA ro_mul (se_var 2) (se_var 4)) sa_nil))) (se_var 3) (nomark _))))) (sss_one (ss_ret se_bl)) sss_nil)
    (sss_cons (ss_set 5 S.nd (se_tup (sa_cons (se_op op_mulA ro_mul (se_ix (se_var 3) se_int) (se_var 4)) (sa_cons (se_op op_mulA ro_mul (se_ix (se_var 3) se_int) (se_var 4)) sa_nil))))
    (sss_one (ss_ret (se_and (se_cmp op_isA ro_is (se_call (can_ok (ok_is_fraction G) (hr.mono (by decide)) G.n_is_fraction) rfl G.g_is_fraction G.k_is_fraction (sa_cons (se_var 3) sa_nil)) se_bl (nomark _)) (se_and (se_cmp op_isA ro_is (se_call (can_ok (ok_is_fraction G) (hr.mono (by decide)) G.n_is_fraction) rfl G.g_is_fraction G.k_is_fraction (sa_cons (se_var 5) sa_nil)) se_bl (nomark _)) (se_one (se_cmp op_isA ro_is (se_call (can_ok (ok_is_fraction G) (hr.mono (by decide)) G.n_is_fraction) rfl G.g_is_fraction G.k_is_fraction (sa_cons (se_tup (sa_cons (se_ix (se_var 3) se_int) (sa_cons (se_neg (se_ix (se_var 3) se_int)) sa_nil))) sa_nil)) se_bl (nomark _))))))))))))))
theorem ok__law_sums_right (G : Gx P w K mg base) : FnG P w K mg base G.T 7 G.f__law_sums_right 1 m__law_sums_right := fn_defG (qs := ["_law_state"]) G.F__law_sums_right sc__law_sums_right G.n__law_sums_right (fun cdv A outer s H E hr hgd => by
  have hu := hr.units
  have S := sc__law_sums_right
  exact (sss_cons (ss_set 1 S.nd (se_lst sa_nil))
    (sss_cons (ss_for (si_range1 rfl G.b_range (sa_cons (se_call (can_ok (ok__law_draw G) (hr.mono (by decide)) G.n__law_draw) rfl G.g__law_draw G.k__law_draw (sa_cons (se_var 0) (sa_cons se_int sa_nil))) sa_nil) (len_cons len_nil)) (sg_name 2 S.nd) (sss_one (ss_expr (se_append (se_var 1) (se_call (can_ok (ok__law_fraction G) (hr.mono (by decide)) G.n__law_fraction) rfl G.g__law_fraction G.k__law_fraction (sa_cons (se_call (can_ok (ok__law_whole G) (hr.mono (by decide)) G.n__law_whole) rfl G.g__law_whole G.k__law_whole (sa_cons (se_var 0) sa_nil)) (sa_cons (se_op op_addA ro_add se_int (se_call (can_ok (ok__law_draw G) (hr.mono (by decide)) G.n__law_draw) rfl G.g__law_draw G.k__law_draw (sa_cons (se_var 0) (sa_cons se_int sa_nil)))) sa_nil)))))))
    (sss_cons (ss_par 3 4 S.nd (sa_cons (se_tup (sa_cons se_int (sa_cons se_int sa_nil))) (sa_cons (se_b (call_reprE hgd hu) rc_reprE rfl G.b_repr (by decide +kernel) (sa_cons (se_var 1) sa_nil)) sa_nil)))
    (sss_cons (ss_for (si_seq (se_var 1)) (sg_tup (sgs_cons (sg_name 5 S.nd) (sgs_cons (sg_name 6 S.nd) sgs_nil))) (sss_one (ss_set 3 S.nd (se_call (can_ok (ok__law_fraction G) (hr.mono (by decide)) G.n__law_fraction) rfl G.g__law_fraction G.k__law_fraction (sa_cons (se_op op_addA ro_add (se_op op_mulA ro_mul (se_ix (se_var 3) se_int) (se_var 6)) (se_op op_mulA ro_mul (se_var 5) (se_ix (se_var 3) se_int))) (sa_cons (se_op op_mulA ro_mul (se_ix (se_var 3) se_int) (se_var 6)) sa_nil))))))
    (sss_cons (ss_if (st_w (sw_or (st_cmp (op_neD hu) ro_ne (se_call (can_ok (ok_total_of G) (hr.mono (by decide)) G.n_total_of) rfl G.g_total_of G.k_total_of (sa_cons (se_var 1) sa_nil)) (se_var 3) (nomark _)) (sw_or (st_cmp (op_neD hu) ro_ne (se_b (call_reprE hgd hu) rc_reprE rfl G.b_repr (by decide +kernel) (sa_cons (se_var 1) sa_nil)) (se_var 4) (nomark _)) (sw_or1 (st_cmp (op_neD hu) ro_ne (se_call (can_ok (ok_total_of G) (hr.mono (by decide)) G.n_total_of) rfl G.g_total_of G.k_total_of (sa_cons (se_rev (se_var 1)) sa_nil)) (se_var 3) (nomark _)))))) (sss_one (ss_ret se_bl)) sss_nil)
    (sss_cons (ss_for (si_seq (se_var 1)) (sg_name 7 S.nd) (sss_one (ss_for (si_seq (se_var 1)) (sg_name 8 S.nd) (sss_cons (ss_par 9 10 S.nd (sa_cons (se_op op_mulA ro_mul (se_ix (se_var 7) se_int) (se_ix (se_var 8) se_int)) (sa_cons (se_op op_mulA ro_mul (se_ix (se_var 8) se_int) (se_ix (se_var 7) se_int)) sa_nil)))
    (sss_cons (ss_if (st_cmp (op_neD hu) ro_ne (se_b (call_reprE hgd hu) rc_reprE rfl G.b_repr (by decide +kernel) (sa_cons (se_call (can_ok (ok_compared G) (hr.mono (by decide)) G.n_compared) rfl G.g_compared G.k_compared (sa_cons (se_var 7) (sa_cons (se_var 8) sa_nil))) sa_nil)) (se_bt call_str_int rc_strI rfl G.b_str (by decide +kernel) (sa_cons (se_op op_sub ro_sub (se_bt call_int1 rc_int rfl G.b_int (by decide +kernel) (sa_cons (se_cmp op_gt ro_gt (se_var 9) (se_var 10) (nomark _)) sa_nil)) (se_bt call_int1 rc_int rfl G.b_int (by decide +kernel) (sa_cons (se_cmp op_lt ro_lt (se_var 9) (se_var 10) (nomark _)) sa_nil))) sa_nil)) (nomark _)) (sss_one (ss_ret se_bl)) sss_nil)
    (sss_one (ss_if (st_cmp (op_neD hu) ro_ne (se_call (can_ok (ok_middle G) (hr.mono (by decide)) G.n_middle) rfl G.g_middle G.k_middle (sa_cons (se_var 7) (sa_cons (se_var 8) sa_nil))) (se_call (can_ok (ok__law_fraction G) (hr.mono (by decide)) G.n__law_fraction) rfl G.g__law_fraction G.k__law_fraction (sa_cons (se_op op_addA ro_add (se_var 9) (se_var 10)) (sa_cons (se_op op_mulA ro_mul (se_op op_mulA ro_mul se_int (se_ix (se_var 7) se_int)) (se_ix (se_var 8) se_int)) sa_nil))) (nomark _)) (sss_one (ss_ret se_bl)) sss_nil)))))))
    (sss_one (ss_ret se_bl)))))))))
theorem ok__law_odd_right (G : Gx P w K mg base) : FnG P w K mg base G.T 9 G.f__law_odd_right 0 m__law_odd_right := fn_defC (qs := []) G.FC_law_odd_right sc__law_odd_right G.n__law_odd_right (fun A outer s H E hr hgd => by
  have hu := hr.units
  have S := sc__law_odd_right
  exact (sss_cons (ss_set 0 S.nd (se_lst (sa_cons se_non (sa_cons se_bl (sa_cons se_str (sa_cons (se_tup (sa_cons se_int (sa_cons se_int sa_nil))) (sa_cons (se_tup (sa_cons se_int (sa_cons se_int sa_nil))) (sa_cons (se_tup (sa_cons se_int (sa_cons se_int sa_nil))) (sa_cons (se_tup (sa_cons se_int (sa_cons (se_neg se_int) sa_nil))) (sa_cons (se_lst (sa_cons se_int (sa_cons se_int sa_nil))) (sa_cons (se_tup (sa_cons se_int sa_nil)) (sa_cons (se_tup (sa_cons se_int (sa_cons se_int (sa_cons se_int sa_nil)))) (sa_cons (se_tup (sa_cons se_bl (sa_cons se_int sa_nil))) (sa_cons (se_tup (sa_cons se_int (sa_cons se_bl sa_nil))) (sa_cons se_int sa_nil)))))))))))))))
    (sss_cons (ss_for (si_seq (se_op op_addA ro_add (se_var 0) (se_lst (sa_cons (se_tup (sa_cons se_non (sa_cons se_int sa_nil))) (sa_cons (se_tup (sa_cons se_str (sa_cons se_int sa_nil))) (sa_cons (se_tup (sa_cons (se_tup (sa_cons se_int (sa_cons se_int sa_nil))) (sa_cons se_int sa_nil))) (sa_cons se_dict0 (sa_cons (se_tup sa_nil) sa_nil)))))))) (sg_name 1 S.nd) (sss_cons (ss_set 2 S.nd (se_lst (sa_cons se_str (sa_cons (se_b (call_reprE hgd hu) rc_reprE rfl G.b_repr (by decide +kernel) (sa_cons (se_var 1) sa_nil)) (sa_cons se_bl sa_nil)))))
    (sss_cons (ss_if (st_cmp op_isnotA ro_is (se_call (can_ok (ok_is_fraction G) (hr.mono (by decide)) G.n_is_fraction) rfl G.g_is_fraction G.k_is_fraction (sa_cons (se_var 1) sa_nil)) se_bl (nomark _)) (sss_one (ss_ret se_bl)) sss_nil)
    (sss_cons (ss_set 3 S.nd (se_lst (sa_cons (heard__law_odd_right G A outer s H E (hr.mono (by decide)) hgd (LamX.lamS_by (sc := defScope s__law_odd_right) (by decide +kernel)) rfl (fun _ _ _ _ _ => rfl) (fun A2 o2 s2 H2 E2 f2 c2 hr => by
      have hu := hr.units
      exact (se_call (can_ok (ok_compared G) (hr.mono (by decide)) G.n_compared) rfl G.g_compared G.k_compared (sa_cons (se_var 1) (sa_cons se_non sa_nil))))) sa_nil)))
    (sss_cons (ss_expr (se_append (se_var 3) (heard__law_odd_right G A outer s H E (hr.mono (by decide)) hgd (LamX.lamS_by (sc := defScope s__law_odd_right) (by decide +kernel)) rfl (fun _ _ _ _ _ => rfl) (fun A2 o2 s2 H2 E2 f2 c2 hr => by
      have hu := hr.units
      exact (se_call (can_ok (ok_compared G) (hr.mono (by decide)) G.n_compared) rfl G.g_compared G.k_compared (sa_cons (se_tup (sa_cons se_int (sa_cons se_int sa_nil))) (sa_cons (se_var 1) sa_nil)))))))
    (sss_cons (ss_expr (se_append (se_var 3) (heard__law_odd_right G A outer s H E (hr.mono (by decide)) hgd (LamX.lamS_by (sc := defScope s__law_odd_right) (by decide +kernel)) rfl (fun _ _ _ _ _ => rfl) (fun A2 o2 s2 H2 E2 f2 c2 hr => by
      have hu := hr.units
      exact (se_call (can_ok (ok_middle G) (hr.mono (by decide)) G.n_middle) rfl G.g_middle G.k_middle (sa_cons (se_var 1) (sa_cons se_non sa_nil)))))))
    (sss_cons (ss_expr (se_append (se_var 3) (heard__law_odd_right G A outer s H E (hr.mono (by decide)) hgd (LamX.lamS_by (sc := defScope s__law_odd_right) (by decide +kernel)) rfl (fun _ _ _ _ _ => rfl) (fun A2 o2 s2 H2 E2 f2 c2 hr => by
      have hu := hr.units
      exact (se_call (can_ok (ok_middle G) (hr.mono (by decide)) G.n_middle) rfl G.g_middle G.k_middle (sa_cons (se_tup (sa_cons se_int (sa_cons se_int sa_nil))) (sa_cons (se_var 1) sa_nil)))))))
    (sss_one (ss_if (st_cmp (op_neD hu) ro_ne (se_op op_addA ro_add (se_var 3) (se_lst (sa_cons (heard__law_odd_right G A outer s H E (hr.mono (by decide)) hgd (LamX.lamS_by (sc := defScope s__law_odd_right) (by decide +kernel)) rfl (fun _ _ _ _ _ => rfl) (fun A2 o2 s2 H2 E2 f2 c2 hr => by
      have hu := hr.units
      exact (se_call (can_ok (ok_total_of G) (hr.mono (by decide)) G.n_total_of) rfl G.g_total_of G.k_total_of (sa_cons (se_lst (sa_cons (se_tup (sa_cons se_int (sa_cons se_int sa_nil))) (sa_cons (se_var 1) (sa_cons se_non sa_nil)))) sa_nil)))) sa_nil))) (se_op op_mulA ro_mul (se_lst (sa_cons (se_var 2) sa_nil)) se_int) (nomark _)) (sss_one (ss_ret se_bl)) sss_nil)))))))))
    (sss_cons (ss_for (si_seq (se_lst (sa_cons se_non (sa_cons (se_tup (sa_cons (se_tup (sa_cons se_int (sa_cons se_int sa_nil))) sa_nil)) (sa_cons se_str (sa_cons se_int (sa_cons (se_tup (sa_cons se_int (sa_cons se_int sa_nil))) (sa_cons se_dict0 sa_nil)))))))) (sg_name 1 S.nd) (sss_one (ss_if (st_cmp (op_neD hu) ro_ne (heard__law_odd_right G A outer s H E (hr.mono (by decide)) hgd (LamX.lamS_by (sc := defScope s__law_odd_right) (by decide +kernel)) rfl (fun _ _ _ _ _ => rfl) (fun A2 o2 s2 H2 E2 f2 c2 hr => by
      have hu := hr.units
      exact (se_call (can_ok (ok_total_of G) (hr.mono (by decide)) G.n_total_of) rfl G.g_total_of G.k_total_of (sa_cons (se_var 1) sa_nil)))) (se_lst (sa_cons se_str (sa_cons (se_b (call_reprE hgd hu) rc_reprE rfl G.b_repr (by decide +kernel) (sa_cons (se_var 1) sa_nil)) (sa_cons se_bl sa_nil)))) (nomark _)) (sss_one (ss_ret se_bl)) sss_nil)))
    (sss_cons (ss_for (si_seq (se_lst (sa_cons se_non (sa_cons se_bl (sa_cons se_str (sa_cons (se_tup (sa_cons se_int (sa_cons se_int sa_nil))) (sa_cons (se_lst sa_nil) sa_nil))))))) (sg_name 1 S.nd) (sss_cons (ss_if (st_cmp (op_neD hu) ro_ne (heard__law_odd_right G A outer s H E (hr.mono (by decide)) hgd (LamX.lamS_by (sc := defScope s__law_odd_right) (by decide +kernel)) rfl (fun _ _ _ _ _ => rfl) (fun A2 o2 s2 H2 E2 f2 c2 hr => by
      have hu := hr.units
      exact (se_call (can_ok (ok_fraction G) (hr.mono (by decide)) G.n_fraction) rfl G.g_fraction G.k_fraction (sa_cons (se_var 1) (sa_cons se_non sa_nil))))) (se_lst (sa_cons se_str (sa_cons (se_b (call_reprE hgd hu) rc_reprE rfl G.b_repr (by decide +kernel) (sa_cons (se_var 1) sa_nil)) (sa_cons se_bl sa_nil)))) (nomark _)) (sss_one (ss_ret se_bl)) sss_nil)
    (sss_one (ss_if (st_cmp (op_neD hu) ro_ne (heard__law_odd_right G A outer s H E (hr.mono (by decide)) hgd (LamX.lamS_by (sc := defScope s__law_odd_right) (by decide +kernel)) rfl (fun _ _ _ _ _ => rfl) (fun A2 o2 s2 H2 E2 f2 c2 hr => by
      have hu := hr.units
      exact (se_call (can_ok (ok_fraction G) (hr.mono (by decide)) G.n_fraction) rfl G.g_fraction G.k_fraction (sa_cons se_int (sa_cons (se_var 1) sa_nil))))) (se_lst (sa_cons se_str (sa_cons (se_b (call_reprE hgd hu) rc_reprE rfl G.b_repr (by decide +kernel) (sa_cons (se_var 1) sa_nil)) (sa_cons se_bl sa_nil)))) (nomark _)) (sss_one (ss_ret se_bl)) sss_nil))))
    (sss_cons (ss_if (st_cmp (op_neD hu) ro_ne (se_call (can_ok (ok_total_of G) (hr.mono (by decide)) G.n_total_of) rfl G.g_total_of G.k_total_of (sa_cons (se_lst (sa_cons (se_tup (sa_cons se_int (sa_cons se_int sa_nil))) (sa_cons (se_tup (sa_cons se_int (sa_cons se_int sa_nil))) (sa_cons (se_tup (sa_cons (se_neg se_int) (sa_cons se_int sa_nil))) (sa_cons (se_tup (sa_cons se_int (sa_cons se_int sa_nil))) sa_nil))))) sa_nil)) (se_tup (sa_cons se_int (sa_cons se_int sa_nil))) (nomark _)) (sss_one (ss_ret se_bl)) sss_nil)
    (sss_one (ss_ret (se_and (se_cmp (op_eqD hu) ro_eq (se_call (can_ok (ok_total_of G) (hr.mono (by decide)) G.n_total_of) rfl G.g_total_of G.k_total_of (sa_cons (se_lst sa_nil) sa_nil)) (se_tup (sa_cons se_int (sa_cons se_int sa_nil))) (nomark _)) (se_one (se_cmp (op_eqD hu) ro_eq (se_call (can_ok (ok_fraction G) (hr.mono (by decide)) G.n_fraction) rfl G.g_fraction G.k_fraction (sa_cons se_int (sa_cons (se_neg se_int) sa_nil))) (se_tup (sa_cons se_int (sa_cons se_int sa_nil))) (nomark _))))))))))))
theorem ok_law (G : Gx P w K mg base) : FnG P w K mg base G.T 10 G.f_law 1 m_law := fn_defG (qs := ["_law_script"]) G.F_law sc_law G.n_law (fun cdv A outer s H E hr hgd => by
  have hu := hr.units
  have S := sc_law
  exact (sss_cons (ss_for (si_enum rfl G.b_enumerate (sa_cons (se_op op_addA ro_add (se_slice (se_var 0) so_none (so_some se_int)) (se_op op_mulA ro_mul (se_lst (sa_cons se_int sa_nil)) (se_bt call_int1 rc_int rfl G.b_int (by decide +kernel) (sa_cons (se_cmp (op_eqD hu) ro_eq (se_var 0) (se_lst sa_nil) (nomark _)) sa_nil)))) sa_nil)) (sg_tup (sgs_cons (sg_name 1 S.nd) (sgs_cons (sg_name 2 S.nd) sgs_nil))) (sss_cons (ss_set 3 S.nd (se_lst (sa_cons (se_call (can_ok (ok__law_numbers G) (hr.mono (by decide)) G.n__law_numbers) rfl G.g__law_numbers G.k__law_numbers (sa_cons (se_var 2) (sa_cons (se_op op_addA ro_add se_int (se_var 1)) (sa_cons (se_op op_mulA ro_mul (se_lst (sa_cons se_int sa_nil)) se_int) sa_nil)))) (sa_cons se_int sa_nil))))
    (sss_cons (ss_if (st_cmp (op_neD hu) ro_ne (se_lcIf 4 S.nd (si_range1 rfl G.b_range (sa_cons se_int sa_nil) (len_cons len_nil)) (blkOk_by (own := [("_law_turn", 4)]) (N := ["_law_script", "_law_k", "_law_cell", "_law_state", "_law_turn"]) (sc := defScope s_law) (by decide +kernel)) (fun _ _ _ _ _ => pg_name (i := 4) S.nd rfl (Or.inl rfl)) (fun _ _ _ _ _ => (st_not (st_val (se_call (can_G (ok__law_one_right G) (hr.mono (by decide)) hgd) rfl G.g__law_one_right G.k__law_one_right (sa_cons (se_var 3) sa_nil))))) (fun _ _ _ _ _ => (se_var 4))) (se_lst sa_nil) (nomark _)) (sss_one (ss_ret se_bl)) sss_nil)
    (sss_one (ss_if (st_w (sw_or (st_not (st_val (se_call (can_G (ok__law_sums_right G) (hr.mono (by decide)) hgd) rfl G.g__law_sums_right G.k__law_sums_right (sa_cons (se_var 3) sa_nil)))) (sw_or1 (st_not (st_val (se_fresh (can_G (ok__law_odd_right G) (hr.mono (by decide)) hgd) trivial rfl G.g__law_odd_right G.k__law_odd_right)))))) (sss_one (ss_ret se_bl)) sss_nil)))))
    (sss_one (ss_ret se_bl))))
end
end K02
end
section
namespace K02
open PySem PySem.Spec PyProof.Rows L2 VL
abbrev s_init : Stmt := inClass (top 2) 0
theorem sc_init : FnScope ["self", "value"] ["self", "value"] (defScope s_init) := ⟨rfl, rfl, rfl, by decide +kernel, rfl, by decide +kernel, by decide +kernel⟩
theorem ok_init {P : Program} {w : World} {K : PySem.W.Frag} {mg : Str → Option Value} {base : Heap} {f C : Addr} {fd : FuncData} (F : Fun K "__init__" "InvalidNumber.__init__" s_init f fd) (T : OexC K C) (no : PySem.W.findIn K (.ref C) "value" = some none) : FnOk P w K mg base CX0 1 f fd ["self", "value"] (spInit K C "value") := by
  refine F.ok sc_init (fun vs H Q E h => ?_) (fun cdv A outer s H vs Q E hr h => ?_)
  · obtain ⟨a, v, rfl, _⟩ := h
    rfl
  · obtain ⟨a, v, rfl, ha, k⟩ := h
    exact ⟨_, pss_one (ps_ost (pv 0) (pv 1)), _, rfl, _, rfl, a, C, rfl, T, no, Or.inl ⟨ha, fun dx hd ne => k dx hd ne⟩⟩
theorem mk {w : World} {K : PySem.W.Frag} {h : Heap} {mg : Str → Option Value} {fa : Addr} (X : K.In h) (G : h.Ns mainGlobals mg) (hfa : mg "law" = some (.ref fa)) (true_ : ∀ (ns : List Int), ns.length ≤ 63 → (∀ z ∈ ns, Builtin.Int.intBits z ≤ 1048576) → ∃ h', m_law [.ref 0] [.rol (ns.map W.int)] = .val (.bl true) h')
    {f_xiswhole : Addr} {od_xiswhole an_xiswhole : Option Addr} {sl_xiswhole : Array (Option Value)} {oc_xiswhole kV_xiswhole dc_xiswhole pm_xiswhole ct_xiswhole : Value} {cd_xiswhole : Value} {f_xiswholepair : Addr} {od_xiswholepair an_xiswholepair : Option Addr} {sl_xiswholepair : Array (Option Value)} {oc_xiswholepair kV_xiswholepair dc_xiswholepair pm_xiswholepair ct_xiswholepair : Value} {cd_xiswholepair : Value} {f_xsignof : Addr} {od_xsignof an_xsignof : Option Addr} {sl_xsignof : Array (Option Value)} {oc_xsignof kV_xsignof dc_xsignof pm_xsignof ct_xsignof : Value} {cd_xsignof : Value} {f_xcommondivisor : Addr} {od_xcommondivisor an_xcommondivisor : Option Addr} {sl_xcommondivisor : Array (Option Value)} {oc_xcommondivisor kV_xcommondivisor dc_xcommondivisor pm_xcommondivisor ct_xcommondivisor : Value} {cd_xcommondivisor : Value} {f_xisfraction : Addr} {od_xisfraction an_xisfraction : Option Addr} {sl_xisfraction : Array (Option Value)} {oc_xisfraction kV_xisfraction dc_xisfraction pm_xisfraction ct_xisfraction : Value} {cd_xisfraction : Value} {f_xrequirefraction : Addr} {od_xrequirefraction an_xrequirefraction : Option Addr} {sl_xrequirefraction : Array (Option Value)} {oc_xrequirefraction kV_xrequirefraction dc_xrequirefraction pm_xrequirefraction ct_xrequirefraction : Value} {cd_xrequirefraction : Value} {f_xfraction : Addr} {od_xfraction an_xfraction : Option Addr} {sl_xfraction : Array (Option Value)} {oc_xfraction kV_xfraction dc_xfraction pm_xfraction ct_xfraction : Value} {cd_xfraction : Value} {f_xorderof : Addr} {od_xorderof an_xorderof : Option Addr} {sl_xorderof : Array (Option Value)} {oc_xorderof kV_xorderof dc_xorderof pm_xorderof ct_xorderof : Value} {cd_xorderof : Value} {f_xcompared : Addr} {od_xcompared an_xcompared : Option Addr} {sl_xcompared : Array (Option Value)} {oc_xcompared kV_xcompared dc_xcompared pm_xcompared ct_xcompared : Value} {cd_xcompared : Value} {f_xsumoftwo : Addr} {od_xsumoftwo an_xsumoftwo : Option Addr} {sl_xsumoftwo : Array (Option Value)} {oc_xsumoftwo kV_xsumoftwo dc_xsumoftwo pm_xsumoftwo ct_xsumoftwo : Value} {cd_xsumoftwo : Value} {f_xtotalof : Addr} {od_xtotalof an_xtotalof : Option Addr} {sl_xtotalof : Array (Option Value)} {oc_xtotalof kV_xtotalof dc_xtotalof pm_xtotalof ct_xtotalof : Value} {cd_xtotalof : Value} {f_xmiddle : Addr} {od_xmiddle an_xmiddle : Option Addr} {sl_xmiddle : Array (Option Value)} {oc_xmiddle kV_xmiddle dc_xmiddle pm_xmiddle ct_xmiddle : Value} {cd_xmiddle : Value} {f_xlawnumbers : Addr} {od_xlawnumbers an_xlawnumbers : Option Addr} {sl_xlawnumbers : Array (Option Value)} {oc_xlawnumbers kV_xlawnumbers dc_xlawnumbers pm_xlawnumbers ct_xlawnumbers : Value} {cd_xlawnumbers : Value} {f_xlawdraw : Addr} {od_xlawdraw an_xlawdraw : Option Addr} {sl_xlawdraw : Array (Option Value)} {oc_xlawdraw kV_xlawdraw dc_xlawdraw pm_xlawdraw ct_xlawdraw : Value} {cd_xlawdraw : Value} {f_xlawfraction : Addr} {od_xlawfraction an_xlawfraction : Option Addr} {sl_xlawfraction : Array (Option Value)} {oc_xlawfraction kV_xlawfraction dc_xlawfraction pm_xlawfraction ct_xlawfraction : Value} {cd_xlawfraction : Value} {f_xlawwhole : Addr} {od_xlawwhole an_xlawwhole : Option Addr} {sl_xlawwhole : Array (Option Value)} {oc_xlawwhole kV_xlawwhole dc_xlawwhole pm_xlawwhole ct_xlawwhole : Value} {cd_xlawwhole : Value} {f_xlawheard : Addr} {od_xlawheard an_xlawheard : Option Addr} {sl_xlawheard : Array (Option Value)} {oc_xlawheard kV_xlawheard dc_xlawheard pm_xlawheard ct_xlawheard : Value} {cd_xlawheard : Value} {f_xlawoneright : Addr} {od_xlawoneright an_xlawoneright : Option Addr} {sl_xlawoneright : Array (Option Value)} {oc_xlawoneright kV_xlawoneright dc_xlawoneright pm_xlawoneright ct_xlawoneright : Value} {c_xlawoneright P_xlawoneright : Addr} {f_xlawsumsright : Addr} {od_xlawsumsright an_xlawsumsright : Option Addr} {sl_xlawsumsright : Array (Option Value)} {oc_xlawsumsright kV_xlawsumsright dc_xlawsumsright pm_xlawsumsright ct_xlawsumsright : Value} {cd_xlawsumsright : Value} {f_xlawoddright : Addr} {od_xlawoddright an_xlawoddright : Option Addr} {sl_xlawoddright : Array (Option Value)} {oc_xlawoddright kV_xlawoddright dc_xlawoddright pm_xlawoddright ct_xlawoddright : Value} {c_xlawoddright P_xlawoddright : Addr} {f_xlaw : Addr} {od_xlaw an_xlaw : Option Addr} {sl_xlaw : Array (Option Value)} {oc_xlaw kV_xlaw dc_xlaw pm_xlaw ct_xlaw : Value} {cd_xlaw : Value} {C fI : Addr} {nm q0 : Str} {N : Addr} {bs : List Value} {sn : List Str} {sub : List Value} {ab : Bool} {col : Option Bool} {dd : Option Addr} {m0 m1 m2 m3 m5 : Option Value} {odi ani : Option Addr} {sli : Array (Option Value)} {oci kVi dci pmi cdi cti : Value} {kTimesError : Addr}
    (a_xiswhole : PySem.W.nsIn K mainGlobals "is_whole" = some (some (.ref f_xiswhole))) (l_xiswhole : K.lookup f_xiswhole = some ⟨oc_xiswhole, od_xiswhole, .func (PySem.W.fnOf "is_whole" "is_whole" (defArgs s_is_whole) (defBody s_is_whole) (defScope s_is_whole) .none kV_xiswhole dc_xiswhole pm_xiswhole an_xiswhole cd_xiswhole ct_xiswhole), sl_xiswhole⟩) (c_xiswhole1 : PySem.W.codeIn K cd_xiswhole "is_whole" = true) (k_xiswhole : PySem.W.keepIn K (.ref f_xiswhole) = true) (a_xiswholepair : PySem.W.nsIn K mainGlobals "is_whole_pair" = some (some (.ref f_xiswholepair))) (l_xiswholepair : K.lookup f_xiswholepair = some ⟨oc_xiswholepair, od_xiswholepair, .func (PySem.W.fnOf "is_whole_pair" "is_whole_pair" (defArgs s_is_whole_pair) (defBody s_is_whole_pair) (defScope s_is_whole_pair) .none kV_xiswholepair dc_xiswholepair pm_xiswholepair an_xiswholepair cd_xiswholepair ct_xiswholepair), sl_xiswholepair⟩) (c_xiswholepair1 : PySem.W.codeIn K cd_xiswholepair "is_whole_pair" = true) (k_xiswholepair : PySem.W.keepIn K (.ref f_xiswholepair) = true) (a_xsignof : PySem.W.nsIn K mainGlobals "sign_of" = some (some (.ref f_xsignof))) (l_xsignof : K.lookup f_xsignof = some ⟨oc_xsignof, od_xsignof, .func (PySem.W.fnOf "sign_of" "sign_of" (defArgs s_sign_of) (defBody s_sign_of) (defScope s_sign_of) .none kV_xsignof dc_xsignof pm_xsignof an_xsignof cd_xsignof ct_xsignof), sl_xsignof⟩) (c_xsignof1 : PySem.W.codeIn K cd_xsignof "sign_of" = true) (k_xsignof : PySem.W.keepIn K (.ref f_xsignof) = true) (a_xcommondivisor : PySem.W.nsIn K mainGlobals "common_divisor" = some (some (.ref f_xcommondivisor))) (l_xcommondivisor : K.lookup f_xcommondivisor = some ⟨oc_xcommondivisor, od_xcommondivisor, .func (PySem.W.fnOf "common_divisor" "common_divisor" (defArgs s_common_divisor) (defBody s_common_divisor) (defScope s_common_divisor) .none kV_xcommondivisor dc_xcommondivisor pm_xcommondivisor an_xcommondivisor cd_xcommondivisor ct_xcommondivisor), sl_xcommondivisor⟩) (c_xcommondivisor1 : PySem.W.codeIn K cd_xcommondivisor "common_divisor" = true) (k_xcommondivisor : PySem.W.keepIn K (.ref f_xcommondivisor) = true) (a_xisfraction : PySem.W.nsIn K mainGlobals "is_fraction" = some (some (.ref f_xisfraction))) (l_xisfraction : K.lookup f_xisfraction = some ⟨oc_xisfraction, od_xisfraction, .func (PySem.W.fnOf "is_fraction" "is_fraction" (defArgs s_is_fraction) (defBody s_is_fraction) (defScope s_is_fraction) .none kV_xisfraction dc_xisfraction pm_xisfraction an_xisfraction cd_xisfraction ct_xisfraction), sl_xisfraction⟩) (c_xisfraction1 : PySem.W.codeIn K cd_xisfraction "is_fraction" = true) (k_xisfraction : PySem.W.keepIn K (.ref f_xisfraction) = true) (a_xrequirefraction : PySem.W.nsIn K mainGlobals "require_fraction" = some (some (.ref f_xrequirefraction))) (l_xrequirefraction : K.lookup f_xrequirefraction = some ⟨oc_xrequirefraction, od_xrequirefraction, .func (PySem.W.fnOf "require_fraction" "require_fraction" (defArgs s_require_fraction) (defBody s_require_fraction) (defScope s_require_fraction) .none kV_xrequirefraction dc_xrequirefraction pm_xrequirefraction an_xrequirefraction cd_xrequirefraction ct_xrequirefraction), sl_xrequirefraction⟩) (c_xrequirefraction1 : PySem.W.codeIn K cd_xrequirefraction "require_fraction" = true) (k_xrequirefraction : PySem.W.keepIn K (.ref f_xrequirefraction) = true) (a_xfraction : PySem.W.nsIn K mainGlobals "fraction" = some (some (.ref f_xfraction))) (l_xfraction : K.lookup f_xfraction = some ⟨oc_xfraction, od_xfraction, .func (PySem.W.fnOf "fraction" "fraction" (defArgs s_fraction) (defBody s_fraction) (defScope s_fraction) .none kV_xfraction dc_xfraction pm_xfraction an_xfraction cd_xfraction ct_xfraction), sl_xfraction⟩) (c_xfraction1 : PySem.W.codeIn K cd_xfraction "fraction" = true) (k_xfraction : PySem.W.keepIn K (.ref f_xfraction) = true) (a_xorderof : PySem.W.nsIn K mainGlobals "order_of" = some (some (.ref f_xorderof))) (l_xorderof : K.lookup f_xorderof = some ⟨oc_xorderof, od_xorderof, .func (PySem.W.fnOf "order_of" "order_of" (defArgs s_order_of) (defBody s_order_of) (defScope s_order_of) .none kV_xorderof dc_xorderof pm_xorderof an_xorderof cd_xorderof ct_xorderof), sl_xorderof⟩) (c_xorderof1 : PySem.W.codeIn K cd_xorderof "order_of" = true) (k_xorderof : PySem.W.keepIn K (.ref f_xorderof) = true) (a_xcompared : PySem.W.nsIn K mainGlobals "compared" = some (some (.ref f_xcompared))) (l_xcompared : K.lookup f_xcompared = some ⟨oc_xcompared, od_xcompared, .func (PySem.W.fnOf "compared" "compared" (defArgs s_compared) (defBody s_compared) (defScope s_compared) .none kV_xcompared dc_xcompared pm_xcompared an_xcompared cd_xcompared ct_xcompared), sl_xcompared⟩) (c_xcompared1 : PySem.W.codeIn K cd_xcompared "compared" = true) (k_xcompared : PySem.W.keepIn K (.ref f_xcompared) = true) (a_xsumoftwo : PySem.W.nsIn K mainGlobals "sum_of_two" = some (some (.ref f_xsumoftwo))) (l_xsumoftwo : K.lookup f_xsumoftwo = some ⟨oc_xsumoftwo, od_xsumoftwo, .func (PySem.W.fnOf "sum_of_two" "sum_of_two" (defArgs s_sum_of_two) (defBody s_sum_of_two) (defScope s_sum_of_two) .none kV_xsumoftwo dc_xsumoftwo pm_xsumoftwo an_xsumoftwo cd_xsumoftwo ct_xsumoftwo), sl_xsumoftwo⟩) (c_xsumoftwo1 : PySem.W.codeIn K cd_xsumoftwo "sum_of_two" = true) (k_xsumoftwo : PySem.W.keepIn K (.ref f_xsumoftwo) = true) (a_xtotalof : PySem.W.nsIn K mainGlobals "total_of" = some (some (.ref f_xtotalof))) (l_xtotalof : K.lookup f_xtotalof = some ⟨oc_xtotalof, od_xtotalof, .func (PySem.W.fnOf "total_of" "total_of" (defArgs s_total_of) (defBody s_total_of) (defScope s_total_of) .none kV_xtotalof dc_xtotalof pm_xtotalof an_xtotalof cd_xtotalof ct_xtotalof), sl_xtotalof⟩) (c_xtotalof1 : PySem.W.codeIn K cd_xtotalof "total_of" = true) (k_xtotalof : PySem.W.keepIn K (.ref f_xtotalof) = true) (a_xmiddle : PySem.W.nsIn K mainGlobals "middle" = some (some (.ref f_xmiddle))) (l_xmiddle : K.lookup f_xmiddle = some ⟨oc_xmiddle, od_xmiddle, .func (PySem.W.fnOf "middle" "middle" (defArgs s_middle) (defBody s_middle) (defScope s_middle) .none kV_xmiddle dc_xmiddle pm_xmiddle an_xmiddle cd_xmiddle ct_xmiddle), sl_xmiddle⟩) (c_xmiddle1 : PySem.W.codeIn K cd_xmiddle "middle" = true) (k_xmiddle : PySem.W.keepIn K (.ref f_xmiddle) = true) (a_xlawnumbers : PySem.W.nsIn K mainGlobals "_law_numbers" = some (some (.ref f_xlawnumbers))) (l_xlawnumbers : K.lookup f_xlawnumbers = some ⟨oc_xlawnumbers, od_xlawnumbers, .func (PySem.W.fnOf "_law_numbers" "_law_numbers" (defArgs s__law_numbers) (defBody s__law_numbers) (defScope s__law_numbers) .none kV_xlawnumbers dc_xlawnumbers pm_xlawnumbers an_xlawnumbers cd_xlawnumbers ct_xlawnumbers), sl_xlawnumbers⟩) (c_xlawnumbers1 : PySem.W.codeIn K cd_xlawnumbers "_law_numbers" = true) (k_xlawnumbers : PySem.W.keepIn K (.ref f_xlawnumbers) = true) (a_xlawdraw : PySem.W.nsIn K mainGlobals "_law_draw" = some (some (.ref f_xlawdraw))) (l_xlawdraw : K.lookup f_xlawdraw = some ⟨oc_xlawdraw, od_xlawdraw, .func (PySem.W.fnOf "_law_draw" "_law_draw" (defArgs s__law_draw) (defBody s__law_draw) (defScope s__law_draw) .none kV_xlawdraw dc_xlawdraw pm_xlawdraw an_xlawdraw cd_xlawdraw ct_xlawdraw), sl_xlawdraw⟩) (c_xlawdraw1 : PySem.W.codeIn K cd_xlawdraw "_law_draw" = true) (k_xlawdraw : PySem.W.keepIn K (.ref f_xlawdraw) = true) (a_xlawfraction : PySem.W.nsIn K mainGlobals "_law_fraction" = some (some (.ref f_xlawfraction))) (l_xlawfraction : K.lookup f_xlawfraction = some ⟨oc_xlawfraction, od_xlawfraction, .func (PySem.W.fnOf "_law_fraction" "_law_fraction" (defArgs s__law_fraction) (defBody s__law_fraction) (defScope s__law_fraction) .none kV_xlawfraction dc_xlawfraction pm_xlawfraction an_xlawfraction cd_xlawfraction ct_xlawfraction), sl_xlawfraction⟩) (c_xlawfraction1 : PySem.W.codeIn K cd_xlawfraction "_law_fraction" = true) (k_xlawfraction : PySem.W.keepIn K (.ref f_xlawfraction) = true) (a_xlawwhole : PySem.W.nsIn K mainGlobals "_law_whole" = some (some (.ref f_xlawwhole))) (l_xlawwhole : K.lookup f_xlawwhole = some ⟨oc_xlawwhole, od_xlawwhole, .func (PySem.W.fnOf "_law_whole" "_law_whole" (defArgs s__law_whole) (defBody s__law_whole) (defScope s__law_whole) .none kV_xlawwhole dc_xlawwhole pm_xlawwhole an_xlawwhole cd_xlawwhole ct_xlawwhole), sl_xlawwhole⟩) (c_xlawwhole1 : PySem.W.codeIn K cd_xlawwhole "_law_whole" = true) (k_xlawwhole : PySem.W.keepIn K (.ref f_xlawwhole) = true) (a_xlawheard : PySem.W.nsIn K mainGlobals "_law_heard" = some (some (.ref f_xlawheard))) (l_xlawheard : K.lookup f_xlawheard = some ⟨oc_xlawheard, od_xlawheard, .func (PySem.W.fnOf "_law_heard" "_law_heard" (defArgs s__law_heard) (defBody s__law_heard) (defScope s__law_heard) .none kV_xlawheard dc_xlawheard pm_xlawheard an_xlawheard cd_xlawheard ct_xlawheard), sl_xlawheard⟩) (c_xlawheard1 : PySem.W.codeIn K cd_xlawheard "_law_heard" = true) (k_xlawheard : PySem.W.keepIn K (.ref f_xlawheard) = true) (a_xlawoneright : PySem.W.nsIn K mainGlobals "_law_one_right" = some (some (.ref f_xlawoneright))) (l_xlawoneright : K.lookup f_xlawoneright = some ⟨oc_xlawoneright, od_xlawoneright, .func (PySem.W.fnOf "_law_one_right" "_law_one_right" (defArgs s__law_one_right) (defBody s__law_one_right) (defScope s__law_one_right) .none kV_xlawoneright dc_xlawoneright pm_xlawoneright an_xlawoneright (.ref c_xlawoneright) ct_xlawoneright), sl_xlawoneright⟩) (c_xlawoneright1 : PySem.W.codeIn K (.ref c_xlawoneright) "_law_one_right" = true) (k_xlawoneright : PySem.W.keepIn K (.ref f_xlawoneright) = true) (a_xlawsumsright : PySem.W.nsIn K mainGlobals "_law_sums_right" = some (some (.ref f_xlawsumsright))) (l_xlawsumsright : K.lookup f_xlawsumsright = some ⟨oc_xlawsumsright, od_xlawsumsright, .func (PySem.W.fnOf "_law_sums_right" "_law_sums_right" (defArgs s__law_sums_right) (defBody s__law_sums_right) (defScope s__law_sums_right) .none kV_xlawsumsright dc_xlawsumsright pm_xlawsumsright an_xlawsumsright cd_xlawsumsright ct_xlawsumsright), sl_xlawsumsright⟩) (c_xlawsumsright1 : PySem.W.codeIn K cd_xlawsumsright "_law_sums_right" = true) (k_xlawsumsright : PySem.W.keepIn K (.ref f_xlawsumsright) = true) (a_xlawoddright : PySem.W.nsIn K mainGlobals "_law_odd_right" = some (some (.ref f_xlawoddright))) (l_xlawoddright : K.lookup f_xlawoddright = some ⟨oc_xlawoddright, od_xlawoddright, .func (PySem.W.fnOf "_law_odd_right" "_law_odd_right" (defArgs s__law_odd_right) (defBody s__law_odd_right) (defScope s__law_odd_right) .none kV_xlawoddright dc_xlawoddright pm_xlawoddright an_xlawoddright (.ref c_xlawoddright) ct_xlawoddright), sl_xlawoddright⟩) (c_xlawoddright1 : PySem.W.codeIn K (.ref c_xlawoddright) "_law_odd_right" = true) (k_xlawoddright : PySem.W.keepIn K (.ref f_xlawoddright) = true) (a_xlaw : PySem.W.nsIn K mainGlobals "law" = some (some (.ref f_xlaw))) (l_xlaw : K.lookup f_xlaw = some ⟨oc_xlaw, od_xlaw, .func (PySem.W.fnOf "law" "law" (defArgs s_law) (defBody s_law) (defScope s_law) .none kV_xlaw dc_xlaw pm_xlaw an_xlaw cd_xlaw ct_xlaw), sl_xlaw⟩) (c_xlaw1 : PySem.W.codeIn K cd_xlaw "law" = true) (k_xlaw : PySem.W.keepIn K (.ref f_xlaw) = true) (aC : PySem.W.nsIn K mainGlobals "InvalidNumber" = some (some (.ref C))) (xL : K.lookup C = some (excClassObj nm q0 C N bs [.type "ValueError", .type "Exception", .type "BaseException", .type "object"] true sn sub ab col dd m0 m1 m2 m3 m5 "ValueError.__new__")) (sa : PySem.W.findIn K (.ref C) "__setattr__" = some (some (.builtin "object.__setattr__"))) (ga : PySem.W.findIn K (.ref C) "__getattribute__" = some (some (.builtin "BaseException.__getattribute__"))) (gg : PySem.W.findIn K (.ref C) "__getattr__" = some none) (nb : PySem.W.findIn K (.ref C) "value" = some none) (a1 : PySem.W.findIn K (.ref C) "__init__" = some (some (.ref fI))) (t1 : PySem.W.typeIn K (.ref fI) = some (.type "function")) (l1 : K.lookup fI = some ⟨oci, odi, .func (PySem.W.fnOf "__init__" "InvalidNumber.__init__" (defArgs s_init) (defBody s_init) (defScope s_init) .none kVi dci pmi ani cdi cti), sli⟩) (c1 : PySem.W.codeIn K cdi "InvalidNumber.__init__" = true) (k1 : PySem.W.keepIn K (.ref fI) = true) (kC : PySem.W.keepIn K (.ref C) = true) (eC : PySem.W.subIn K (.ref C) (.type "BaseException") = some true) (tC : PySem.W.typeIn K (.ref C) = some (.type "type")) (hC : PySem.W.hasDictIn K C = true) (sC : PySem.W.subIn K (.ref C) (.ref C) = some true) (hcl : PySem.W.findIn K (.ref C) "__class__" = some (some (.builtin "object.__class__"))) (hgs : PySem.W.specialIn K (.builtin "object.__class__") "__get__" = some (some (.builtin "getset_descriptor.__get__"))) (htk : PySem.W.takesIn K (.builtin "object.__class__") = some true) (hmo : PySem.W.mroIn K C (.type "object") = some true) (mTimesError : PySem.W.nsIn K mainGlobals "TimesError" = some (some (.ref kTimesError))) (kiValueError : PySem.W.kitOne K (.ref C) (.type "ValueError") = some true) (kiTimesError : PySem.W.kitOne K (.ref C) (.ref kTimesError) = some false) (z_ValueError : PySem.W.nsIn K mainGlobals "ValueError" = some none) (z_abs : PySem.W.nsIn K mainGlobals "abs" = some none) (z_bool : PySem.W.nsIn K mainGlobals "bool" = some none) (z_enumerate : PySem.W.nsIn K mainGlobals "enumerate" = some none) (z_int : PySem.W.nsIn K mainGlobals "int" = some none) (z_isinstance : PySem.W.nsIn K mainGlobals "isinstance" = some none) (z_len : PySem.W.nsIn K mainGlobals "len" = some none) (z_list : PySem.W.nsIn K mainGlobals "list" = some none) (z_max : PySem.W.nsIn K mainGlobals "max" = some none) (z_range : PySem.W.nsIn K mainGlobals "range" = some none) (z_repr : PySem.W.nsIn K mainGlobals "repr" = some none) (z_str : PySem.W.nsIn K mainGlobals "str" = some none) (z_tuple : PySem.W.nsIn K mainGlobals "tuple" = some none)
    (hTxlawoneright : h.get? P_xlawoneright = some (PySem.W.tabObj #[])) (hTxlawoddright : h.get? P_xlawoddright = some (PySem.W.tabObj #[])) (nTxlawoneright : K.lookup P_xlawoneright = none) (hHxlawoneright : PySem.W.codeHdIn K c_xlawoneright P_xlawoneright = true) (nTxlawoddright : K.lookup P_xlawoddright = none) (hHxlawoddright : PySem.W.codeHdIn K c_xlawoddright P_xlawoddright = true) (nexlawonerightxlawoddright : (P_xlawoneright == P_xlawoddright) = false) (Kl : K.all (fun p => !(p.2.cls == .type "list")) = true) : LawV PySem.Challenge.rw_whatiftimes_k02_fractions w K 10 63 mg fa h := by
  have e := hfa.symm.trans (PySem.W.mg_of X G a_xlaw)
  cases e
  refine ⟨[(c_xlawoneright, P_xlawoneright), (c_xlawoddright, P_xlawoddright)], Tx.plain [(P_xlawoneright, lamq_law_one_right), (P_xlawoddright, lamq_law_odd_right)] (cvOf ⟨C⟩), m_law, (fun p hp => by
    simp only [List.mem_cons, List.not_mem_nil, or_false] at hp
    rcases hp with rfl | rfl
    · exact hTxlawoneright
    · exact hTxlawoddright), (fun p hp => by
    simp only [List.mem_cons, List.not_mem_nil, or_false] at hp
    rcases hp with rfl | rfl
    · exact nTxlawoneright
    · exact nTxlawoddright), (fun p hp => by
    simp only [List.mem_cons, List.not_mem_nil, or_false] at hp
    rcases hp with rfl | rfl
    · exact PySem.W.codeHd_of_K X hHxlawoneright
    · exact PySem.W.codeHd_of_K X hHxlawoddright), Kl, (fun p hp => by
    simp only [Tx.plain, List.mem_cons, List.not_mem_nil, or_false] at hp
    rcases hp with rfl | rfl <;> simp), fun _ => trivial, fun base KB GB TB => ?_, true_⟩
  have oex : OexC K C := ⟨⟨nm, q0, N, bs, _, sn, sub, ab, col, dd, m0, m1, m2, m3, m5, xL, by decide +kernel⟩, sa, eC, tC, kC⟩
  have FI := fun_mk (st := s_init) l1 c1 k1
  have bI := FI.binds (ps := ["self", "value"]) fun _ _ _ _ _ _ us hl => match us, hl with | [_, _], _ => rfl
  have F_xiswhole := fun_mk (st := s_is_whole) l_xiswhole c_xiswhole1 k_xiswhole
  have b_xiswhole := F_xiswhole.binds (ps := ["value"]) fun _ _ _ _ _ _ us hl => match us, hl with | [_], _ => rfl
  have F_xiswholepair := fun_mk (st := s_is_whole_pair) l_xiswholepair c_xiswholepair1 k_xiswholepair
  have b_xiswholepair := F_xiswholepair.binds (ps := ["value"]) fun _ _ _ _ _ _ us hl => match us, hl with | [_], _ => rfl
  have F_xsignof := fun_mk (st := s_sign_of) l_xsignof c_xsignof1 k_xsignof
  have b_xsignof := F_xsignof.binds (ps := ["number"]) fun _ _ _ _ _ _ us hl => match us, hl with | [_], _ => rfl
  have F_xcommondivisor := fun_mk (st := s_common_divisor) l_xcommondivisor c_xcommondivisor1 k_xcommondivisor
  have b_xcommondivisor := F_xcommondivisor.binds (ps := ["one", "other"]) fun _ _ _ _ _ _ us hl => match us, hl with | [_, _], _ => rfl
  have F_xisfraction := fun_mk (st := s_is_fraction) l_xisfraction c_xisfraction1 k_xisfraction
  have b_xisfraction := F_xisfraction.binds (ps := ["value"]) fun _ _ _ _ _ _ us hl => match us, hl with | [_], _ => rfl
  have F_xrequirefraction := fun_mk (st := s_require_fraction) l_xrequirefraction c_xrequirefraction1 k_xrequirefraction
  have b_xrequirefraction := F_xrequirefraction.binds (ps := ["value"]) fun _ _ _ _ _ _ us hl => match us, hl with | [_], _ => rfl
  have F_xfraction := fun_mk (st := s_fraction) l_xfraction c_xfraction1 k_xfraction
  have b_xfraction := F_xfraction.binds (ps := ["number", "divisor"]) fun _ _ _ _ _ _ us hl => match us, hl with | [_, _], _ => rfl
  have F_xorderof := fun_mk (st := s_order_of) l_xorderof c_xorderof1 k_xorderof
  have b_xorderof := F_xorderof.binds (ps := ["one", "other"]) fun _ _ _ _ _ _ us hl => match us, hl with | [_, _], _ => rfl
  have F_xcompared := fun_mk (st := s_compared) l_xcompared c_xcompared1 k_xcompared
  have b_xcompared := F_xcompared.binds (ps := ["one", "other"]) fun _ _ _ _ _ _ us hl => match us, hl with | [_, _], _ => rfl
  have F_xsumoftwo := fun_mk (st := s_sum_of_two) l_xsumoftwo c_xsumoftwo1 k_xsumoftwo
  have b_xsumoftwo := F_xsumoftwo.binds (ps := ["total", "each"]) fun _ _ _ _ _ _ us hl => match us, hl with | [_, _], _ => rfl
  have F_xtotalof := fun_mk (st := s_total_of) l_xtotalof c_xtotalof1 k_xtotalof
  have b_xtotalof := F_xtotalof.binds (ps := ["some"]) fun _ _ _ _ _ _ us hl => match us, hl with | [_], _ => rfl
  have F_xmiddle := fun_mk (st := s_middle) l_xmiddle c_xmiddle1 k_xmiddle
  have b_xmiddle := F_xmiddle.binds (ps := ["low", "high"]) fun _ _ _ _ _ _ us hl => match us, hl with | [_, _], _ => rfl
  have F_xlawnumbers := fun_mk (st := s__law_numbers) l_xlawnumbers c_xlawnumbers1 k_xlawnumbers
  have b_xlawnumbers := F_xlawnumbers.binds (ps := ["_law_cell", "_law_salt", "_law_sizes"]) fun _ _ _ _ _ _ us hl => match us, hl with | [_, _, _], _ => rfl
  have F_xlawdraw := fun_mk (st := s__law_draw) l_xlawdraw c_xlawdraw1 k_xlawdraw
  have b_xlawdraw := F_xlawdraw.binds (ps := ["_law_state", "_law_many"]) fun _ _ _ _ _ _ us hl => match us, hl with | [_, _], _ => rfl
  have F_xlawfraction := fun_mk (st := s__law_fraction) l_xlawfraction c_xlawfraction1 k_xlawfraction
  have b_xlawfraction := F_xlawfraction.binds (ps := ["_law_number", "_law_divisor"]) fun _ _ _ _ _ _ us hl => match us, hl with | [_, _], _ => rfl
  have F_xlawwhole := fun_mk (st := s__law_whole) l_xlawwhole c_xlawwhole1 k_xlawwhole
  have b_xlawwhole := F_xlawwhole.binds (ps := ["_law_state"]) fun _ _ _ _ _ _ us hl => match us, hl with | [_], _ => rfl
  have F_xlawheard := fun_mk (st := s__law_heard) l_xlawheard c_xlawheard1 k_xlawheard
  have b_xlawheard := F_xlawheard.binds (ps := ["_law_call"]) fun _ _ _ _ _ _ us hl => match us, hl with | [_], _ => rfl
  have F_xlawoneright := fun_mk (st := s__law_one_right) l_xlawoneright c_xlawoneright1 k_xlawoneright
  have b_xlawoneright := F_xlawoneright.binds (ps := ["_law_state"]) fun _ _ _ _ _ _ us hl => match us, hl with | [_], _ => rfl
  have F_xlawsumsright := fun_mk (st := s__law_sums_right) l_xlawsumsright c_xlawsumsright1 k_xlawsumsright
  have b_xlawsumsright := F_xlawsumsright.binds (ps := ["_law_state"]) fun _ _ _ _ _ _ us hl => match us, hl with | [_], _ => rfl
  have F_xlawoddright := fun_mk (st := s__law_odd_right) l_xlawoddright c_xlawoddright1 k_xlawoddright
  have b_xlawoddright := F_xlawoddright.binds (ps := []) fun _ _ _ _ _ _ us hl => match us, hl with | [], _ => rfl
  have F_xlaw := fun_mk (st := s_law) l_xlaw c_xlaw1 k_xlaw
  have b_xlaw := F_xlaw.binds (ps := ["_law_script"]) fun _ _ _ _ _ _ us hl => match us, hl with | [_], _ => rfl
  let G9 : Gx PySem.Challenge.rw_whatiftimes_k02_fractions.prog w K mg base :=
    { c := ⟨C⟩, e_InvalidNumber := ⟨oex, PySem.W.mg_of X G aC, fI, _, a1, t1, ok_init FI oex nb, bI⟩, xf_InvalidNumber := ⟨ga, gg, eC, hC⟩, no_InvalidNumber := nb, te_InvalidNumber := PySem.W.exm_ref eC hC tC sC,
      xc_InvalidNumber := ⟨ga, gg, eC, hC, hcl, hgs, htk, hmo⟩,
      kTimesError := kTimesError, m_TimesError := PySem.W.mg_of X G mTimesError,
      ki_ValueError := kiValueError,
      ki_TimesError := kiTimesError,
      cO_law_one_right := c_xlawoneright, pO_law_one_right := P_xlawoneright, FC_law_one_right := ⟨⟨_, _, _, _, _, _, _, _, rfl, l_xlawoneright, c_xlawoneright1⟩, k_xlawoneright⟩, TB_law_one_right := TB _ List.mem_cons_self,
      cO_law_odd_right := c_xlawoddright, pO_law_odd_right := P_xlawoddright, FC_law_odd_right := ⟨⟨_, _, _, _, _, _, _, _, rfl, l_xlawoddright, c_xlawoddright1⟩, k_xlawoddright⟩, TB_law_odd_right := TB _ (List.mem_cons_of_mem _ List.mem_cons_self),
      ne_law_one_right_law_odd_right := (fun z => by rw [z, beq_self_eq_true] at nexlawonerightxlawoddright; cases nexlawonerightxlawoddright),
      f_is_whole := _, d_is_whole := _, F_is_whole := F_xiswhole, g_is_whole := PySem.W.mg_of X G a_xiswhole, n_is_whole := b_xiswhole, k_is_whole := k_xiswhole,
      f_is_whole_pair := _, d_is_whole_pair := _, F_is_whole_pair := F_xiswholepair, g_is_whole_pair := PySem.W.mg_of X G a_xiswholepair, n_is_whole_pair := b_xiswholepair, k_is_whole_pair := k_xiswholepair,
      f_sign_of := _, d_sign_of := _, F_sign_of := F_xsignof, g_sign_of := PySem.W.mg_of X G a_xsignof, n_sign_of := b_xsignof, k_sign_of := k_xsignof,
      f_common_divisor := _, d_common_divisor := _, F_common_divisor := F_xcommondivisor, g_common_divisor := PySem.W.mg_of X G a_xcommondivisor, n_common_divisor := b_xcommondivisor, k_common_divisor := k_xcommondivisor,
      f_is_fraction := _, d_is_fraction := _, F_is_fraction := F_xisfraction, g_is_fraction := PySem.W.mg_of X G a_xisfraction, n_is_fraction := b_xisfraction, k_is_fraction := k_xisfraction,
      f_require_fraction := _, d_require_fraction := _, F_require_fraction := F_xrequirefraction, g_require_fraction := PySem.W.mg_of X G a_xrequirefraction, n_require_fraction := b_xrequirefraction, k_require_fraction := k_xrequirefraction,
      f_fraction := _, d_fraction := _, F_fraction := F_xfraction, g_fraction := PySem.W.mg_of X G a_xfraction, n_fraction := b_xfraction, k_fraction := k_xfraction,
      f_order_of := _, d_order_of := _, F_order_of := F_xorderof, g_order_of := PySem.W.mg_of X G a_xorderof, n_order_of := b_xorderof, k_order_of := k_xorderof,
      f_compared := _, d_compared := _, F_compared := F_xcompared, g_compared := PySem.W.mg_of X G a_xcompared, n_compared := b_xcompared, k_compared := k_xcompared,
      f_sum_of_two := _, d_sum_of_two := _, F_sum_of_two := F_xsumoftwo, g_sum_of_two := PySem.W.mg_of X G a_xsumoftwo, n_sum_of_two := b_xsumoftwo, k_sum_of_two := k_xsumoftwo,
      f_total_of := _, d_total_of := _, F_total_of := F_xtotalof, g_total_of := PySem.W.mg_of X G a_xtotalof, n_total_of := b_xtotalof, k_total_of := k_xtotalof,
      f_middle := _, d_middle := _, F_middle := F_xmiddle, g_middle := PySem.W.mg_of X G a_xmiddle, n_middle := b_xmiddle, k_middle := k_xmiddle,
      f__law_numbers := _, d__law_numbers := _, F__law_numbers := F_xlawnumbers, g__law_numbers := PySem.W.mg_of X G a_xlawnumbers, n__law_numbers := b_xlawnumbers, k__law_numbers := k_xlawnumbers,
      f__law_draw := _, d__law_draw := _, F__law_draw := F_xlawdraw, g__law_draw := PySem.W.mg_of X G a_xlawdraw, n__law_draw := b_xlawdraw, k__law_draw := k_xlawdraw,
      f__law_fraction := _, d__law_fraction := _, F__law_fraction := F_xlawfraction, g__law_fraction := PySem.W.mg_of X G a_xlawfraction, n__law_fraction := b_xlawfraction, k__law_fraction := k_xlawfraction,
      f__law_whole := _, d__law_whole := _, F__law_whole := F_xlawwhole, g__law_whole := PySem.W.mg_of X G a_xlawwhole, n__law_whole := b_xlawwhole, k__law_whole := k_xlawwhole,
      f__law_heard := _, d__law_heard := _, F__law_heard := F_xlawheard, g__law_heard := PySem.W.mg_of X G a_xlawheard, n__law_heard := b_xlawheard, k__law_heard := k_xlawheard,
      f__law_one_right := _, d__law_one_right := _, F__law_one_right := F_xlawoneright, g__law_one_right := PySem.W.mg_of X G a_xlawoneright, n__law_one_right := b_xlawoneright, k__law_one_right := k_xlawoneright,
      f__law_sums_right := _, d__law_sums_right := _, F__law_sums_right := F_xlawsumsright, g__law_sums_right := PySem.W.mg_of X G a_xlawsumsright, n__law_sums_right := b_xlawsumsright, k__law_sums_right := k_xlawsumsright,
      f__law_odd_right := _, d__law_odd_right := _, F__law_odd_right := F_xlawoddright, g__law_odd_right := PySem.W.mg_of X G a_xlawoddright, n__law_odd_right := b_xlawoddright, k__law_odd_right := k_xlawoddright,
      f_law := _, d_law := _, F_law := F_xlaw, g_law := PySem.W.mg_of X G a_xlaw, n_law := b_xlaw, k_law := k_xlaw,
      b_ValueError := PySem.W.mg_none_of X G z_ValueError, b_abs := PySem.W.mg_none_of X G z_abs, b_bool := PySem.W.mg_none_of X G z_bool, b_enumerate := PySem.W.mg_none_of X G z_enumerate, b_int := PySem.W.mg_none_of X G z_int, b_isinstance := PySem.W.mg_none_of X G z_isinstance, b_len := PySem.W.mg_none_of X G z_len, b_list := PySem.W.mg_none_of X G z_list, b_max := PySem.W.mg_none_of X G z_max, b_range := PySem.W.mg_none_of X G z_range, b_repr := PySem.W.mg_none_of X G z_repr, b_str := PySem.W.mg_none_of X G z_str, b_tuple := PySem.W.mg_none_of X G z_tuple }
  exact ok_law G9
end K02
end
section
namespace K02
open PySem L2 VL

/-! ### numbers -/
theorem fmod_gcd (a b : Int) : Int.gcd b (a.fmod b) = Int.gcd a b := by
  rw [Int.fmod_def, Int.gcd_comm b, Int.gcd_sub_mul_left_left]
theorem fmod_small (a b : Int) (hb : b ≠ 0) : (a.fmod b).natAbs < b.natAbs := by
  rw [Int.fmod_eq_emod]
  have h1 := Int.emod_nonneg a hb
  have h2 := Int.emod_lt a hb
  split
  · omega
  · rename_i h
    have hneg : b < 0 := by
      rcases Int.lt_or_gt_of_ne hb with q | q
      · exact q
      · exact absurd (.inl (Int.le_of_lt q)) h
    have hne : a % b ≠ 0 := fun z => h (.inr (Int.dvd_of_emod_eq_zero z))
    omega
/-- the fraction of two numbers -/
def frG (n d : Int) : Int := if d < 0 then -(Int.gcd n d : Int) else (Int.gcd n d : Int)
def fr (n d : Int) : Int × Int := (n.fdiv (frG n d), d.fdiv (frG n d))
theorem gcd_pos {n d : Int} (hd : d ≠ 0) : 0 < (Int.gcd n d : Int) := by
  have : Int.gcd n d ≠ 0 := fun z => hd (Int.gcd_eq_zero_iff.mp z).2
  omega
theorem frG_ne {n d : Int} (hd : d ≠ 0) : frG n d ≠ 0 := by
  have := gcd_pos (n := n) hd
  unfold frG
  split <;> omega
theorem frG_dvd_left (n d : Int) : frG n d ∣ n := by
  unfold frG
  split
  · exact Int.neg_dvd.mpr (Int.gcd_dvd_left ..)
  · exact Int.gcd_dvd_left ..
theorem frG_dvd_right (n d : Int) : frG n d ∣ d := by
  unfold frG
  split
  · exact Int.neg_dvd.mpr (Int.gcd_dvd_right ..)
  · exact Int.gcd_dvd_right ..
theorem fr_mul_left (n d : Int) : frG n d * (fr n d).1 = n := Int.mul_fdiv_cancel' (frG_dvd_left n d)
theorem fr_mul_right (n d : Int) : frG n d * (fr n d).2 = d := Int.mul_fdiv_cancel' (frG_dvd_right n d)
theorem fr_pos {n d : Int} (hd : d ≠ 0) : 0 < (fr n d).2 := by
  have h := fr_mul_right n d
  have g := gcd_pos (n := n) hd
  by_cases hn : d < 0
  · have e : frG n d = -(Int.gcd n d : Int) := by simp [frG, hn]
    rw [e] at h
    refine Int.not_le.mp fun z => ?_
    have : 0 ≤ -(Int.gcd n d : Int) * (fr n d).2 := Int.mul_nonneg_of_nonpos_of_nonpos (by omega) z
    omega
  · have e : frG n d = (Int.gcd n d : Int) := by simp [frG, hn]
    rw [e] at h
    refine Int.not_le.mp fun z => ?_
    have : (Int.gcd n d : Int) * (fr n d).2 ≤ 0 := Int.mul_nonpos_of_nonneg_of_nonpos (by omega) z
    omega
theorem fr_one {n d : Int} (hd : d ≠ 0) : Int.gcd (fr n d).1 (fr n d).2 = 1 := by
  have h1 := fr_mul_left n d
  have h2 := fr_mul_right n d
  have e : Int.gcd (frG n d * (fr n d).1) (frG n d * (fr n d).2) = (frG n d).natAbs * Int.gcd (fr n d).1 (fr n d).2 := Int.gcd_mul_left ..
  rw [h1, h2] at e
  have g : (frG n d).natAbs = Int.gcd n d := by unfold frG; split <;> omega
  rw [g] at e
  have p := gcd_pos (n := n) hd
  have p2 : 0 < Int.gcd n d := by omega
  exact (Nat.eq_of_mul_eq_mul_left p2 (by rw [Nat.mul_one]; exact e)).symm
theorem fr_val (n d : Int) : (fr n d).1 * d = n * (fr n d).2 := by
  have h1 := fr_mul_left n d
  have h2 := fr_mul_right n d
  calc (fr n d).1 * d = (fr n d).1 * (frG n d * (fr n d).2) := by rw [h2]
    _ = (frG n d * (fr n d).1) * (fr n d).2 := by rw [← Int.mul_assoc, Int.mul_comm (fr n d).1]
    _ = n * (fr n d).2 := by rw [h1]
/-- two reduced fractions of one value are one -/
theorem red_unique {a b c d : Int} (hb : 0 < b) (hd : 0 < d) (h1 : Int.gcd a b = 1) (h2 : Int.gcd c d = 1) (h : a * d = c * b) : a = c ∧ b = d := by
  have k1 : b ∣ d := by
    have z : b ∣ a * d := ⟨c, by rw [h, Int.mul_comm]⟩
    have q := Int.dvd_gcd_mul_iff_dvd_mul.mpr z
    rw [Int.gcd_comm, h1] at q
    simpa using q
  have k2 : d ∣ b := by
    have z : d ∣ c * b := ⟨a, by rw [← h, Int.mul_comm]⟩
    have q := Int.dvd_gcd_mul_iff_dvd_mul.mpr z
    rw [Int.gcd_comm, h2] at q
    simpa using q
  have e : b = d := Int.dvd_antisymm (Int.le_of_lt hb) (Int.le_of_lt hd) k1 k2
  subst e
  exact ⟨Int.eq_of_mul_eq_mul_right (by omega) h, rfl⟩
theorem fr_eq {n d m e : Int} (hd : d ≠ 0) (he : e ≠ 0) (h : n * e = m * d) : fr n d = fr m e := by
  have v1 := fr_val n d
  have v2 := fr_val m e
  have p1 := fr_pos (n := n) hd
  have p2 := fr_pos (n := m) he
  have key : (fr n d).1 * (fr m e).2 = (fr m e).1 * (fr n d).2 := by
    have z : d * e ≠ 0 := Int.mul_ne_zero hd he
    refine Int.eq_of_mul_eq_mul_right z ?_
    calc (fr n d).1 * (fr m e).2 * (d * e) = ((fr n d).1 * d) * ((fr m e).2 * e) := by ac_rfl
      _ = (n * (fr n d).2) * ((fr m e).2 * e) := by rw [v1]
      _ = (n * e) * ((fr n d).2 * (fr m e).2) := by ac_rfl
      _ = (m * d) * ((fr n d).2 * (fr m e).2) := by rw [h]
      _ = (m * (fr m e).2) * ((fr n d).2 * d) := by ac_rfl
      _ = ((fr m e).1 * e) * ((fr n d).2 * d) := by rw [v2]
      _ = (fr m e).1 * (fr n d).2 * (d * e) := by ac_rfl
  obtain ⟨a, b⟩ := red_unique p1 p2 (fr_one hd) (fr_one he) key
  exact Prod.ext a b
theorem fr_self {n d : Int} (hd : 0 < d) (hg : Int.gcd n d = 1) : fr n d = (n, d) := by
  have e : frG n d = 1 := by
    unfold frG
    rw [if_neg (by omega), hg]
    rfl
  simp [fr, e]
end K02
end
section
namespace K02
open PySem L2 VL

/-! ### the program's defs on known values -/
@[simp] theorem isi_int_int {i : Int} {h : Hv} : mIsi [.int i, .ty "int"] h = .val (.bl true) h := by
  simp [mIsi, tyN, show kitB "int" "int" = some true from by decide +kernel]
@[simp] theorem isi_int_bool {i : Int} {h : Hv} : mIsi [.int i, .ty "bool"] h = .val (.bl false) h := by
  simp [mIsi, tyN, show kitB "int" "bool" = some false from by decide +kernel]
theorem isi_tup {p : Nat} {xs : List W} {h : Hv} (e : h[p]? = some (.tup xs)) : mIsi [.ref p, .ty "tuple"] h = .val (.bl true) h := by
  simp [mIsi, tyN, e, show kitB "tuple" "tuple" = some true from by decide +kernel]
theorem len_tup {p : Nat} {xs : List W} {h : Hv} (e : h[p]? = some (.tup xs)) : mLen [.ref p] h = .val (.int xs.length) h := by
  simp [mLen, e]
@[simp] theorem whole_int {i : Int} {h : Hv} : m_is_whole [.int i] h = .val (.bl true) h := by
  simp [m_is_whole, mDef_eq, startW]
/-- at p a pair of ints -/
def Pr (h : Hv) (p : Nat) (a b : Int) : Prop := h[p]? = some (.tup [.int a, .int b])
theorem Pr.old {h : Hv} {p : Nat} {a b : Int} (e : Pr h p a b) (t : Hv) : Pr (h ++ t) p a b := get_old e
theorem Pr.new {h : Hv} {a b : Int} : Pr (h ++ [.tup [.int a, .int b]]) h.length a b := get_last
theorem Pr.ix0 {h : Hv} {p : Nat} {a b : Int} (e : Pr h p a b) : mIx (.ref p) (.int 0) h = .val (.int a) h := mIx_tup e atI0
theorem Pr.ix1 {h : Hv} {p : Nat} {a b : Int} (e : Pr h p a b) : mIx (.ref p) (.int 1) h = .val (.int b) h := mIx_tup e atI1
theorem pair_eq {h : Hv} {p : Nat} {a b : Int} (e : Pr h p a b) : m_is_whole_pair [.ref p] h = .val (.bl true) h := by
  have e1 := isi_tup e
  have e2 := len_tup e
  simp [m_is_whole_pair, mDef_eq, startW, e1, e2, e.ix0, e.ix1]
theorem cd_loop : ∀ (n : Nat) (a b : Int) (h : Hv), b.natAbs < n →
    ∃ x : Int, x.natAbs = Int.gcd a b ∧ whileM (mT (m2 (mEq true) (mVar 1) (mC (.int 0)))) (mPar 0 1 (mCons (mVar 1) (mCons (m2 mMod (mVar 0) (mVar 1)) mNil))) n [some (.int a), some (.int b)] h = .nx [some (.int x), some (.int 0)] h
  | 0, a, b, h, hn => by omega
  | n + 1, a, b, h, hn => by
    unfold whileM
    by_cases hb : b = 0
    · subst hb
      exact ⟨a, by simp, by simp⟩
    · obtain ⟨x, h1, h2⟩ := cd_loop n b (a.fmod b) h (by have := fmod_small a b hb; omega)
      refine ⟨x, by rw [h1, fmod_gcd], ?_⟩
      simp [hb, mPar, mMod_int hb]
      exact h2
theorem cd_eq (a b : Int) (h : Hv) : m_common_divisor [.int a, .int b] h = .val (.int (Int.gcd a b : Int)) h := by
  obtain ⟨x, h1, h2⟩ := cd_loop (b.natAbs + 1) a b h (Nat.lt_succ_self _)
  simp only [m_common_divisor, mDef_eq, startW, mSeq_eq, mWhile, fuel_common_divisor, List.map, List.length, List.replicate, List.append_nil, List.getElem?_cons_succ, List.getElem?_cons_zero, Nat.sub_self]
  rw [h2]
  simp [h1]
theorem isf_eq {h : Hv} {p : Nat} {a b : Int} (e : Pr h p a b) : m_is_fraction [.ref p] h = .val (.bl (decide (1 ≤ b) && decide (Int.gcd a b = 1))) h := by
  have e1 := pair_eq e
  by_cases hb : 1 ≤ b
  · simp [m_is_fraction, mDef_eq, startW, e1, e.ix0, e.ix1, hb, cd_eq]
    omega
  · simp [m_is_fraction, mDef_eq, startW, e1, e.ix1, hb]
theorem req_eq {h : Hv} {p : Nat} {a b : Int} (e : Pr h p a b) (hb : 1 ≤ b) (hg : Int.gcd a b = 1) : m_require_fraction [.ref p] h = .val .non h := by
  simp [m_require_fraction, mDef_eq, startW, isf_eq e, hb, hg]
/-- a number of so many bits at most -/
def Sm (i : Int) : Prop := i.natAbs < 2 ^ 1000
theorem log_le {a b : Nat} (h : a < 2 ^ b) (hb : 0 < b) : a.log2 < b := PySem.Flt.log2_lt_of hb h
theorem Sm.log {i : Int} (h : Sm i) : i.natAbs.log2 < 1000 := log_le h (by decide)
theorem gcd_sm {n d : Int} (hd : d ≠ 0) (h : Sm d) : (Int.gcd n d) < 2 ^ 1000 := by
  have z : Int.gcd n d ∣ d.natAbs := Int.gcd_dvd_natAbs_right ..
  have y : Int.gcd n d ≤ d.natAbs := Nat.le_of_dvd (by omega) z
  exact Nat.lt_of_le_of_lt y h
theorem fraction_eq {h : Hv} {n d : Int} (hd : d ≠ 0) (hs : Sm d) : m_fraction [.int n, .int d] h = .val (.ref h.length) (h ++ [.tup [.int (fr n d).1, .int (fr n d).2]]) := by
  have g1 := gcd_sm (n := n) hd hs
  have g0 := gcd_pos (n := n) hd
  have l1 : (Int.gcd n d).log2 < 9000 := Nat.lt_trans (log_le g1 (by decide)) (by decide)
  by_cases hn : d < 0
  · have e : frG n d = -(Int.gcd n d : Int) := by simp [frG, hn]
    have ne : -(Int.gcd n d : Int) ≠ 0 := by omega
    have l2 : (-(Int.gcd n d : Int)).natAbs.log2 < 9000 := by simpa using l1
    simp [m_fraction, mDef_eq, startW, hd, hn, cd_eq, mDiv_int ne l2, fr, e]
  · have e : frG n d = (Int.gcd n d : Int) := by simp [frG, hn]
    have ne : (Int.gcd n d : Int) ≠ 0 := by omega
    have l2 : ((Int.gcd n d : Int)).natAbs.log2 < 9000 := by simpa using l1
    simp [m_fraction, mDef_eq, startW, hd, hn, cd_eq, mDiv_int ne l2, fr, e]
end K02
end
section
namespace K02
open PySem L2 VL

theorem mul_sm {i j : Int} {h : Hv} (hi : Sm i) (hj : Sm j) : mMul (.int i) (.int j) h = .val (.int (i * j)) h := mMul_int (by have := hi.log; have := hj.log; omega)
/-! ### the law's own fraction -/
theorem lf_loop (n d : W) : ∀ (k : Nat) (o t : Int) (h : Hv), 0 ≤ o → 0 ≤ t → o.natAbs < k →
    whileM (mT (m2 mGt (mVar 2) (mC (.int 0)))) (mPar 2 3 (mCons (m2 mMod (mVar 3) (mVar 2)) (mCons (mVar 2) mNil))) k [some n, some d, some (.int o), some (.int t)] h = .nx [some n, some d, some (.int 0), some (.int (Int.gcd o t : Int))] h
  | 0, o, t, h, h1, h2, hk => by omega
  | k + 1, o, t, h, h1, h2, hk => by
    unfold whileM
    by_cases ho : o = 0
    · subst ho
      have e : (t.natAbs : Int) = t := by omega
      simp [e]
    · have p : 0 < o := by omega
      have s := fmod_small t o ho
      have nn : 0 ≤ t.fmod o := Int.fmod_nonneg_of_pos t p
      have ih := lf_loop n d k (t.fmod o) o h nn h1 (by omega)
      have g : Int.gcd (t.fmod o) o = Int.gcd o t := by rw [Int.gcd_comm, fmod_gcd, Int.gcd_comm]
      rw [g] at ih
      simp [p, mPar, mMod_int ho]
      exact ih
theorem lfr_eq {h : Hv} {n d : Int} (hd : 0 < d) (hs : Sm d) : m__law_fraction [.int n, .int d] h = .val (.ref h.length) (h ++ [.tup [.int (fr n d).1, .int (fr n d).2]]) := by
  have hd0 : d ≠ 0 := by omega
  have g1 := gcd_sm (n := n) hd0 hs
  have g0 := gcd_pos (n := n) hd0
  have l1 : (Int.gcd n d).log2 < 9000 := Nat.lt_trans (log_le g1 (by decide)) (by decide)
  have e : frG n d = (Int.gcd n d : Int) := by simp [frG, show ¬ d < 0 by omega]
  have ne : (Int.gcd n d : Int) ≠ 0 := by omega
  have l2 : ((Int.gcd n d : Int)).natAbs.log2 < 9000 := by simpa using l1
  have ab : max n (-n) = (n.natAbs : Int) := by omega
  have lp := lf_loop (.int n) (.int d) (n.natAbs + 1) (n.natAbs : Int) d h (by omega) (by omega) (by omega)
  have gg : Int.gcd (n.natAbs : Int) d = Int.gcd n d := by simp [Int.gcd]
  rw [gg] at lp
  simp only [m__law_fraction, mDef_eq, startW, mSeq_eq, List.map, List.length, List.replicate, List.cons_append, List.nil_append, Nat.reduceSub, Nat.reduceAdd]
  have st : (mPar 2 3 (mCons (mB mMax (mCons (mVar 0) (mCons (m1 mNeg (mVar 0)) mNil))) (mCons (mVar 1) mNil))) [some (.int n), some (.int d), none, none] h = .nx [some (.int n), some (.int d), some (.int (n.natAbs : Int)), some (.int d)] h := by
    simp [mPar, ab]
  rw [st]
  simp only [thenS_nx, mSeq_eq, mWhile, fuel__law_fraction, List.getElem?_cons_succ, List.getElem?_cons_zero, Int.natAbs_natCast]
  rw [lp]
  simp [mDiv_int ne l2, fr, e]
end K02
end
section
namespace K02
open PySem L2 VL

/-! ### loops over a range -/
theorem for_rng {n : Nat} {lo : Int} {s : Nat} {b : MS} (I : Nat → Ws → Hv → Prop) (step : ∀ i r h, i < n → I i r h → ∃ r' h', b (r.set s (some (.int (lo + i)))) h = .nx r' h' ∧ I (i + 1) r' h') :
    ∀ (k i : Nat) (r : Ws) (h : Hv), i + k = n → I i r h → ∃ r' h', VL.forM (nxR lo n) (mGn s) b (k + 1) i r h = .nx r' h' ∧ I n r' h'
  | 0, i, r, h, hk, hi => by
    have e : i = n := by omega
    subst e
    refine ⟨r, h, ?_, hi⟩
    unfold VL.forM
    simp [nxR]
  | k + 1, i, r, h, hk, hi => by
    obtain ⟨r1, h1, e1, i1⟩ := step i r h (by omega) hi
    obtain ⟨r2, h2, e2, i2⟩ := for_rng I step k (i + 1) r1 h1 (by omega) i1
    refine ⟨r2, h2, ?_, i2⟩
    unfold VL.forM
    simp only [nxR, show i < n by omega, if_true, mGn_eq, e1]
    exact e2

/-! ### the drawn numbers -/
def IsI (w : W) : Prop := ∃ i : Int, w = .int i
theorem app_last {h : Hv} {r : Ws} {acc : List W} {w : W} {fo fe : Ws → Hv → Res W} (hl : acc.length < 100000) (e1 : fo r (h ++ [.lst acc]) = .val (.ref h.length) (h ++ [.lst acc])) (e2 : fe r (h ++ [.lst acc]) = .val w (h ++ [.lst acc])) :
    mApp fo fe r (h ++ [.lst acc]) = .val .non (h ++ [.lst (acc ++ [w])]) := by
  have s : (h ++ [O.lst acc]).set h.length (.lst (acc ++ [w])) = h ++ [.lst (acc ++ [w])] := by simp
  simp [mApp, e1, e2, hl, s]
theorem sz_at {h t : Hv} {p : Nat} {m : Nat} {i : Nat} (e : h[p]? = some (.lst (List.replicate m (.int 420)))) (hi : i < m) : mIx (.ref p) (.int (i : Int)) (h ++ t) = .val (.int 420) (h ++ t) :=
  mIx_lst (get_old e) (atI_nat (by simp [hi]))
theorem mul64 {i j : Int} {h : Hv} (h1 : i.natAbs < 2 ^ 64) (h2 : j.natAbs < 2 ^ 64) : mMul (.int i) (.int j) h = .val (.int (i * j)) h := mMul_int (by have := log_le h1 (by decide); have := log_le h2 (by decide); omega)
theorem fmod_in (a : Int) {b : Int} (hb : 0 < b) : 0 ≤ a.fmod b ∧ a.fmod b < b := ⟨Int.fmod_nonneg_of_pos a hb, Int.fmod_lt_of_pos a hb⟩
theorem mod420 {i : Int} {h : Hv} : mMod (.int i) (.int 420) h = .val (.int (i.fmod 420)) h := mMod_int (by decide)
theorem div420 {i : Int} {h : Hv} : mDiv (.int i) (.int 420) h = .val (.int (i.fdiv 420)) h := mDiv_int (by decide) (by decide +kernel)
theorem div16 {i : Int} {h : Hv} : mDiv (.int i) (.int 16) h = .val (.int (i.fdiv 16)) h := mDiv_int (by decide) (by decide +kernel)
theorem modM {i : Int} {h : Hv} : mMod (.int i) (.int 2147483629) h = .val (.int (i.fmod 2147483629)) h := mMod_int (by decide)
theorem modN {i : Int} {h : Hv} : mMod (.int i) (.int 2147483647) h = .val (.int (i.fmod 2147483647)) h := mMod_int (by decide)
theorem pow18 {h : Hv} : mPow (.int 10) (.int 18) h = .val (.int 1000000000000000000) h := mPow_int (by decide) (by decide) (by decide)
theorem pow64 {i : Int} {j : Nat} {h : Hv} (h1 : i.natAbs < 2 ^ 64) (hj : j ≤ 1000) : mPow (.int i) (.int (j : Int)) h = .val (.int (i ^ j)) h := by
  have := mPow_int (i := i) (j := (j : Int)) (h := h) (by omega) (by omega) h1
  simpa using this
abbrev numBody : MS := (mIfS (mAndT (mT (m2 mGe (mVar 3) (m2 mPow (mC (.int 10)) (mC (.int 18))))) (mT (m2 mGt (mVar 4) (mC (.int 0))))) (mSeq (mExpr (mApp (mVar 5) (m2 mMod (mVar 4) (m2 mIx (mVar 2) (mVar 6)))))
    (mSet 4 (m2 mDiv (mVar 4) (m2 mIx (mVar 2) (mVar 6))))) (mSeq (mSet 7 (m2 mMod (m2 mPow (m2 mAdd (m2 mAdd (m2 mMod (mVar 3) (mC (.int 2147483629))) (m2 mMul (mC (.int 7919)) (mVar 1))) (mC (.int 1))) (mC (.int 3))) (mC (.int 2147483647))))
    (mSeq (mSet 7 (m2 mMod (m2 mMul (m2 mAdd (mVar 7) (m2 mMul (mC (.int 104729)) (m2 mAdd (mVar 6) (mC (.int 1))))) (m2 mAdd (mVar 6) (mC (.int 3)))) (mC (.int 2147483629))))
    (mSeq (mSet 7 (m2 mMod (m2 mMul (m2 mMod (m2 mPow (mVar 7) (mC (.int 5))) (mC (.int 2147483647))) (mC (.int 48271))) (mC (.int 2147483629))))
    (mExpr (mApp (mVar 5) (m2 mMod (m2 mDiv (mVar 7) (mC (.int 16))) (m2 mIx (mVar 2) (mVar 6)))))))))
abbrev numEnv (cell salt : Int) (p : Nat) (wh lf : Int) (q : Nat) (kk on : Option W) : Ws := [some (.int cell), some (.int salt), some (.ref p), some (.int wh), some (.int lf), some (.ref q), kk, on]
theorem num_big {h : Hv} {p m i : Nat} {cell salt wh lf : Int} {on : Option W} {acc : List W} (e : h[p]? = some (.lst (List.replicate m (.int 420)))) (hi : i < m) (al : acc.length < 100000) (c1 : (1000000000000000000 : Int) ≤ wh) (c2 : 0 < lf) :
    numBody (numEnv cell salt p wh lf h.length (some (.int i)) on) (h ++ [.lst acc]) = .nx (numEnv cell salt p wh (lf.fdiv 420) h.length (some (.int i)) on) (h ++ [.lst (acc ++ [.int (lf.fmod 420)])]) := by
  have ix := sz_at (t := [.lst acc]) e hi
  have ix2 := sz_at (t := [.lst (acc ++ [.int (lf.fmod 420)])]) e hi
  have ap : mApp (mVar 5) (m2 mMod (mVar 4) (m2 mIx (mVar 2) (mVar 6))) (numEnv cell salt p wh lf h.length (some (.int i)) on) (h ++ [.lst acc]) = .val .non (h ++ [.lst (acc ++ [.int (lf.fmod 420)])]) :=
    app_last al (by simp [numEnv]) (by simp [numEnv, ix, mod420])
  simp only [numEnv] at ap
  simp [numEnv, numBody, pow18, c1, c2, ap, ix2, div420]
theorem num_small {h : Hv} {p m i : Nat} {cell salt wh lf : Int} {on : Option W} {acc : List W} (e : h[p]? = some (.lst (List.replicate m (.int 420)))) (hi : i < m) (hm : m ≤ 1000) (al : acc.length < 100000) (s0 : 0 ≤ salt) (s1 : salt ≤ 100000) (c : ¬ ((1000000000000000000 : Int) ≤ wh ∧ 0 < lf)) :
    ∃ v o : Int, numBody (numEnv cell salt p wh lf h.length (some (.int i)) on) (h ++ [.lst acc]) = .nx (numEnv cell salt p wh lf h.length (some (.int i)) (some (.int o))) (h ++ [.lst (acc ++ [.int v])]) := by
  have ix := sz_at (t := [.lst acc]) e hi
  obtain ⟨a1, a2⟩ := fmod_in wh (show (0 : Int) < 2147483629 by decide)
  have b1 : (wh.fmod 2147483629 + 7919 * salt + 1).natAbs < 2 ^ 64 := by omega
  generalize hx : ((wh.fmod 2147483629 + 7919 * salt + 1) ^ 3).fmod 2147483647 = x
  obtain ⟨x1, x2⟩ := fmod_in ((wh.fmod 2147483629 + 7919 * salt + 1) ^ 3) (show (0 : Int) < 2147483647 by decide)
  rw [hx] at x1 x2
  generalize hy : ((x + 104729 * ((i : Int) + 1)) * ((i : Int) + 3)).fmod 2147483629 = y
  obtain ⟨y1, y2⟩ := fmod_in ((x + 104729 * ((i : Int) + 1)) * ((i : Int) + 3)) (show (0 : Int) < 2147483629 by decide)
  rw [hy] at y1 y2
  obtain ⟨z1, z2⟩ := fmod_in (y ^ 5) (show (0 : Int) < 2147483647 by decide)
  have t1 : (if (1000000000000000000 : Int) ≤ wh then decide (0 < lf) else false) = false := by
    split
    · rename_i q
      exact decide_eq_false fun z => c ⟨q, z⟩
    · rfl
  refine ⟨(((((y ^ 5).fmod 2147483647) * 48271).fmod 2147483629).fdiv 16).fmod 420, (((y ^ 5).fmod 2147483647) * 48271).fmod 2147483629, ?_⟩
  have p3 := pow64 (h := h ++ [.lst acc]) b1 (show 3 ≤ 1000 by decide)
  have p5 := pow64 (i := y) (h := h ++ [.lst acc]) (by omega) (show 5 ≤ 1000 by decide)
  have q1 := mul64 (i := 7919) (j := salt) (h := h ++ [.lst acc]) (by decide) (by omega)
  have q2 := mul64 (i := 104729) (j := (i : Int) + 1) (h := h ++ [.lst acc]) (by decide) (by omega)
  have q3 := mul64 (i := x + 104729 * ((i : Int) + 1)) (j := (i : Int) + 3) (h := h ++ [.lst acc]) (by omega) (by omega)
  have q4 := mul64 (i := (y ^ 5).fmod 2147483647) (j := 48271) (h := h ++ [.lst acc]) (by omega) (by decide)
  have p3' : mPow (.int (wh.fmod 2147483629 + 7919 * salt + 1)) (.int 3) (h ++ [.lst acc]) = .val (.int ((wh.fmod 2147483629 + 7919 * salt + 1) ^ 3)) (h ++ [.lst acc]) := p3
  have p5' : mPow (.int y) (.int 5) (h ++ [.lst acc]) = .val (.int (y ^ 5)) (h ++ [.lst acc]) := p5
  have ap : ∀ o : Int, mApp (mVar 5) (m2 mMod (m2 mDiv (mVar 7) (mC (.int 16))) (m2 mIx (mVar 2) (mVar 6))) (numEnv cell salt p wh lf h.length (some (.int i)) (some (.int o))) (h ++ [.lst acc]) = .val .non (h ++ [.lst (acc ++ [.int ((o.fdiv 16).fmod 420)])]) := fun o =>
    app_last al (by simp [numEnv]) (by simp [numEnv, ix, mod420, div16])
  have t2 : (mAndT (mT (m2 mGe (mVar 3) (m2 mPow (mC (.int 10)) (mC (.int 18))))) (mT (m2 mGt (mVar 4) (mC (.int 0))))) (numEnv cell salt p wh lf h.length (some (.int i)) on) (h ++ [.lst acc]) = .val false (h ++ [.lst acc]) := by
    by_cases q : (1000000000000000000 : Int) ≤ wh
    · have : ¬ 0 < lf := fun z => c ⟨q, z⟩
      simp [numEnv, pow18, q, this]
    · simp [numEnv, pow18, q]
  simp only [numBody, mIfS_eq, t2, andS_val, mSeq_eq]
  simp only [mSet_eq, m2_eq, mVar0, mVarS, bind_val, mC_eq, modM, modN, q1, mAdd_int, p3', hx, andS_val, thenS_nx, mSeq_eq, List.set, q2, q3, hy, p5', q4, mExpr_eq]
  simp only [if_false, Bool.false_eq_true, andS_val, thenS_nx, List.set, mSeq_eq, mSet_eq, m2_eq, mVar0, mVarS, bind_val, mC_eq, modM, modN, q1, mAdd_int, p3', hx, q2, q3, hy, p5', q4, mExpr_eq]
  have ap1 := ap ((((y ^ 5).fmod 2147483647) * 48271).fmod 2147483629)
  rw [ap1]
  rfl
theorem rgB_small {m : Nat} (hm : m ≤ 1000) : rgB (m : Int) = true := by
  unfold rgB
  rw [Bool.and_eq_true]
  exact ⟨decide_eq_true (by omega), decide_eq_true (by omega)⟩
theorem src_rng {m : Nat} {g : Hv} (hm : m ≤ 1000) : srcR [.int (m : Int)] g = .val ⟨m + 1, nxR 0 m⟩ g := by
  have e : srcR [.int (m : Int)] g = (if rgB (m : Int) then .val ⟨(m : Int).toNat + 1, nxR 0 (m : Int).toNat⟩ g else .bad) := by simp only [srcR]
  rw [e, if_pos (rgB_small hm), Int.toNat_natCast]
theorem mRng_of {m : Nat} {g : Hv} {r : Ws} {f : Ws → Hv → Res (List W)} (hm : m ≤ 1000) (el : f r g = .val [.int (m : Int)] g) : mRng f r g = .val ⟨m + 1, nxR 0 m⟩ g := by
  unfold mRng
  rw [el, bind_val, src_rng hm]
theorem numbers_run {h : Hv} {p m : Nat} {cell salt wh lf : Int} {kk on : Option W} {acc : List W} (e : h[p]? = some (.lst (List.replicate m (.int 420)))) (hm : m ≤ 1000)
    (e1 : VL.forM (nxR 0 m) (mGn 6) numBody (m + 1) 0 (numEnv cell salt p (max cell (-1 - cell)) (max cell (-1 - cell)) h.length none none) (h ++ [.lst []]) = .nx (numEnv cell salt p wh lf h.length kk on) (h ++ [.lst acc])) :
    m__law_numbers [.int cell, .int salt, .ref p] h = .val (.ref h.length) (h ++ [.lst acc]) := by
  have el : mLen [.ref p] (h ++ [.lst []]) = .val (.int m) (h ++ [.lst []]) := by
    simp [mLen, get_old e]
  have rg : rgB (m : Int) = true := rgB_small hm
  have z : (m : Int).toNat = m := by omega
  have fr : mFor (mRng (mCons (mB mLen (mCons (mVar 2) mNil)) mNil)) (mGn 6) numBody (numEnv cell salt p (max cell (-1 - cell)) (max cell (-1 - cell)) h.length none none) (h ++ [.lst []]) = .nx (numEnv cell salt p wh lf h.length kk on) (h ++ [.lst acc]) := by
    have src : mRng (mCons (mB mLen (mCons (mVar 2) mNil)) mNil) (numEnv cell salt p (max cell (-1 - cell)) (max cell (-1 - cell)) h.length none none) (h ++ [.lst []]) = .val ⟨m + 1, nxR 0 m⟩ (h ++ [.lst []]) :=
      mRng_of hm (by simp only [mCons_eq, mB_eq, mVarS, mVar0, mNil_eq, bind_val, el])
    unfold mFor
    rw [src, andS_val]
    exact e1
  unfold m__law_numbers
  rw [mDef_eq]
  simp only [mSeq_eq]
  have st1 : (mSet 3 (mB mMax (mCons (mVar 0) (mCons (m2 mSub (m1 mNeg (mC (.int 1))) (mVar 0)) mNil)))) (startW ["_law_cell", "_law_salt", "_law_sizes", "_law_whole_here", "_law_left", "_law_result", "_law_k", "_law_one"] [.int cell, .int salt, .ref p]) h = .nx [some (.int cell), some (.int salt), some (.ref p), some (.int (max cell (-1 - cell))), none, none, none, none] h := by
    simp [startW]
  rw [st1, thenS_nx]
  simp only [mSeq_eq, mSet_eq, mVarS, mVar0, andS_val, thenS_nx, List.set, mLst_eq, mNil_eq, bind_val, List.length_nil, Nat.zero_le, if_true, mNew_eq]
  show endS (thenS (mFor _ _ numBody (numEnv cell salt p (max cell (-1 - cell)) (max cell (-1 - cell)) h.length none none) (h ++ [.lst []])) _) = _
  rw [fr]
  rfl
theorem numbers_ok {h : Hv} {p m : Nat} {cell salt : Int} (e : h[p]? = some (.lst (List.replicate m (.int 420)))) (hm : m ≤ 1000) (s0 : 0 ≤ salt) (s1 : salt ≤ 100000) :
    ∃ acc, m__law_numbers [.int cell, .int salt, .ref p] h = .val (.ref h.length) (h ++ [.lst acc]) ∧ ∀ w ∈ acc, IsI w := by
  have lp := for_rng (n := m) (lo := 0) (s := 6) (b := numBody) (fun i r g => ∃ (wh lf : Int) (kk on : Option W) (acc : List W), r = numEnv cell salt p wh lf h.length kk on ∧ g = h ++ [.lst acc] ∧ acc.length = i ∧ ∀ w ∈ acc, IsI w) ?_
  · obtain ⟨r', g', e1, wh, lf, kk, on, acc, rfl, rfl, hl, ha⟩ := lp m 0 (numEnv cell salt p (max cell (-1 - cell)) (max cell (-1 - cell)) h.length none none) (h ++ [.lst []]) (by omega) ⟨_, _, none, none, [], rfl, rfl, rfl, by simp⟩
    exact ⟨acc, numbers_run e hm e1, ha⟩
  · rintro i r g hi ⟨wh, lf, kk, on, acc, rfl, rfl, hl, ha⟩
    have al : acc.length < 100000 := by omega
    have zi : (0 : Int) + (i : Int) = (i : Int) := by omega
    have se : (numEnv cell salt p wh lf h.length kk on).set 6 (some (.int (0 + (i : Int)))) = numEnv cell salt p wh lf h.length (some (.int i)) on := by rw [zi]; rfl
    rw [se]
    have mem : ∀ v : Int, ∀ w ∈ acc ++ [W.int v], IsI w := fun v w hw => by
      rcases List.mem_append.mp hw with q | q
      · exact ha w q
      · exact ⟨v, List.mem_singleton.mp q⟩
    by_cases c : (1000000000000000000 : Int) ≤ wh ∧ 0 < lf
    · exact ⟨_, _, num_big e hi al c.1 c.2, wh, _, _, on, _, rfl, rfl, by simp [hl], mem _⟩
    · obtain ⟨v, o, q⟩ := num_small (cell := cell) (on := on) e hi hm al s0 s1 c
      exact ⟨_, _, q, wh, lf, _, _, _, rfl, rfl, by simp [hl], mem _⟩

/-! ### the state -/
/-- at p a state: a list of a list of ints, at q, and a place -/
def Sta (h : Hv) (p q : Nat) : Prop := ∃ (at_ : Nat) (nums : List W), h[p]? = some (.lst [.ref q, .int at_]) ∧ p ≠ q ∧ h[q]? = some (.lst nums) ∧ ∀ w ∈ nums, IsI w
/-- what a piece that draws leaves: the state, and all else as it was -/
structure Go (p q : Nat) (h h' : Hv) : Prop where
  st : Sta h' p q
  ln : h.length ≤ h'.length
  kp : ∀ i o, i ≠ p → h[i]? = some o → h'[i]? = some o
theorem Go.refl {p q : Nat} {h : Hv} (s : Sta h p q) : Go p q h h := ⟨s, Nat.le_refl _, fun _ _ _ e => e⟩
theorem Go.trans {p q : Nat} {h h1 h2 : Hv} (a : Go p q h h1) (b : Go p q h1 h2) : Go p q h h2 := ⟨b.st, Nat.le_trans a.ln b.ln, fun i o n e => b.kp i o n (a.kp i o n e)⟩
theorem Sta.more {p q : Nat} {h : Hv} (s : Sta h p q) (t : Hv) : Sta (h ++ t) p q := by
  obtain ⟨k, nums, e1, ne, e2, hn⟩ := s
  exact ⟨k, nums, get_old e1, ne, get_old e2, hn⟩
theorem Go.more {p q : Nat} {h h1 : Hv} (a : Go p q h h1) (t : Hv) : Go p q h (h1 ++ t) := ⟨a.st.more t, by simp; have := a.ln; omega, fun i o n e => get_old (a.kp i o n e)⟩
theorem Sta.lt {p q : Nat} {h : Hv} (s : Sta h p q) : p < h.length := by
  obtain ⟨k, nums, e1, _⟩ := s
  exact (List.getElem?_eq_some_iff.mp e1).1
theorem Sta.ltq {p q : Nat} {h : Hv} (s : Sta h p q) : q < h.length := by
  obtain ⟨k, nums, _, _, e1, _⟩ := s
  exact (List.getElem?_eq_some_iff.mp e1).1
theorem Go.pr {p q : Nat} {h h1 : Hv} (a : Go p q h h1) (s : Sta h p q) {x : Nat} {i j : Int} (e : Pr h x i j) : Pr h1 x i j := a.kp x _ (fun z => by
  obtain ⟨k, nums, e1, _⟩ := s
  unfold Pr at e
  rw [z, e1] at e
  cases e) e
theorem draw_ok {h : Hv} {p q : Nat} {many : Int} (s : Sta h p q) (hm : 0 < many) : ∃ v h', m__law_draw [.ref p, .int many] h = .val (.int v) h' ∧ 0 ≤ v ∧ v < many ∧ Go p q h h' := by
  obtain ⟨k, nums, e1, ne, e2, hn⟩ := s
  have hp : p < h.length := (List.getElem?_eq_some_iff.mp e1).1
  have s1 : (h.set p (.lst [.ref q, .int ((k : Int) + 1)]))[p]? = some (.lst [.ref q, .int ((k : Int) + 1)]) := List.getElem?_set_self hp
  have s2 : (h.set p (.lst [.ref q, .int ((k : Int) + 1)]))[q]? = some (.lst nums) := by rw [List.getElem?_set_ne ne]; exact e2
  have go : Go p q h (h.set p (.lst [.ref q, .int ((k : Int) + 1)])) := ⟨⟨k + 1, nums, by simpa using s1, ne, s2, hn⟩, by simp, fun i o n e => by rw [List.getElem?_set_ne (Ne.symm n)]; exact e⟩
  have ix1 : mIx (.ref p) (.int 1) h = .val (.int k) h := mIx_lst e1 atI1
  have x0 : mIx (.ref p) (.int 0) (h.set p (.lst [.ref q, .int ((k : Int) + 1)])) = .val (.ref q) (h.set p (.lst [.ref q, .int ((k : Int) + 1)])) := mIx_lst s1 atI0
  have ln : mLen [.ref q] (h.set p (.lst [.ref q, .int ((k : Int) + 1)])) = .val (.int nums.length) (h.set p (.lst [.ref q, .int ((k : Int) + 1)])) := by simp [mLen, s2]
  have n1 : ixN 2 1 = some 1 := by decide
  have m0 : many ≠ 0 := by omega
  by_cases hk : k < nums.length
  · obtain ⟨z, hz⟩ := hn nums[k] (List.getElem_mem hk)
    have xk : mIx (.ref q) (.int k) (h.set p (.lst [.ref q, .int ((k : Int) + 1)])) = .val (.int z) (h.set p (.lst [.ref q, .int ((k : Int) + 1)])) := mIx_lst s2 (atI_nat (by simp [hk, hz]))
    obtain ⟨f1, f2⟩ := fmod_in z hm
    refine ⟨_, _, ?_, f1, f2, go⟩
    simp [m__law_draw, mDef_eq, startW, ix1, mAsg, mSub1, e1, n1, x0, ln, hk, xk, mMod_int m0]
  · refine ⟨0, _, ?_, Int.le_refl _, hm, go⟩
    simp [m__law_draw, mDef_eq, startW, ix1, mAsg, mSub1, e1, n1, x0, ln, hk]
end K02
end
section
namespace K02
open PySem L2 VL
/-! ### what the law asks of odd values does not hang on the script -/
def isT : Res W → Bool
  | .val (.bl true) _ => true
  | _ => false
theorem odd_true : isT (m__law_odd_right [] []) = true := by decide +kernel
theorem odd_ok {r : Ws} {h : Hv} : mFresh m__law_odd_right r h = .val (.bl true) h := by
  have e := odd_true
  unfold mFresh
  generalize m__law_odd_right [] [] = x at e
  match x, e with
  | .val (.bl true) _, _ => rfl

/-! ### pairs as data -/
theorem toD_pr {h : Hv} {p : Nat} {a b : Int} (e : Pr h p a b) : toD dF h (.ref p) = some (.tuple [.int a, .int b]) := by
  unfold Pr at e
  simp [dF, toD, e, optAll]
theorem shaped_pr (a b : Int) : SeqAt.shaped (.tuple [.int a, .int b]) = true := by
  simp [SeqAt.shaped, PyData.canLay0, PyData.canLayAll0, PyData.depth, PyData.depthAll]
theorem ne_pr {h : Hv} {p q : Nat} {a b : Int} (e1 : Pr h p a b) (e2 : Pr h q a b) : mEq true (.ref p) (.ref q) h = .val (.bl false) h := by
  simp [mEq, toD_pr e1, toD_pr e2, shaped_pr, PyData.eqv, PyData.eqvAll]
theorem eq_pr {h : Hv} {p q : Nat} {a b : Int} (e1 : Pr h p a b) (e2 : Pr h q a b) : mEq false (.ref p) (.ref q) h = .val (.bl true) h := by
  simp [mEq, toD_pr e1, toD_pr e2, shaped_pr, PyData.eqv, PyData.eqvAll]
theorem shaped_none : SeqAt.shaped .none = true := by
  simp [SeqAt.shaped, PyData.canLay0, PyData.depth]
theorem ne_non {h : Hv} : mEq true .non .non h = .val (.bl false) h := by
  have e : toD dF h .non = some .none := rfl
  simp [mEq, e, shaped_none, PyData.eqv]
theorem strOk_of (s : String) : PyData.strOk (Str.ofString s) = true := by
  rw [Str.ofString_eq_toList]
  simp only [PyData.strOk, List.all_toArray, List.all_map, List.all_eq_true]
  intro c hc
  have := c.valid
  simp only [Function.comp, decide_eq_true_eq]
  have h : c.toNat < 0x110000 := by
    rcases this with q | q
    · have : c.val.toNat < 0xd800 := q
      show c.val.toNat < 0x110000
      omega
    · exact q.2
  exact h
theorem strOk_app {a b : Str} (h1 : PyData.strOk a = true) (h2 : PyData.strOk b = true) : PyData.strOk (a ++ b) = true := by
  unfold PyData.strOk at *
  rw [Str.cps_append]
  simp only [Array.all_append, h1, h2, Bool.and_self]
theorem shown_pr (a b : Int) : (PyData.tuple [.int a, .int b]).shown = ((("(" : Str) ++ ((Str.ofString (toString a) ++ (", " : Str)) ++ Str.ofString (toString b))) ++ (")" : Str)) := rfl
theorem repr_ok (a b : Int) : PyData.strOk (PyData.tuple [.int a, .int b]).shown = true := by
  rw [shown_pr]
  exact strOk_app (strOk_app (strOk_of _) (strOk_app (strOk_app (strOk_of _) (strOk_of _)) (strOk_of _))) (strOk_of _)
theorem repr_len {a b : Int} (ha : a.natAbs.log2 < 1920) (hb : b.natAbs.log2 < 1920) : (PyData.tuple [.int a, .int b]).shown.length ≤ 100000 := by
  rw [shown_pr]
  have l1 := PyProof.Rows.int_text_len_1921 ha
  have l2 := PyProof.Rows.int_text_len_1921 hb
  have k1 : ("(" : Str).length = 1 := by decide +kernel
  have k2 : (", " : Str).length = 2 := by decide +kernel
  have k3 : (")" : Str).length = 1 := by decide +kernel
  rw [Str.length_append, Str.length_append, Str.length_append, Str.length_append, k1, k2, k3]
  omega
theorem repr_pr {h : Hv} {p : Nat} {a b : Int} (e : Pr h p a b) (ha : a.natAbs.log2 < 1920) (hb : b.natAbs.log2 < 1920) : mReprE [.ref p] h = .val (.str (PyData.tuple [.int a, .int b]).shown) h := by
  have e0 : h[p]? = some (.tup [.int a, .int b]) := e
  have sh : (PyData.tuple [.int a, .int b]).showable = true := by simp [PyData.showable, PyData.showableAll, ha, hb]
  have hd : (PyData.tuple [.int a, .int b]).hasDict = false := by simp [PyData.hasDict, PyData.hasDictAll]
  have dp : (PyData.tuple [.int a, .int b]).depth ≤ 60 := by simp [PyData.depth, PyData.depthAll]
  have ln := repr_len ha hb
  have r1 : mRepr [.ref p] h = .val (.str (PyData.tuple [.int a, .int b]).shown) h := by
    simp only [mRepr, toD_pr e, sh, hd, dp, ln, decide_true, Bool.not_false, Bool.and_self, if_true]
  unfold mReprE
  simp only [e0]
  exact r1
theorem ne_str {h : Hv} {s : Str} (hs : PyData.strOk s = true) : mEq true (.str s) (.str s) h = .val (.bl false) h := by
  have e : toD dF h (.str s) = some (.str s) := rfl
  have sh : SeqAt.shaped (.str s) = true := by simp [SeqAt.shaped, PyData.canLay0, PyData.depth, hs]
  simp [mEq, e, sh, PyData.eqv]

/-! ### a drawn whole number -/
theorem two {α : Type} (x0 x1 : α) {v : Int} (h0 : 0 ≤ v) (h1 : v < 2) : ∃ y, (y = x0 ∨ y = x1) ∧ atI [x0, x1] v = some y := by
  have c : v = 0 ∨ v = 1 := by omega
  rcases c with rfl | rfl
  · exact ⟨x0, .inl rfl, atI_nat (j := 0) rfl⟩
  · exact ⟨x1, .inr rfl, atI_nat (j := 1) rfl⟩
def Bd (v : Int) : Prop := v.natAbs < 2 ^ 170
end K02
end
section
namespace K02
/-! ### the sum of two reduced fractions, by the divisor of their divisors -/
theorem cop_left {a b c : Int} (h : Int.gcd (a * b) c = 1) : Int.gcd b c = 1 := by
  have z : Int.gcd b c ∣ Int.gcd (a * b) c := Int.dvd_gcd (Int.dvd_trans (Int.gcd_dvd_left ..) ⟨a, Int.mul_comm ..⟩) (Int.gcd_dvd_right ..) |> fun z => by exact_mod_cast z
  rw [h] at z
  exact Nat.dvd_one.mp z
theorem gcd_split {a b : Int} (hb : b ≠ 0) : ∃ a' b' : Int, a = (Int.gcd a b : Int) * a' ∧ b = (Int.gcd a b : Int) * b' ∧ Int.gcd a' b' = 1 := by
  obtain ⟨a', ha⟩ : (Int.gcd a b : Int) ∣ a := Int.gcd_dvd_left ..
  obtain ⟨b', hb'⟩ : (Int.gcd a b : Int) ∣ b := Int.gcd_dvd_right ..
  refine ⟨a', b', ha, hb', ?_⟩
  have p := gcd_pos (n := a) hb
  have e : Int.gcd ((Int.gcd a b : Int) * a') ((Int.gcd a b : Int) * b') = (Int.gcd a b : Int).natAbs * Int.gcd a' b' := Int.gcd_mul_left ..
  rw [← ha, ← hb'] at e
  have p2 : 0 < Int.gcd a b := by omega
  rw [Int.natAbs_natCast] at e
  exact (Nat.eq_of_mul_eq_mul_left p2 (by rw [Nat.mul_one]; exact e)).symm
theorem fdiv_mul {g x : Int} (hg : g ≠ 0) : (g * x).fdiv g = x := Int.mul_fdiv_cancel_left x hg
theorem sum_red {p q n d : Int} (hq : 0 < q) (hd : 0 < d) (h1 : Int.gcd p q = 1) (h2 : Int.gcd n d = 1) {g t r : Int} (hg : g = (Int.gcd q d : Int)) (ht : t = p * d.fdiv g + n * q.fdiv g) (hr : r = (Int.gcd t g : Int)) :
    t.fdiv r = (fr (p * d + n * q) (q * d)).1 ∧ q.fdiv g * d.fdiv r = (fr (p * d + n * q) (q * d)).2 := by
  have hd0 : d ≠ 0 := by omega
  have gp := gcd_pos (n := q) hd0
  rw [← hg] at gp
  obtain ⟨q', d', eq, ed, c0⟩ := gcd_split (a := q) (b := d) hd0
  rw [← hg] at eq ed
  have g0 : g ≠ 0 := by omega
  have dv1 : d.fdiv g = d' := by rw [ed]; exact fdiv_mul g0
  have dv2 : q.fdiv g = q' := by rw [eq]; exact fdiv_mul g0
  rw [dv1, dv2] at ht
  have q'p : 0 < q' := by
    refine Int.not_le.mp fun z => ?_
    have : g * q' ≤ 0 := Int.mul_nonpos_of_nonneg_of_nonpos (by omega) z
    omega
  have d'p : 0 < d' := by
    refine Int.not_le.mp fun z => ?_
    have : g * d' ≤ 0 := Int.mul_nonpos_of_nonneg_of_nonpos (by omega) z
    omega
  have c1 : Int.gcd p q' = 1 := by rw [eq, Int.gcd_comm] at h1; rw [Int.gcd_comm]; exact cop_left h1
  have c2 : Int.gcd n d' = 1 := by rw [ed, Int.gcd_comm] at h2; rw [Int.gcd_comm]; exact cop_left h2
  have t1 : Int.gcd t q' = 1 := by
    rw [ht, Int.gcd_add_mul_right_left, Int.gcd_mul_right_left_of_gcd_eq_one c1, Int.gcd_comm]
    exact c0
  have t2 : Int.gcd t d' = 1 := by
    rw [ht, Int.add_comm, Int.gcd_add_mul_right_left, Int.gcd_mul_right_left_of_gcd_eq_one c2]
    exact c0
  have rp := gcd_pos (n := t) g0
  rw [← hr] at rp
  have r0 : r ≠ 0 := by omega
  obtain ⟨t', g', et, eg, c3⟩ := gcd_split (a := t) (b := g) g0
  rw [← hr] at et eg
  have g'p : 0 < g' := by
    refine Int.not_le.mp fun z => ?_
    have : r * g' ≤ 0 := Int.mul_nonpos_of_nonneg_of_nonpos (by omega) z
    omega
  have dv3 : t.fdiv r = t' := by rw [et]; exact fdiv_mul r0
  have ed2 : d = r * (g' * d') := by rw [← Int.mul_assoc, ← eg]; exact ed
  have dv4 : d.fdiv r = g' * d' := by rw [ed2]; exact fdiv_mul r0
  have k1 : Int.gcd t' q' = 1 := cop_left (a := r) (by rw [← et]; exact t1)
  have k2 : Int.gcd t' d' = 1 := cop_left (a := r) (by rw [← et]; exact t2)
  have cop : Int.gcd t' (q' * (g' * d')) = 1 := by
    rw [Int.gcd_mul_right_right_of_gcd_eq_one k1, Int.gcd_mul_right_right_of_gcd_eq_one c3]
    exact k2
  have pos : 0 < q' * (g' * d') := Int.mul_pos q'p (Int.mul_pos g'p d'p)
  have val : t' * (q * d) = (p * d + n * q) * (q' * (g' * d')) := by
    have s : p * d + n * q = g * t := by
      calc p * d + n * q = p * (g * d') + n * (g * q') := by rw [← ed, ← eq]
        _ = g * (p * d') + g * (n * q') := by rw [Int.mul_left_comm p, Int.mul_left_comm n]
        _ = g * (p * d' + n * q') := by rw [Int.mul_add]
        _ = g * t := by rw [ht]
    calc t' * (q * d) = t' * ((g * q') * (r * (g' * d'))) := by rw [← eq, ← ed2]
      _ = g * (r * t') * (q' * (g' * d')) := by ac_rfl
      _ = g * t * (q' * (g' * d')) := by rw [← et]
      _ = (p * d + n * q) * (q' * (g' * d')) := by rw [s]
  have qd : q * d ≠ 0 := Int.mul_ne_zero (by omega) hd0
  have e := fr_eq (n := t') (d := q' * (g' * d')) (m := p * d + n * q) (e := q * d) (by omega) qd val
  rw [fr_self pos cop] at e
  rw [dv3, dv2, dv4, ← e]
  exact ⟨rfl, rfl⟩
end K02
end
section
namespace K02
open PySem L2 VL
theorem sm_fdiv {x g : Int} (hg : g ∣ x) (g0 : g ≠ 0) (h : Sm x) : Sm (x.fdiv g) := by
  have e : g * x.fdiv g = x := Int.mul_fdiv_cancel' hg
  have k := congrArg Int.natAbs e
  rw [Int.natAbs_mul] at k
  have l : 1 ≤ g.natAbs := by omega
  have m : (x.fdiv g).natAbs ≤ x.natAbs := by
    calc (x.fdiv g).natAbs = 1 * (x.fdiv g).natAbs := by rw [Nat.one_mul]
      _ ≤ g.natAbs * (x.fdiv g).natAbs := Nat.mul_le_mul_right _ l
      _ = x.natAbs := k
  exact Nat.lt_of_le_of_lt m h
theorem div_sm {i j : Int} {h : Hv} (j0 : j ≠ 0) (hj : Sm j) : mDiv (.int i) (.int j) h = .val (.int (i.fdiv j)) h := mDiv_int j0 (by have := hj.log; omega)
theorem gcd_Sm {n d : Int} (hd : d ≠ 0) (h : Sm d) : Sm (Int.gcd n d : Int) := by
  have := gcd_sm (n := n) hd h
  unfold Sm
  rw [Int.natAbs_natCast]
  exact this
theorem sum_eq {h : Hv} {p q : Nat} {a b n d : Int} (e1 : Pr h p a b) (e2 : Pr h q n d) (hb : 0 < b) (hd : 0 < d) (h1 : Int.gcd a b = 1) (h2 : Int.gcd n d = 1) (sa : Sm a) (sb : Sm b) (sn : Sm n) (sd : Sm d) :
    m_sum_of_two [.ref p, .ref q] h = .val (.ref h.length) (h ++ [.tup [.int (fr (a * d + n * b) (b * d)).1, .int (fr (a * d + n * b) (b * d)).2]]) := by
  have hd0 : d ≠ 0 := by omega
  have gp := gcd_pos (n := b) hd0
  have gs : Sm (Int.gcd b d : Int) := gcd_Sm hd0 sd
  generalize hg : (Int.gcd b d : Int) = g at gp gs
  have g0 : g ≠ 0 := by omega
  have gb : g ∣ b := hg ▸ Int.gcd_dvd_left ..
  have gd : g ∣ d := hg ▸ Int.gcd_dvd_right ..
  have s1 := sm_fdiv gd g0 sd
  have s2 := sm_fdiv gb g0 sb
  obtain ⟨t, ht⟩ : ∃ t, t = a * d.fdiv g + n * b.fdiv g := ⟨_, rfl⟩
  have rp := gcd_pos (n := t) g0
  have rs : Sm (Int.gcd t g : Int) := gcd_Sm g0 gs
  have rd' : (Int.gcd t g : Int) ∣ d := Int.dvd_trans (Int.gcd_dvd_right ..) gd
  generalize hr : (Int.gcd t g : Int) = r at rp rs rd'
  have r0 : r ≠ 0 := by omega
  have s3 := sm_fdiv rd' r0 sd
  obtain ⟨k1, k2⟩ := sum_red hb hd h1 h2 hg.symm ht hr.symm
  have c1 := cd_eq b d h
  have c2 := cd_eq t g h
  rw [hg] at c1
  rw [hr] at c2
  rw [← k1, ← k2]
  have mt : (W.int (a * d.fdiv g + n * b.fdiv g)) = .int t := by rw [ht]
  simp [m_sum_of_two, mDef_eq, startW, e1.ix0, e1.ix1, e2.ix0, e2.ix1, c1, div_sm g0 gs, mul_sm sa s1, mul_sm sn s2, mt, c2, div_sm r0 rs, mul_sm s2 s3]
/-! ### sign, compared, middle -/
def sg (i : Int) : Int := if i < 0 then -1 else if 0 < i then 1 else 0
theorem sign_eq {i : Int} {h : Hv} : m_sign_of [.int i] h = .val (.int (sg i)) h := by
  unfold sg
  by_cases h1 : i < 0
  · simp [m_sign_of, mDef_eq, startW, h1]
  · by_cases h2 : 0 < i
    · simp [m_sign_of, mDef_eq, startW, h1, h2]
    · simp [m_sign_of, mDef_eq, startW, h1, h2]
theorem compared_eq {h : Hv} {p q : Nat} {a b n d : Int} (e1 : Pr h p a b) (e2 : Pr h q n d) (hb : 0 < b) (hd : 0 < d) (h1 : Int.gcd a b = 1) (h2 : Int.gcd n d = 1) (sa : Sm a) (sb : Sm b) (sn : Sm n) (sd : Sm d) :
    m_compared [.ref p, .ref q] h = .val (.int (sg (a * d - n * b))) h := by
  simp [m_compared, m_order_of, mDef_eq, startW, req_eq e1 hb h1, req_eq e2 hd h2, e1.ix0, e1.ix1, e2.ix0, e2.ix1, mul_sm sa sd, mul_sm sn sb, sign_eq]
theorem middle_eq {h : Hv} {p q : Nat} {a b n d : Int} (e1 : Pr h p a b) (e2 : Pr h q n d) (hb : 0 < b) (hd : 0 < d) (h1 : Int.gcd a b = 1) (h2 : Int.gcd n d = 1) (sa : Sm a) (sb : Sm b) (sn : Sm n) (sd : Sm d) (s2 : Sm (2 * b)) (s3 : Sm (2 * b * d)) :
    m_middle [.ref p, .ref q] h = .val (.ref h.length) (h ++ [.tup [.int (fr (a * d + n * b) (2 * b * d)).1, .int (fr (a * d + n * b) (2 * b * d)).2]]) := by
  have z : 2 * b * d ≠ 0 := Int.mul_ne_zero (by omega) (by omega)
  have two : Sm 2 := Nat.lt_of_lt_of_le (show (2 : Int).natAbs < 2 ^ 2 by decide) (Nat.pow_le_pow_right (by decide) (by decide))
  simp [m_middle, mDef_eq, startW, req_eq e1 hb h1, req_eq e2 hd h2, e1.ix0, e1.ix1, e2.ix0, e2.ix1, mul_sm sa sd, mul_sm sn sb, mul_sm two sb, mul_sm s2 sd, fraction_eq (n := a * d + n * b) z s3]
end K02
end
section
namespace K02
open PySem L2 VL
theorem pow58 {h : Hv} : mPow (.int 10) (.int 58) h = .val (.int 10000000000000000000000000000000000000000000000000000000000) h := mPow_int (by decide) (by decide) (by decide)
theorem pow20 {h : Hv} : mPow (.int 6) (.int 20) h = .val (.int 3656158440062976) h := mPow_int (by decide) (by decide) (by decide)
theorem five {α : Type} (x0 x1 x2 x3 x4 : α) {v : Int} (h0 : 0 ≤ v) (h1 : v < 5) : ∃ y, (y = x0 ∨ y = x1 ∨ y = x2 ∨ y = x3 ∨ y = x4) ∧ atI [x0, x1, x2, x3, x4] v = some y := by
  have c : v = 0 ∨ v = 1 ∨ v = 2 ∨ v = 3 ∨ v = 4 := by omega
  rcases c with rfl | rfl | rfl | rfl | rfl
  · exact ⟨x0, .inl rfl, atI_nat (j := 0) rfl⟩
  · exact ⟨x1, .inr (.inl rfl), atI_nat (j := 1) rfl⟩
  · exact ⟨x2, .inr (.inr (.inl rfl)), atI_nat (j := 2) rfl⟩
  · exact ⟨x3, .inr (.inr (.inr (.inl rfl))), atI_nat (j := 3) rfl⟩
  · exact ⟨x4, .inr (.inr (.inr (.inr rfl))), atI_nat (j := 4) rfl⟩
def Bw (v : Int) : Prop := v.natAbs < 2 ^ 200
theorem whole_ok {h : Hv} {p q : Nat} (s : Sta h p q) : ∃ v h', m__law_whole [.ref p] h = .val (.int v) h' ∧ Bw v ∧ Go p q h h' := by
  obtain ⟨v1, h1, e1, a1, b1, g1⟩ := draw_ok s (show (0 : Int) < 420 by decide)
  obtain ⟨v2, h2, e2, a2, b2, g2⟩ := draw_ok g1.st (show (0 : Int) < 420 by decide)
  obtain ⟨v5, h25, e5, a5, b5, g25⟩ := draw_ok g2.st (show (0 : Int) < 420 by decide)
  have g02 := (g1.trans g2).trans g25
  have m5 : mMul (.int 3656158440062976) (.int v5) h25 = .val (.int (3656158440062976 * v5)) h25 := mul64 (by decide) (by omega)
  have g3 := (Go.refl g02.st).more [.lst [.int 0, .int 1, .int v1, .int (10000000000000000000000000000000000000000000000000000000000 + v2), .int (3656158440062976 * v5)]]
  obtain ⟨v3, h4, e3, a3, b3, g4⟩ := draw_ok g3.st (show (0 : Int) < 5 by decide)
  have g5 := (Go.refl g4.st).more [.lst [.int 1, .int (-1)]]
  obtain ⟨v4, h6, e4, a4, b4, g6⟩ := draw_ok g5.st (show (0 : Int) < 2 by decide)
  have ne1 : h25.length ≠ p := by have := g02.st.lt; omega
  have ne2 : h4.length ≠ p := by have := g4.st.lt; omega
  have k1 : h4[h25.length]? = some (.lst [.int 0, .int 1, .int v1, .int (10000000000000000000000000000000000000000000000000000000000 + v2), .int (3656158440062976 * v5)]) := g4.kp _ _ ne1 get_last
  have k2 : h6[h4.length]? = some (.lst [.int 1, .int (-1)]) := g6.kp _ _ ne2 get_last
  obtain ⟨y, hy, iy⟩ := five (W.int 0) (.int 1) (.int v1) (.int (10000000000000000000000000000000000000000000000000000000000 + v2)) (.int (3656158440062976 * v5)) a3 b3
  obtain ⟨z, hz, iz⟩ := two (W.int 1) (.int (-1)) a4 b4
  have x1 : mIx (.ref h25.length) (.int v3) h4 = .val y h4 := mIx_lst k1 iy
  have x2 : mIx (.ref h4.length) (.int v4) h6 = .val z h6 := mIx_lst k2 iz
  obtain ⟨i, rfl, bi⟩ : ∃ i : Int, y = .int i ∧ i.natAbs ≤ 10000000000000000000000000000000000000000000000000000000000 + 420 := by
    rcases hy with rfl | rfl | rfl | rfl | rfl
    · exact ⟨0, rfl, by decide⟩
    · exact ⟨1, rfl, by decide⟩
    · exact ⟨v1, rfl, by omega⟩
    · exact ⟨_, rfl, by omega⟩
    · exact ⟨_, rfl, by omega⟩
  obtain ⟨j, rfl, bj⟩ : ∃ j : Int, z = .int j ∧ (j = 1 ∨ j = -1) := by
    rcases hz with rfl | rfl
    · exact ⟨1, rfl, .inl rfl⟩
    · exact ⟨-1, rfl, .inr rfl⟩
  have pw : (10000000000000000000000000000000000000000000000000000000000 : Nat) + 420 < 2 ^ 200 := by decide +kernel
  have bi2 : i.natAbs < 2 ^ 200 := Nat.lt_of_le_of_lt bi pw
  have lg := log_le bi2 (by decide)
  have ml : mMul (.int i) (.int j) h6 = .val (.int (i * j)) h6 := mMul_int (by
    have : j.natAbs.log2 < 64 := by rcases bj with rfl | rfl <;> decide +kernel
    omega)
  refine ⟨i * j, h6, ?_, ?_, ((g02.trans g3).trans (g4.trans g5)).trans g6⟩
  · simp [m__law_whole, mDef_eq, startW, e1, pow58, pow20, e2, e5, m5, e3, x1, e4, x2, ml]
  · unfold Bw
    rcases bj with rfl | rfl
    · simpa using bi2
    · simpa using bi2
theorem fr_le1 {n d : Int} (hd : d ≠ 0) : (fr n d).1.natAbs ≤ n.natAbs := by
  have h := congrArg Int.natAbs (fr_mul_left n d)
  rw [Int.natAbs_mul] at h
  have g : 1 ≤ (frG n d).natAbs := by have := frG_ne (n := n) hd; omega
  calc (fr n d).1.natAbs = 1 * (fr n d).1.natAbs := by rw [Nat.one_mul]
    _ ≤ (frG n d).natAbs * (fr n d).1.natAbs := Nat.mul_le_mul_right _ g
    _ = n.natAbs := h
theorem fr_le2 {n d : Int} (hd : d ≠ 0) : (fr n d).2.natAbs ≤ d.natAbs := by
  have h := congrArg Int.natAbs (fr_mul_right n d)
  rw [Int.natAbs_mul] at h
  have g : 1 ≤ (frG n d).natAbs := by have := frG_ne (n := n) hd; omega
  calc (fr n d).2.natAbs = 1 * (fr n d).2.natAbs := by rw [Nat.one_mul]
    _ ≤ (frG n d).natAbs * (fr n d).2.natAbs := Nat.mul_le_mul_right _ g
    _ = d.natAbs := h
theorem sm_of {i : Int} {k : Nat} (h : i.natAbs < 2 ^ k) (hk : k ≤ 1000) : Sm i := Nat.lt_of_lt_of_le h (Nat.pow_le_pow_right (by decide) hk)
theorem Bw.sm {i : Int} (h : Bw i) : Sm i := sm_of h (by decide)
@[simp] theorem is_bl_bl {neg a b : Bool} {h : Hv} : mIs neg (.bl a) (.bl b) h = .val (.bl (if neg then !decide (a = b) else decide (a = b))) h := rfl
end K02
end
section
namespace K02
open PySem L2 VL
abbrev oEnv (p : Nat) (n d : Int) (due f wide : Option W) : Ws := [some (.ref p), some (.int n), some (.int d), due, f, wide]
/-! ### divisor 0 -/
theorem shown_zero : (PyData.int 0).shown = ("0" : Str) := by decide +kernel
theorem repr_zero {h : Hv} : mReprE [.int 0] h = .val (.str ("0" : Str)) h := by
  have e : toD dF h (.int 0) = some (.int 0) := rfl
  have l : ("0" : Str).length ≤ 100000 := by decide +kernel
  simp [mReprE, mRepr, e, PyData.showable, PyData.hasDict, PyData.depth, shown_zero, l]
theorem eq_three {h : Hv} {p q : Nat} (e1 : h[p]? = some (.lst [.str ("number" : Str), .str ("0" : Str), .bl true])) (e2 : h[q]? = some (.lst [.str ("number" : Str), .str ("0" : Str), .bl true])) : mEq false (.ref p) (.ref q) h = .val (.bl true) h := by
  have d : ∀ x, h[x]? = some (.lst [.str ("number" : Str), .str ("0" : Str), .bl true]) → toD dF h (.ref x) = some (.list [.str ("number" : Str), .str ("0" : Str), .bool true]) := fun x e => by
    simp [dF, toD, e, optAll]
  have sh : SeqAt.shaped (.list [.str ("number" : Str), .str ("0" : Str), .bool true]) = true := by decide +kernel
  have ev : PyData.eqv (.list [.str ("number" : Str), .str ("0" : Str), .bool true]) (.list [.str ("number" : Str), .str ("0" : Str), .bool true]) = true := by decide +kernel
  simp [mEq, d p e1, d q e2, sh, ev]
theorem exm_in : exmC ["InvalidNumber"] "InvalidNumber" = some true := by decide +kernel
theorem frac0 {n : Int} {h : Hv} : m_fraction [.int n, .int 0] h = .exc "InvalidNumber" (some h.length) (h ++ [.xd [("value", .int 0)]]) := by
  simp [m_fraction, mDef_eq, startW, mRaise]
theorem heard0 {p : Nat} {n : Int} {due f wide : Option W} {h : Hv} : mHeard (exmC ["InvalidNumber"]) su_heard (mCall 2 m_fraction (mCons (mVar 1) (mCons (mVar 2) mNil))) (oEnv p n 0 due f wide) h =
    .val (.ref (h.length + 1)) (h ++ [.xd [("value", .int 0)]] ++ [.lst [.str ("number" : Str), .str ("0" : Str), .bl true]]) := by
  have lk : (h ++ [O.xd [("value", .int 0)]])[h.length]? = some (.xd [("value", .int 0)]) := get_last
  simp [mHeard, oEnv, frac0, exm_in, su_heard, su0_heard, mXf, lk, ofO, mIsx, repr_zero, List.lookup]
theorem sgn_at {d : Int} {h : Hv} {p : Nat} (e : h[p]? = some (.lst [.int 1, .int (-1)])) : mIx (.ref p) (.int (if decide (d < 0) = true then 1 else 0)) h = .val (.int (if d < 0 then -1 else 1)) h := by
  by_cases hd : d < 0
  · simp only [hd, decide_true, if_true]
    exact mIx_lst e atI1
  · simp only [hd, decide_false, Bool.false_eq_true, if_false]
    exact mIx_lst e atI0
theorem log1920 {i : Int} (h : Sm i) : i.natAbs.log2 < 1920 := by have := h.log; omega
theorem wide_gcd {a b f : Int} (hg : Int.gcd a b = 1) (hf : 2 ≤ f) : Int.gcd (a * f) (b * f) ≠ 1 := by
  rw [Int.gcd_mul_right, hg, Nat.one_mul]
  omega
theorem one_ok {h : Hv} {p q : Nat} (s : Sta h p q) : ∃ h', m__law_one_right [.ref p] h = .val (.bl true) h' ∧ Go p q h h' := by
  obtain ⟨n, h1, e1, b1, g1⟩ := whole_ok s
  obtain ⟨d, h2, e2, b2, g2⟩ := whole_ok g1.st
  have g12 := g1.trans g2
  let h3 : Hv := h2 ++ [.tup [.int n, .int d]]
  have g3 : Go p q h h3 := g12.more _
  have st1 : (mAsg (mTup (mCons (mCall 1 m__law_whole (mCons (mVar 0) mNil)) (mCons (mCall 1 m__law_whole (mCons (mVar 0) mNil)) mNil))) (mGtup 2 (mGcons (mGn 1) (mGcons (mGn 2) mGnil)))) (startW ["_law_state", "_law_number", "_law_divisor", "_law_due", "_law_factor", "_law_wide"] [.ref p]) h = .nx (oEnv p n d none none none) h3 := by
    simp [mAsg, startW, e1, e2, mGtup, mGcons, mGnil, h3]
  unfold m__law_one_right
  rw [mDef_eq, mSeq_eq, st1, thenS_nx, mSeq_eq]
  by_cases hd : d = 0
  · subst hd
    have hh := heard0 (p := p) (n := n) (due := none) (f := none) (wide := none) (h := h3)
    let h4 : Hv := h3 ++ [.xd [("value", .int 0)]]
    let h5 : Hv := h4 ++ [.lst [.str ("number" : Str), .str ("0" : Str), .bl true]]
    let h6 : Hv := h5 ++ [.lst [.str ("number" : Str), .str ("0" : Str), .bl true]]
    have hh' : mHeard (exmC ["InvalidNumber"]) su_heard (mCall 2 m_fraction (mCons (mVar 1) (mCons (mVar 2) mNil))) (oEnv p n 0 none none none) h3 = .val (.ref h4.length) h5 := by rw [hh]; simp [h4, h5]
    have q1 : mEq false (.ref h4.length) (.ref h5.length) h6 = .val (.bl true) h6 := eq_three (get_old get_last) get_last
    have n6 : mNew (.lst [.str ("number" : Str), .str ("0" : Str), .bl true]) h5 = .val (.ref h5.length) h6 := rfl
    have g6 : Go p q h h6 := ((g3.more _).more _).more _
    refine ⟨h6, ?_, g6⟩
    clear_value h3 h4 h5 h6
    have v2 : mVar 2 (oEnv p n 0 none none none) h3 = .val (.int 0) h3 := rfl
    simp only [mIfS_eq, mT_eq, m2_eq, v2, bind_val, mC_eq, mEq_int, decide_true, asB_bl, andS_val, if_true, mRet_eq, hh', mLst_eq, mCons_eq, mNil_eq, List.length_cons, List.length_nil, Nat.zero_add, Nat.reduceAdd, show (3 : Nat) ≤ 100000 from by decide, n6, q1, thenS_rt, endS_rt]
  · have A := fr_le1 (n := n) hd
    have B := fr_le2 (n := n) hd
    have ps := fr_pos (n := n) hd
    have on := fr_one (n := n) hd
    have sgn : ∃ sg : Int, (if d < 0 then (-1 : Int) else 1) = sg ∧ (sg = 1 ∨ sg = -1) ∧ sg * d = (d.natAbs : Int) := by
      by_cases z : d < 0
      · exact ⟨-1, by simp [z], .inr rfl, by omega⟩
      · exact ⟨1, by simp [z], .inl rfl, by omega⟩
    obtain ⟨sg, hsg, csg, sd⟩ := sgn
    have mx : max d (-d) = (d.natAbs : Int) := by omega
    have dp : (0 : Int) < (d.natAbs : Int) := by omega
    have fe : fr (n * sg) (d.natAbs : Int) = fr n d := fr_eq (by omega) hd (by rw [← sd, Int.mul_assoc])
    obtain ⟨a, b, hab⟩ : ∃ a b, fr n d = (a, b) := ⟨_, _, rfl⟩
    rw [hab] at A B ps on fe
    dsimp only at A B ps on
    have sa : Sm a := sm_of (Nat.lt_of_le_of_lt A b1) (by decide)
    have sb : Sm b := sm_of (Nat.lt_of_le_of_lt B b2) (by decide)
    have sD : Sm (d.natAbs : Int) := by have := b2.sm; unfold Sm at *; simpa using this
    let h4 : Hv := h3 ++ [.lst [.int 1, .int (-1)]]
    let h5 : Hv := h4 ++ [.tup [.int a, .int b]]
    have ix : mIx (.ref h3.length) (.int (if decide (d < 0) = true then 1 else 0)) h4 = .val (.int sg) h4 := by rw [← hsg]; exact sgn_at get_last
    have lf : m__law_fraction [.int (n * sg), .int (d.natAbs : Int)] h4 = .val (.ref h4.length) h5 := by
      have z := lfr_eq (h := h4) (n := n * sg) dp sD
      rw [fe] at z
      exact z
    have ssg : Sm sg := by
      rcases csg with rfl | rfl
      · exact sm_of (k := 1) (by decide) (by decide)
      · exact sm_of (k := 1) (by decide) (by decide)
    have ml := mul_sm (i := n) (j := sg) (h := h4) b1.sm ssg
    have g5 : Go p q h h5 := (g3.more _).more _
    have k5 : Pr h5 h4.length a b := Pr.new
    obtain ⟨v, h6, e6, v0, v7, g56⟩ := draw_ok g5.st (show (0 : Int) < 7 by decide)
    have g6 := g5.trans g56
    have k6 : Pr h6 h4.length a b := g56.pr g5.st k5
    have hf2 : 2 ≤ 2 + v := by omega
    have hf9 : (2 + v).natAbs < 2 ^ 4 := by omega
    generalize hf : 2 + v = f at hf2 hf9
    have sf : Sm f := sm_of hf9 (by decide)
    let h7 : Hv := h6 ++ [.tup [.int a, .int b]]
    let h8 : Hv := h7 ++ [.tup [.int a, .int b]]
    let h9 : Hv := h8 ++ [.tup [.int (a * f), .int (b * f)]]
    let h10 : Hv := h9 ++ [.tup [.int a, .int (-b)]]
    have f7 : m_fraction [.int n, .int d] h6 = .val (.ref h6.length) h7 := by
      have z := fraction_eq (h := h6) (n := n) hd b2.sm
      rw [hab] at z
      exact z
    have df : Sm (d * f) := sm_of (k := 204) (by
      rw [Int.natAbs_mul, show (2 : Nat) ^ 204 = 2 ^ 200 * 2 ^ 4 from by decide +kernel]
      exact Nat.mul_lt_mul_of_lt_of_lt b2 hf9) (by decide)
    have f8 : m_fraction [.int (n * f), .int (d * f)] h7 = .val (.ref h7.length) h8 := by
      have z := fraction_eq (h := h7) (n := n * f) (d := d * f) (Int.mul_ne_zero hd (by omega)) df
      rw [fr_eq (n := n * f) (d := d * f) (m := n) (e := d) (Int.mul_ne_zero hd (by omega)) hd (by ac_rfl), hab] at z
      exact z
    have r1 : mReprE [.ref h6.length] h7 = .val (.str (PyData.tuple [.int a, .int b]).shown) h7 := repr_pr Pr.new (log1920 sa) (log1920 sb)
    have r2 : mReprE [.ref h4.length] h7 = .val (.str (PyData.tuple [.int a, .int b]).shown) h7 := repr_pr (k6.old _) (log1920 sa) (log1920 sb)
    have nr := ne_str (h := h7) (repr_ok a b)
    have k8 : Pr h8 h4.length a b := (k6.old _).old _
    have n8 : mEq true (.ref h7.length) (.ref h4.length) h8 = .val (.bl false) h8 := ne_pr Pr.new k8
    have k9 : Pr h9 h4.length a b := k8.old _
    have k10 : Pr h10 h4.length a b := k9.old _
    have i1 := isf_eq k9
    have w9 : Pr h9 h8.length (a * f) (b * f) := Pr.new
    have i2 := isf_eq w9
    have i3 := isf_eq (h := h10) (p := h9.length) (a := a) (b := -b) Pr.new
    have t1 : (decide (1 ≤ b) && decide (Int.gcd a b = 1)) = true := by simp [on]; omega
    have t2 : (decide (1 ≤ b * f) && decide (Int.gcd (a * f) (b * f) = 1)) = false := by
      have := wide_gcd (a := a) (b := b) on hf2
      simp [this]
    have t3 : (decide (1 ≤ -b) && decide (Int.gcd a (-b) = 1)) = false := by
      have : ¬ 1 ≤ -b := by omega
      simp [this]
    rw [t1] at i1
    rw [t2] at i2
    rw [t3] at i3
    have m1 := mul_sm (i := n) (j := f) (h := h7) b1.sm sf
    have m2' := mul_sm (i := d) (j := f) (h := h7) b2.sm sf
    have m3 := mul_sm (i := a) (j := f) (h := h8) sa sf
    have m4 := mul_sm (i := b) (j := f) (h := h8) sb sf
    have n4 : mNew (.lst [.int 1, .int (-1)]) h3 = .val (.ref h3.length) h4 := rfl
    have n9 : mNew (.tup [.int (a * f), .int (b * f)]) h8 = .val (.ref h8.length) h9 := rfl
    have n10 : mNew (.tup [.int a, .int (-b)]) h9 = .val (.ref h9.length) h10 := rfl
    have g10 : Go p q h h10 := (((g6.more _).more _).more _).more _
    have x80 := k8.ix0
    have x81 := k8.ix1
    have x90 := k9.ix0
    have x91 := k9.ix1
    refine ⟨h10, ?_, g10⟩
    clear_value h3 h4 h5 h7 h8 h9 h10
    simp only [oEnv, mIfS_eq, mT_eq, m2_eq, mVar0, mVarS, bind_val, mC_eq, mEq_int, hd, decide_false, asB_bl, andS_val, Bool.false_eq_true, if_false, mNext_eq, thenS_nx, mSeq_eq]
    simp only [mSet_eq, mCall_eq, mCons_eq, m2_eq, mVar0, mVarS, bind_val, mLst_eq, mC_eq, m1_eq, mNeg_int, mNil_eq, List.length_cons, List.length_nil, Nat.zero_add, Nat.reduceAdd, show (2 : Nat) ≤ 100000 from by decide, if_true, n4, mB_eq, mLt_int, mInt_bl, ix, ml, mMax_int, mx, lf, andS_val, List.set, thenS_nx, mSeq_eq, mAdd_int, e6, hf]
    simp only [mIfS_eq, mOrT_eq, mT_eq, m2_eq, mB_eq, mCall_eq, mCons_eq, mVar0, mVarS, bind_val, mNil_eq, List.length_cons, List.length_nil, Nat.zero_add, Nat.reduceAdd, if_true, f7, r1, r2, nr, asB_bl, Bool.false_eq_true, if_false, m1, m2', f8, n8, andS_val, mNext_eq, thenS_nx, mSeq_eq]
    simp only [mSet_eq, mTup_eq, mCons_eq, m2_eq, mVar0, mVarS, bind_val, mC_eq, x80, x81, m3, m4, mNil_eq, List.length_cons, List.length_nil, Nat.zero_add, Nat.reduceAdd, show (2 : Nat) ≤ 100000 from by decide, if_true, n9, andS_val, List.set, thenS_nx]
    simp only [mRet_eq, mAndV_eq, mT_eq, m2_eq, mCall_eq, mCons_eq, mVar0, mVarS, bind_val, mNil_eq, mC_eq, List.length_cons, List.length_nil, Nat.zero_add, Nat.reduceAdd, if_true, i1, is_bl_bl, Bool.false_eq_true, if_false, decide_true, asB_bl, i2, mTup_eq, x90, x91, m1_eq, mNeg_int, show (2 : Nat) ≤ 100000 from by decide, n10, i3, andS_val, endS_rt]
end K02
end
section
namespace K02
open PySem L2 VL
/-! ### a list of reduced pairs -/
abbrev Fr := Int × Int
def Rd (x : Fr) : Prop := 0 < x.2 ∧ x.2.natAbs ≤ 512 ∧ Int.gcd x.1 x.2 = 1 ∧ x.1.natAbs < 2 ^ 200
def FL (h : Hv) : List W → List Fr → Prop
  | [], [] => True
  | w :: ws, x :: xs => (∃ p, w = .ref p ∧ Pr h p x.1 x.2 ∧ Rd x) ∧ FL h ws xs
  | _, _ => False
theorem FL.len {h : Hv} : ∀ {ws : List W} {xs : List Fr}, FL h ws xs → ws.length = xs.length
  | [], [], _ => rfl
  | w :: ws, x :: xs, e => by simp [FL.len e.2]
theorem FL.keep {h h' : Hv} (k : ∀ p a b, Pr h p a b → Pr h' p a b) : ∀ {ws : List W} {xs : List Fr}, FL h ws xs → FL h' ws xs
  | [], [], _ => trivial
  | w :: ws, x :: xs, e => by
    obtain ⟨⟨p, e1, e2, e3⟩, e4⟩ := e
    exact ⟨⟨p, e1, k _ _ _ e2, e3⟩, FL.keep k e4⟩
theorem FL.old {h : Hv} {ws : List W} {xs : List Fr} (e : FL h ws xs) (t : Hv) : FL (h ++ t) ws xs := e.keep fun _ _ _ q => q.old t
theorem FL.app {h : Hv} : ∀ {ws : List W} {xs : List Fr} {vs : List W} {ys : List Fr}, FL h ws xs → FL h vs ys → FL h (ws ++ vs) (xs ++ ys)
  | [], [], _, _, _, e => e
  | w :: ws, x :: xs, _, _, e, f => ⟨e.1, FL.app e.2 f⟩
theorem FL.rev {h : Hv} : ∀ {ws : List W} {xs : List Fr}, FL h ws xs → FL h ws.reverse xs.reverse
  | [], [], _ => trivial
  | w :: ws, x :: xs, e => by
    simp only [List.reverse_cons]
    exact FL.app (FL.rev e.2) ⟨e.1, trivial⟩
theorem FL.at {h : Hv} : ∀ {ws : List W} {xs : List Fr} {i : Nat} {w : W}, FL h ws xs → ws[i]? = some w → ∃ p x, w = .ref p ∧ Pr h p x.1 x.2 ∧ Rd x ∧ x ∈ xs
  | [], [], _, _, _, e => by simp at e
  | w :: ws, x :: xs, 0, _, f, e => by
    simp at e
    subst e
    obtain ⟨⟨p, e1, e2, e3⟩, _⟩ := f
    exact ⟨p, x, e1, e2, e3, List.mem_cons_self⟩
  | w :: ws, x :: xs, i + 1, _, f, e => by
    simp at e
    obtain ⟨p, y, a, b, c, d⟩ := FL.at f.2 e
    exact ⟨p, y, a, b, c, List.mem_cons_of_mem _ d⟩
/-! ### sums -/
def stp (t x : Fr) : Fr := fr (t.1 * x.2 + x.1 * t.2) (t.2 * x.2)
def stx (t x : Fr) : Fr := (t.1 * x.2 + x.1 * t.2, t.2 * x.2)
theorem stp_stx {t : Fr} {N D : Int} {x : Fr} (hx : x.2 ≠ 0) (hD : D ≠ 0) (ht : t = fr N D) : stp t x = fr (stx (N, D) x).1 (stx (N, D) x).2 := by
  have v := fr_val N D
  have p := fr_pos (n := N) hD
  rw [← ht] at v p
  unfold stp stx
  refine fr_eq (Int.mul_ne_zero (by omega) hx) (Int.mul_ne_zero hD hx) ?_
  dsimp only
  calc (t.1 * x.2 + x.1 * t.2) * (D * x.2) = (t.1 * D) * (x.2 * x.2) + x.1 * t.2 * (D * x.2) := by rw [Int.add_mul]; ac_rfl
    _ = (N * t.2) * (x.2 * x.2) + x.1 * t.2 * (D * x.2) := by rw [v]
    _ = (N * x.2 + x.1 * D) * (t.2 * x.2) := by rw [Int.add_mul]; ac_rfl
theorem fold_stx : ∀ (xs : List Fr) (t : Fr) (N D : Int), (∀ x ∈ xs, x.2 ≠ 0) → D ≠ 0 → t = fr N D → xs.foldl stp t = fr (xs.foldl stx (N, D)).1 (xs.foldl stx (N, D)).2
  | [], t, N, D, _, _, ht => ht
  | x :: xs, t, N, D, h, hD, ht => by
    have hx := h x List.mem_cons_self
    simp only [List.foldl_cons]
    exact fold_stx xs _ _ _ (fun y hy => h y (List.mem_cons_of_mem _ hy)) (Int.mul_ne_zero hD hx) (stp_stx hx hD ht)
theorem stx_comm (z x y : Fr) : stx (stx z x) y = stx (stx z y) x := by
  unfold stx
  refine Prod.ext ?_ ?_
  · dsimp only
    rw [Int.add_mul, Int.add_mul]
    have a1 : z.1 * x.2 * y.2 = z.1 * y.2 * x.2 := by ac_rfl
    have a2 : x.1 * z.2 * y.2 = x.1 * (z.2 * y.2) := by ac_rfl
    have a3 : y.1 * (z.2 * x.2) = y.1 * z.2 * x.2 := by ac_rfl
    rw [a1, a2, a3]
    omega
  · dsimp only
    ac_rfl
def tot (xs : List Fr) : Fr := xs.foldl stp (0, 1)
theorem tot_rev {xs : List Fr} (h : ∀ x ∈ xs, x.2 ≠ 0) : tot xs.reverse = tot xs := by
  have e0 : ((0, 1) : Fr) = fr 0 1 := by decide +kernel
  unfold tot
  rw [fold_stx xs.reverse _ 0 1 (fun x hx => h x (List.mem_reverse.mp hx)) (by decide) e0, fold_stx xs _ 0 1 h (by decide) e0]
  have c : xs.reverse.foldl stx (0, 1) = xs.foldl stx (0, 1) := List.Perm.foldl_eq' (List.reverse_perm xs) (fun x _ y _ z => stx_comm z x y) (0, 1)
  rw [c]
/-! ### bounds -/
structure Tb (i : Nat) (t : Fr) : Prop where
  ps : 0 < t.2
  on : Int.gcd t.1 t.2 = 1
  b1 : t.1.natAbs ≤ 2 ^ (201 + 10 * i)
  b2 : t.2.natAbs ≤ 2 ^ (9 * i)
theorem Tb.zero : Tb 0 (0, 1) := ⟨by decide, by decide, by decide, by decide⟩
theorem up_num {i : Nat} {t x : Fr} (T : Tb i t) (r : Rd x) : (t.1 * x.2 + x.1 * t.2).natAbs ≤ 2 ^ (201 + 10 * (i + 1)) := by
  have n1 : (t.1 * x.2).natAbs ≤ 2 ^ (201 + 10 * i) * 512 := by rw [Int.natAbs_mul]; exact Nat.mul_le_mul T.b1 r.2.1
  have n2 : (x.1 * t.2).natAbs ≤ 2 ^ 200 * 2 ^ (9 * i) := by rw [Int.natAbs_mul]; exact Nat.mul_le_mul (Nat.le_of_lt r.2.2.2) T.b2
  have k1 : 2 ^ (201 + 10 * i) * 512 = 2 ^ (210 + 10 * i) := by rw [show (512 : Nat) = 2 ^ 9 from rfl, ← Nat.pow_add]; congr 1; omega
  have k2 : 2 ^ 200 * 2 ^ (9 * i) ≤ 2 ^ (210 + 10 * i) := by rw [← Nat.pow_add]; exact Nat.pow_le_pow_right (by decide) (by omega)
  have k3 : 2 ^ (201 + 10 * (i + 1)) = 2 ^ (210 + 10 * i) + 2 ^ (210 + 10 * i) := by rw [show 201 + 10 * (i + 1) = (210 + 10 * i) + 1 from by omega, Nat.pow_succ]; omega
  have k4 := Int.natAbs_add_le (t.1 * x.2) (x.1 * t.2)
  omega
theorem up_den {i : Nat} {t x : Fr} (T : Tb i t) (r : Rd x) : (t.2 * x.2).natAbs ≤ 2 ^ (9 * (i + 1)) := by
  rw [Int.natAbs_mul, show 2 ^ (9 * (i + 1)) = 2 ^ (9 * i) * 512 from by rw [show 9 * (i + 1) = 9 * i + 9 from by omega, Nat.pow_add]]
  exact Nat.mul_le_mul T.b2 r.2.1
theorem Tb.step {i : Nat} {t x : Fr} (T : Tb i t) (r : Rd x) : Tb (i + 1) (stp t x) := by
  have nz : t.2 * x.2 ≠ 0 := Int.mul_ne_zero (by have := T.ps; omega) (by have := r.1; omega)
  exact ⟨fr_pos nz, fr_one nz, Nat.le_trans (fr_le1 nz) (up_num T r), Nat.le_trans (fr_le2 nz) (up_den T r)⟩
theorem le_sm {i : Int} {k : Nat} (h : i.natAbs ≤ 2 ^ k) (hk : k < 1000) : Sm i := Nat.lt_of_le_of_lt h (Nat.pow_lt_pow_right (by decide) hk)
theorem Tb.sm1 {i : Nat} {t : Fr} (T : Tb i t) (hi : i ≤ 6) : Sm t.1 := le_sm T.b1 (by omega)
theorem Tb.sm2 {i : Nat} {t : Fr} (T : Tb i t) (hi : i ≤ 6) : Sm t.2 := le_sm T.b2 (by omega)
theorem Rd.sm1 {x : Fr} (r : Rd x) : Sm x.1 := sm_of r.2.2.2 (by decide)
theorem Rd.sm2 {x : Fr} (r : Rd x) : Sm x.2 := le_sm (k := 9) r.2.1 (by decide)
theorem tb_fold : ∀ (xs : List Fr) (i : Nat) (t : Fr), Tb i t → (∀ x ∈ xs, Rd x) → Tb (i + xs.length) (xs.foldl stp t)
  | [], i, t, T, _ => T
  | x :: xs, i, t, T, h => by
    rw [List.foldl_cons, List.length_cons, show i + (xs.length + 1) = (i + 1) + xs.length from by omega]
    exact tb_fold xs _ _ (T.step (h x List.mem_cons_self)) fun y hy => h y (List.mem_cons_of_mem _ hy)
/-! ### loops over a list -/
theorem seq_step {P : Nat} {L : List W} {g : MG} {b : MS} {i : Nat} {k : Nat} {r r1 r2 : Ws} {h h2 h3 : Hv} {w : W} (e : h[P]? = some (.lst L)) (ew : L[i]? = some w) (hg : g w r h = .nx r1 h2) (hb : b r1 h2 = .nx r2 h3) :
    VL.forM (nxSeq P) g b (k + 1) i r h = VL.forM (nxSeq P) g b k (i + 1) r2 h3 := by
  conv => lhs; unfold VL.forM
  simp only [nxSeq, e, ew, hg, hb]
theorem seq_stop {P : Nat} {L : List W} {g : MG} {b : MS} {i : Nat} {k : Nat} {r : Ws} {h : Hv} (e : h[P]? = some (.lst L)) (ew : L.length ≤ i) : VL.forM (nxSeq P) g b (k + 1) i r h = .nx r h := by
  unfold VL.forM
  simp only [nxSeq, e, List.getElem?_eq_none ew]
abbrev tBody : MS := (mSeq (mExpr (mCall 1 m_require_fraction (mCons (mVar 2) mNil)))
    (mSet 1 (mCall 2 m_sum_of_two (mCons (mVar 1) (mCons (mVar 2) mNil)))))
theorem drop_cons {L : List W} {i : Nat} {w : W} (e : L[i]? = some w) : L.drop i = w :: L.drop (i + 1) := by
  obtain ⟨hi, rfl⟩ := List.getElem?_eq_some_iff.mp e
  exact List.drop_eq_getElem_cons hi
theorem tot_loop {P : Nat} {L : List W} (hL : L.length ≤ 6) : ∀ (k i : Nat) (h : Hv) (t : Nat) (T : Fr) (G : List Fr) (e : Option W), i + k = L.length → h[P]? = some (.lst L) → FL h (L.drop i) G → Pr h t T.1 T.2 → Tb i T →
    ∃ x t' e', VL.forM (nxSeq P) (mGn 2) tBody (k + 1) i [some (.ref P), some (.ref t), e] h = .nx [some (.ref P), some (.ref t'), e'] (h ++ x) ∧ Pr (h ++ x) t' (G.foldl stp T).1 (G.foldl stp T).2
  | 0, i, h, t, T, G, e, hk, eP, fl, pt, tb => by
    have z : L.drop i = [] := List.drop_eq_nil_of_le (by omega)
    rw [z] at fl
    cases G with
    | nil => exact ⟨[], t, e, by rw [seq_stop eP (by omega), List.append_nil], by rw [List.append_nil]; exact pt⟩
    | cons _ _ => exact fl.elim
  | k + 1, i, h, t, T, G, e, hk, eP, fl, pt, tb => by
    have hi : i < L.length := by omega
    have ew := List.getElem?_eq_getElem hi
    rw [drop_cons ew] at fl
    cases G with
    | nil => exact fl.elim
    | cons x G =>
      obtain ⟨⟨p, e1, e2, rd⟩, fl2⟩ := fl
      have sm := sum_eq pt e2 tb.ps rd.1 tb.on rd.2.2.1 (tb.sm1 (by omega)) (tb.sm2 (by omega)) rd.sm1 rd.sm2
      have rq := req_eq e2 (by have := rd.1; omega) rd.2.2.1
      have nx : tBody [some (.ref P), some (.ref t), some (.ref p)] h = .nx [some (.ref P), some (.ref h.length), some (.ref p)] (h ++ [.tup [.int (stp T x).1, .int (stp T x).2]]) := by
        simp [tBody, rq, sm, stp]
      obtain ⟨y, t', e', q1, q2⟩ := tot_loop hL k (i + 1) (h ++ [.tup [.int (stp T x).1, .int (stp T x).2]]) h.length (stp T x) G (some (.ref p)) (by omega) (get_old eP) (fl2.old _) Pr.new (tb.step rd)
      refine ⟨[.tup [.int (stp T x).1, .int (stp T x).2]] ++ y, t', e', ?_, ?_⟩
      · rw [seq_step eP ew (by rw [mGn_eq, e1]; rfl) nx, q1, List.append_assoc]
      · rw [← List.append_assoc]
        exact q2
theorem isi_list {p : Nat} {xs : List W} {h : Hv} (e : h[p]? = some (.lst xs)) : mIsi [.ref p, .ty "list"] h = .val (.bl true) h := by
  simp [mIsi, tyN, e, show kitB "list" "list" = some true from by decide +kernel]
theorem total_eq {h : Hv} {P : Nat} {L : List W} {G : List Fr} (eP : h[P]? = some (.lst L)) (fl : FL h L G) (hL : L.length ≤ 6) : ∃ x t, m_total_of [.ref P] h = .val (.ref t) (h ++ x) ∧ Pr (h ++ x) t (tot G).1 (tot G).2 := by
  obtain ⟨x, t', e', q1, q2⟩ := tot_loop hL L.length 0 (h ++ [.tup [.int 0, .int 1]]) h.length (0, 1) G none (by omega) (get_old eP) (fl.old _) Pr.new Tb.zero
  refine ⟨[.tup [.int 0, .int 1]] ++ x, t', ?_, ?_⟩
  · have src : mSrc (mVar 0) [some (.ref P), some (.ref h.length), none] (h ++ [.tup [.int 0, .int 1]]) = .val ⟨L.length + 1, nxSeq P⟩ (h ++ [.tup [.int 0, .int 1]]) := by
      simp [mSrc, srcOf, get_old eP]
    have fo : mFor (mSrc (mVar 0)) (mGn 2) tBody [some (.ref P), some (.ref h.length), none] (h ++ [.tup [.int 0, .int 1]]) = .nx [some (.ref P), some (.ref t'), e'] (h ++ [.tup [.int 0, .int 1]] ++ x) := by
      unfold mFor
      rw [src, andS_val]
      exact q1
    have i1 := isi_list eP
    unfold m_total_of
    rw [mDef_eq]
    simp only [startW, List.map, List.length, List.replicate, List.cons_append, List.nil_append, Nat.reduceSub, Nat.reduceAdd, mSeq_eq, mIfS_eq, mNotT_eq, mT_eq, mB_eq, mCons_eq, mVar0, bind_val, mC_eq, mNil_eq, i1, asB_bl, Bool.not_true, andS_val, Bool.false_eq_true, if_false, mNext_eq, thenS_nx, mSet_eq, mTup_eq, List.length_cons, List.length_nil, Nat.zero_add, show (2 : Nat) ≤ 100000 from by decide, if_true, mNew_eq, List.set]
    rw [fo]
    simp
  · rw [← List.append_assoc]
    exact q2
end K02
end
section
namespace K02
open PySem L2 VL
/-! ### a list of pairs as data -/
def dP (x : Fr) : PyData := .tuple [.int x.1, .int x.2]
theorem toD_pr' {n : Nat} {h : Hv} {p : Nat} {a b : Int} (e : Pr h p a b) : toD (n + 2) h (.ref p) = some (.tuple [.int a, .int b]) := by
  unfold Pr at e
  simp [toD, e, optAll]
theorem toD_all {n : Nat} {h : Hv} : ∀ {ws : List W} {xs : List Fr}, FL h ws xs → optAll (toD (n + 2) h) ws = some (xs.map dP)
  | [], [], _ => rfl
  | w :: ws, x :: xs, e => by
    obtain ⟨⟨p, rfl, e2, _⟩, e4⟩ := e
    simp only [optAll, toD_pr' e2, toD_all e4, List.map_cons]
    rfl
theorem toD_fl {h : Hv} {P : Nat} {ws : List W} {xs : List Fr} (e : h[P]? = some (.lst ws)) (f : FL h ws xs) : toD dF h (.ref P) = some (.list (xs.map dP)) := by
  obtain ⟨k, hk⟩ : ∃ k, dF = k + 3 := ⟨dF - 3, by decide⟩
  rw [hk]
  have ti := toD_all (n := k) f
  simp only [toD, e]
  exact congrArg (Option.map PyData.list) ti
theorem shAll : ∀ {xs : List Fr}, (∀ x ∈ xs, Rd x) → PyData.showableAll (xs.map dP) = true
  | [], _ => by simp [PyData.showableAll]
  | x :: xs, h => by
    have ih := shAll (xs := xs) fun y hy => h y (List.mem_cons_of_mem _ hy)
    have r := h x List.mem_cons_self
    have l1 := log1920 r.sm1
    have l2 := log1920 r.sm2
    simp only [List.map_cons, PyData.showableAll, dP, PyData.showable, l1, l2, decide_true, Bool.and_self, ih]
theorem hdAll : ∀ {xs : List Fr}, PyData.hasDictAll (xs.map dP) = false
  | [] => by simp [PyData.hasDictAll]
  | x :: xs => by
    have ih := hdAll (xs := xs)
    simp only [List.map_cons, PyData.hasDictAll, dP, PyData.hasDict, Bool.or_self, ih]
theorem dpAll : ∀ {xs : List Fr}, PyData.depthAll (xs.map dP) ≤ 1
  | [] => by simp only [List.map_nil, PyData.depthAll, Nat.zero_le]
  | x :: xs => by
    have ih := dpAll (xs := xs)
    simp only [List.map_cons, PyData.depthAll, dP, PyData.depth]
    omega
theorem shown_dP (x : Fr) : (dP x).shown = ((("(" : Str) ++ ((Str.ofString (toString x.1) ++ (", " : Str)) ++ Str.ofString (toString x.2))) ++ (")" : Str)) := rfl
theorem len_dP {x : Fr} (r : Rd x) : (dP x).shown.length ≤ 4000 := by
  rw [shown_dP]
  have l1 := PyProof.Rows.int_text_len_1921 (log1920 r.sm1)
  have l2 := PyProof.Rows.int_text_len_1921 (log1920 r.sm2)
  have k1 : ("(" : Str).length = 1 := by decide +kernel
  have k2 : (", " : Str).length = 2 := by decide +kernel
  have k3 : (")" : Str).length = 1 := by decide +kernel
  rw [Str.length_append, Str.length_append, Str.length_append, Str.length_append, k1, k2, k3]
  omega
theorem lenAll : ∀ {xs : List Fr}, (∀ x ∈ xs, Rd x) → ((PyData.shownAll (xs.map dP)).map (·.length)).sum ≤ 4000 * xs.length ∧ (PyData.shownAll (xs.map dP)).length = xs.length
  | [], _ => ⟨by simp [PyData.shownAll], by simp [PyData.shownAll]⟩
  | x :: xs, h => by
    obtain ⟨i1, i2⟩ := lenAll (xs := xs) fun y hy => h y (List.mem_cons_of_mem _ hy)
    have r := len_dP (h x List.mem_cons_self)
    refine ⟨?_, ?_⟩
    · simp only [List.map_cons, PyData.shownAll, List.sum_cons, List.length_cons]
      omega
    · simp only [List.map_cons, PyData.shownAll, List.length_cons, i2]
theorem tf_ok : ∀ (ts : List Str) (k : Nat) (acc : Str), PyData.strOk acc = true → (∀ t ∈ ts, PyData.strOk t = true) → PyData.strOk (textFrom k acc ts) = true
  | [], _, _, h, _ => h
  | t :: ts, k, acc, h, g => by
    refine tf_ok ts (k + 1) _ (strOk_app (strOk_app h ?_) (g t List.mem_cons_self)) fun u hu => g u (List.mem_cons_of_mem _ hu)
    split
    · exact strOk_of _
    · exact strOk_of _
theorem okAll : ∀ {xs : List Fr}, ∀ t ∈ PyData.shownAll (xs.map dP), PyData.strOk t = true
  | [], t, ht => by simp [PyData.shownAll] at ht
  | x :: xs, t, ht => by
    simp only [List.map_cons, PyData.shownAll, List.mem_cons] at ht
    rcases ht with rfl | ht
    · exact repr_ok x.1 x.2
    · exact okAll (xs := xs) t ht
theorem text_ok (xs : List Fr) : PyData.strOk (PyData.list (xs.map dP)).shown = true := strOk_app (tf_ok _ 0 _ (strOk_of _) okAll) (strOk_of _)
theorem repr_fl {h : Hv} {P : Nat} {ws : List W} {xs : List Fr} (e : h[P]? = some (.lst ws)) (f : FL h ws xs) (r : ∀ x ∈ xs, Rd x) (hl : xs.length ≤ 6) : mReprE [.ref P] h = .val (.str (PyData.list (xs.map dP)).shown) h := by
  have sh : (PyData.list (xs.map dP)).showable = true := by simp only [PyData.showable]; exact shAll r
  have hd : (PyData.list (xs.map dP)).hasDict = false := by simp only [PyData.hasDict]; exact hdAll
  have dp : (PyData.list (xs.map dP)).depth ≤ 60 := by
    have := dpAll (xs := xs)
    simp only [PyData.depth]
    omega
  have ln : (PyData.list (xs.map dP)).shown.length ≤ 100000 := by
    obtain ⟨i1, i2⟩ := lenAll r
    have z := listText_len_le (PyData.shownAll (xs.map dP))
    show (listText (PyData.shownAll (xs.map dP))).length ≤ 100000
    omega
  have r1 : mRepr [.ref P] h = .val (.str (PyData.list (xs.map dP)).shown) h := by
    simp only [mRepr, toD_fl e f, sh, hd, dp, ln, decide_true, Bool.not_false, Bool.and_self, if_true]
  unfold mReprE
  simp only [e]
  exact r1
theorem FL.all {h : Hv} : ∀ {ws : List W} {xs : List Fr}, FL h ws xs → ∀ x ∈ xs, Rd x
  | [], [], _, x, hx => by simp at hx
  | w :: ws, y :: ys, e, x, hx => by
    rcases List.mem_cons.mp hx with rfl | q
    · obtain ⟨⟨_, _, _, r⟩, _⟩ := e
      exact r
    · exact FL.all e.2 x q
/-! ### the list is made -/
abbrev sEnv (p P : Nat) (t tt sh n d a b l r : Option W) : Ws := [some (.ref p), some (.ref P), t, tt, sh, n, d, a, b, l, r]
abbrev mkBody : MS := mExpr (mApp (mVar 1) (mCall 2 m__law_fraction (mCons (mCall 1 m__law_whole (mCons (mVar 0) mNil)) (mCons (m2 mAdd (mC (.int 1)) (mCall 2 m__law_draw (mCons (mVar 0) (mCons (mC (.int 420)) mNil)))) mNil))))
theorem Sta.set {h : Hv} {p q P : Nat} {o : O} (s : Sta h p q) (n1 : P ≠ p) (n2 : P ≠ q) : Sta (h.set P o) p q := by
  obtain ⟨k, nums, e1, ne, e2, hn⟩ := s
  exact ⟨k, nums, by rw [List.getElem?_set_ne n1]; exact e1, ne, by rw [List.getElem?_set_ne n2]; exact e2, hn⟩
theorem pr_set {h : Hv} {P x : Nat} {L L' : List W} {a b : Int} (eP : h[P]? = some (.lst L)) (e : Pr h x a b) : Pr (h.set P (.lst L')) x a b := by
  have ne : P ≠ x := fun z => by
    unfold Pr at e
    rw [← z, eP] at e
    cases e
  unfold Pr
  rw [List.getElem?_set_ne ne]
  exact e
/-- all but P and p as it was -/
structure Gs (p q P : Nat) (h h' : Hv) : Prop where
  st : Sta h' p q
  ln : h.length ≤ h'.length
  kp : ∀ i o, i ≠ p → i ≠ P → h[i]? = some o → h'[i]? = some o
theorem mk_step {h : Hv} {p q P : Nat} {L : List W} {F : List Fr} {t : Option W} (s : Sta h p q) (n1 : P ≠ p) (n2 : P ≠ q) (eP : h[P]? = some (.lst L)) (fl : FL h L F) (hl : L.length < 1000) :
    ∃ h' w x, mkBody (sEnv p P t none none none none none none none none) h = .nx (sEnv p P t none none none none none none none none) h' ∧ h'[P]? = some (.lst (L ++ [w])) ∧ FL h' (L ++ [w]) (F ++ [x]) ∧ Gs p q P h h' := by
  obtain ⟨v, h1, e1, b1, g1⟩ := whole_ok s
  obtain ⟨d, h2, e2, d0, d1, g2⟩ := draw_ok g1.st (show (0 : Int) < 420 by decide)
  have g := g1.trans g2
  have eP2 : h2[P]? = some (.lst L) := g.kp _ _ n1 eP
  have hd : 0 < 1 + d := by omega
  have d2 : (1 + d).natAbs ≤ 512 := by omega
  generalize hD : 1 + d = D at hd d2
  have D0 : D ≠ 0 := by omega
  have lf := lfr_eq (h := h2) (n := v) hd (le_sm (k := 9) d2 (by decide))
  let h3 : Hv := h2 ++ [.tup [.int (fr v D).1, .int (fr v D).2]]
  have lf' : m__law_fraction [.int v, .int D] h2 = .val (.ref h2.length) h3 := lf
  have eP3 : h3[P]? = some (.lst L) := get_old eP2
  have rd : Rd (fr v D) := ⟨fr_pos D0, Nat.le_trans (fr_le2 D0) d2, fr_one D0, Nat.lt_of_le_of_lt (fr_le1 D0) b1⟩
  have flh : FL h3 L F := (fl.keep fun x a b e => g.pr s e).old _
  have pn : Pr h3 h2.length (fr v D).1 (fr v D).2 := Pr.new
  have hP : P < h3.length := (List.getElem?_eq_some_iff.mp eP3).1
  have fl4 : FL (h3.set P (.lst (L ++ [.ref h2.length]))) (L ++ [.ref h2.length]) (F ++ [fr v D]) := FL.keep (h := h3) (fun x a b e => pr_set eP3 e) (FL.app flh ⟨⟨_, rfl, pn, rd⟩, trivial⟩)
  have g3 : Go p q h h3 := g.more _
  refine ⟨h3.set P (.lst (L ++ [.ref h2.length])), .ref h2.length, fr v D, ?_, List.getElem?_set_self hP, fl4, ⟨g3.st.set n1 n2, by rw [List.length_set]; exact g3.ln, fun i o i1 i2 e => by rw [List.getElem?_set_ne (Ne.symm i2)]; exact g3.kp _ _ i1 e⟩⟩
  clear_value h3
  have hl2 : L.length < 100000 := by omega
  simp only [mkBody, sEnv, mExpr_eq, mApp, mVar0, mVarS, bind_val, eP, mCall_eq, mCons_eq, mNil_eq, List.length_cons, List.length_nil, Nat.zero_add, Nat.reduceAdd, if_true, e1, m2_eq, mC_eq, e2, mAdd_int, hD, lf', eP3, hl2, andS_val]
theorem Gs.trans {p q P : Nat} {h h1 h2 : Hv} (a : Gs p q P h h1) (b : Gs p q P h1 h2) : Gs p q P h h2 := ⟨b.st, Nat.le_trans a.ln b.ln, fun i o n1 n2 e => b.kp i o n1 n2 (a.kp i o n1 n2 e)⟩
theorem mk_loop {p q P m : Nat} (n1 : P ≠ p) (n2 : P ≠ q) (hm : m ≤ 6) : ∀ (k i : Nat) (h : Hv) (L : List W) (F : List Fr) (t : Option W), i + k = m → L.length = i → Sta h p q → h[P]? = some (.lst L) → FL h L F →
    ∃ h' L' F' t', VL.forM (nxR 0 m) (mGn 2) mkBody (k + 1) i (sEnv p P t none none none none none none none none) h = .nx (sEnv p P t' none none none none none none none none) h' ∧ h'[P]? = some (.lst L') ∧ FL h' L' F' ∧ L'.length = m ∧ Gs p q P h h'
  | 0, i, h, L, F, t, hk, hi, s, eP, fl => by
    refine ⟨h, L, F, t, ?_, eP, fl, by omega, ⟨s, Nat.le_refl _, fun _ _ _ _ e => e⟩⟩
    unfold VL.forM
    simp [nxR, show i = m by omega]
  | k + 1, i, h, L, F, t, hk, hi, s, eP, fl => by
    obtain ⟨h1, w, x, e1, eP1, fl1, g1⟩ := mk_step (t := some (.int (0 + (i : Int)))) s n1 n2 eP fl (by omega)
    obtain ⟨h2, L', F', t', e2, eP2, fl2, l2, g2⟩ := mk_loop n1 n2 hm k (i + 1) h1 (L ++ [w]) (F ++ [x]) (some (.int (0 + (i : Int)))) (by omega) (by simp [hi]) g1.st eP1 fl1
    refine ⟨h2, L', F', t', ?_, eP2, fl2, l2, g1.trans g2⟩
    unfold VL.forM
    simp only [nxR, show i < m by omega, if_true, mGn_eq]
    have se : (sEnv p P t none none none none none none none none).set 2 (some (.int (0 + (i : Int)))) = sEnv p P (some (.int (0 + (i : Int)))) none none none none none none none none := rfl
    rw [se, e1]
    exact e2
end K02
end
section
namespace K02
open PySem L2 VL
/-! ### the law's own sum -/
abbrev slBody : MS := (mSet 3 (mCall 2 m__law_fraction (mCons (m2 mAdd (m2 mMul (m2 mIx (mVar 3) (mC (.int 0))) (mVar 6)) (m2 mMul (mVar 5) (m2 mIx (mVar 3) (mC (.int 1))))) (mCons (m2 mMul (m2 mIx (mVar 3) (mC (.int 1))) (mVar 6)) mNil))))
abbrev slG : MG := mGtup 2 (mGcons (mGn 5) (mGcons (mGn 6) mGnil))
theorem sl_loop {p P : Nat} {tk sh : Option W} {L : List W} (hL : L.length ≤ 6) : ∀ (k i : Nat) (h : Hv) (t : Nat) (T : Fr) (G : List Fr) (n d : Option W), i + k = L.length → h[P]? = some (.lst L) → FL h (L.drop i) G → Pr h t T.1 T.2 → Tb i T →
    ∃ x t' n' d', VL.forM (nxSeq P) slG slBody (k + 1) i (sEnv p P tk (some (.ref t)) sh n d none none none none) h = .nx (sEnv p P tk (some (.ref t')) sh n' d' none none none none) (h ++ x) ∧ Pr (h ++ x) t' (G.foldl stp T).1 (G.foldl stp T).2
  | 0, i, h, t, T, G, n, d, hk, eP, fl, pt, tb => by
    have z : L.drop i = [] := List.drop_eq_nil_of_le (by omega)
    rw [z] at fl
    cases G with
    | nil => exact ⟨[], t, n, d, by rw [seq_stop eP (by omega), List.append_nil], by rw [List.append_nil]; exact pt⟩
    | cons _ _ => exact fl.elim
  | k + 1, i, h, t, T, G, n, d, hk, eP, fl, pt, tb => by
    have hi : i < L.length := by omega
    have ew := List.getElem?_eq_getElem hi
    rw [drop_cons ew] at fl
    cases G with
    | nil => exact fl.elim
    | cons x G =>
      obtain ⟨⟨p', e1, e2, rd⟩, fl2⟩ := fl
      have up := up_den tb rd
      have dp : 0 < T.2 * x.2 := Int.mul_pos tb.ps rd.1
      have lf := lfr_eq (h := h) (n := T.1 * x.2 + x.1 * T.2) dp (le_sm up (by omega))
      have m1 := mul_sm (h := h) (tb.sm1 (by omega)) rd.sm2
      have m2' := mul_sm (h := h) rd.sm1 (tb.sm2 (by omega))
      have m3 := mul_sm (h := h) (tb.sm2 (by omega)) rd.sm2
      have nx : slBody (sEnv p P tk (some (.ref t)) sh (some (.int x.1)) (some (.int x.2)) none none none none) h = .nx (sEnv p P tk (some (.ref h.length)) sh (some (.int x.1)) (some (.int x.2)) none none none none) (h ++ [.tup [.int (stp T x).1, .int (stp T x).2]]) := by
        simp [slBody, sEnv, pt.ix0, pt.ix1, m1, m2', m3, lf, stp]
      have gt : slG (.ref p') (sEnv p P tk (some (.ref t)) sh n d none none none none) h = .nx (sEnv p P tk (some (.ref t)) sh (some (.int x.1)) (some (.int x.2)) none none none none) h := by
        have e2' : h[p']? = some (.tup [.int x.1, .int x.2]) := e2
        simp [slG, mGtup, mGcons, mGnil, e2', sEnv]
      obtain ⟨y, t', n', d', q1, q2⟩ := sl_loop hL k (i + 1) (h ++ [.tup [.int (stp T x).1, .int (stp T x).2]]) h.length (stp T x) G (some (.int x.1)) (some (.int x.2)) (by omega) (get_old eP) (fl2.old _) Pr.new (tb.step rd)
      refine ⟨[.tup [.int (stp T x).1, .int (stp T x).2]] ++ y, t', n', d', ?_, ?_⟩
      · rw [seq_step eP ew (by rw [e1]; exact gt) nx, q1, List.append_assoc]
      · rw [← List.append_assoc]
        exact q2
/-! ### two by two -/
abbrev pBody : MS := (mSeq (mPar 9 10 (mCons (m2 mMul (m2 mIx (mVar 7) (mC (.int 0))) (m2 mIx (mVar 8) (mC (.int 1)))) (mCons (m2 mMul (m2 mIx (mVar 8) (mC (.int 0))) (m2 mIx (mVar 7) (mC (.int 1)))) mNil)))
    (mSeq (mIfS (mT (m2 (mEq true) (mB mReprE (mCons (mCall 2 m_compared (mCons (mVar 7) (mCons (mVar 8) mNil))) mNil)) (mB mStrI (mCons (m2 mSub (mB mInt (mCons (m2 mGt (mVar 9) (mVar 10)) mNil)) (mB mInt (mCons (m2 mLt (mVar 9) (mVar 10)) mNil))) mNil)))) (mRet (mC (.bl false))) mNext)
    (mIfS (mT (m2 (mEq true) (mCall 2 m_middle (mCons (mVar 7) (mCons (mVar 8) mNil))) (mCall 2 m__law_fraction (mCons (m2 mAdd (mVar 9) (mVar 10)) (mCons (m2 mMul (m2 mMul (mC (.int 2)) (m2 mIx (mVar 7) (mC (.int 1)))) (m2 mIx (mVar 8) (mC (.int 1)))) mNil))))) (mRet (mC (.bl false))) mNext)))
theorem repr_int {i : Int} {h : Hv} (hi : i.natAbs.log2 < 1920) (hl : (Str.ofString (toString i)).length ≤ 100000) : mReprE [.int i] h = .val (.str (Str.ofString (toString i))) h := by
  have e : toD dF h (.int i) = some (.int i) := rfl
  have s : (PyData.int i).shown = Str.ofString (toString i) := rfl
  simp only [mReprE, mRepr, e, PyData.showable, PyData.hasDict, PyData.depth, hi, s, hl, decide_true, Bool.not_false, Bool.and_self, Nat.zero_le, if_true]
theorem sg_int (l r : Int) : (if decide (r < l) = true then (1 : Int) else 0) - (if decide (l < r) = true then 1 else 0) = sg (l - r) := by
  unfold sg
  by_cases h1 : l < r
  · have a : ¬ r < l := by omega
    have b : l - r < 0 := by omega
    simp [h1, a, b]
  · by_cases h2 : r < l
    · have b : ¬ l - r < 0 := by omega
      have c : 0 < l - r := by omega
      simp [h1, h2, b, c]
    · have b : ¬ l - r < 0 := by omega
      have c : ¬ 0 < l - r := by omega
      simp [h1, h2, b, c]
theorem sg_small (i : Int) : (sg i).natAbs ≤ 1 := by
  unfold sg
  split
  · decide
  · split <;> decide
theorem p_step {h : Hv} {p P x y : Nat} {t tt sh n d l r : Option W} {u v : Fr} (e1 : Pr h x u.1 u.2) (e2 : Pr h y v.1 v.2) (r1 : Rd u) (r2 : Rd v) :
    ∃ z l' r', pBody (sEnv p P t tt sh n d (some (.ref x)) (some (.ref y)) l r) h = .nx (sEnv p P t tt sh n d (some (.ref x)) (some (.ref y)) l' r') (h ++ z) := by
  have c := compared_eq e1 e2 r1.1 r2.1 r1.2.2.1 r2.2.2.1 r1.sm1 r1.sm2 r2.sm1 r2.sm2
  have two : Sm 2 := sm_of (k := 2) (by decide) (by decide)
  have s2 : Sm (2 * u.2) := le_sm (k := 10) (by rw [Int.natAbs_mul, show (2 : Nat) ^ 10 = 2 * 512 from rfl]; exact Nat.mul_le_mul (by decide) r1.2.1) (by decide)
  have s3 : Sm (2 * u.2 * v.2) := le_sm (k := 19) (by rw [Int.natAbs_mul, Int.natAbs_mul, show (2 : Nat) ^ 19 = 2 * 512 * 512 from rfl]; exact Nat.mul_le_mul (Nat.mul_le_mul (by decide) r1.2.1) r2.2.1) (by decide)
  have m := middle_eq e1 e2 r1.1 r2.1 r1.2.2.1 r2.2.2.1 r1.sm1 r1.sm2 r2.sm1 r2.sm2 s2 s3
  have pz : 0 < 2 * u.2 * v.2 := Int.mul_pos (Int.mul_pos (by decide) r1.1) r2.1
  let A := (fr (u.1 * v.2 + v.1 * u.2) (2 * u.2 * v.2)).1
  let B := (fr (u.1 * v.2 + v.1 * u.2) (2 * u.2 * v.2)).2
  let h1 : Hv := h ++ [.tup [.int A, .int B]]
  let h2 : Hv := h1 ++ [.tup [.int A, .int B]]
  have m' : m_middle [.ref x, .ref y] h = .val (.ref h.length) h1 := m
  have lf : m__law_fraction [.int (u.1 * v.2 + v.1 * u.2), .int (2 * u.2 * v.2)] h1 = .val (.ref h1.length) h2 := lfr_eq (h := h1) pz s3
  have ne : mEq true (.ref h.length) (.ref h1.length) h2 = .val (.bl false) h2 := ne_pr (Pr.old Pr.new _) Pr.new
  have sl := sg_small (u.1 * v.2 - v.1 * u.2)
  have si := sg_int (u.1 * v.2) (v.1 * u.2)
  generalize hs : sg (u.1 * v.2 - v.1 * u.2) = s at *
  have ls : s.natAbs.log2 < 1920 := log1920 (sm_of (k := 1) (by omega) (by decide))
  have tl := PyProof.Rows.int_text_len_1921 ls
  have rp := repr_int (h := h) ls (by omega)
  have st : mStrI [.int s] h = .val (.str (Str.ofString (toString s))) h := by simp [mStrI, ls]
  have nt := ne_str (h := h) (strOk_of (toString s))
  have k1 := mul_sm (h := h) r1.sm1 r2.sm2
  have k2 := mul_sm (h := h) r2.sm1 r1.sm2
  have k3 := mul_sm (h := h1) two r1.sm2
  have k4 := mul_sm (h := h1) s2 r2.sm2
  have x1 : mIx (.ref x) (.int 1) h1 = .val (.int u.2) h1 := (e1.old _).ix1
  have y1 : mIx (.ref y) (.int 1) h1 = .val (.int v.2) h1 := (e2.old _).ix1
  refine ⟨[.tup [.int A, .int B]] ++ [.tup [.int A, .int B]], some (.int (u.1 * v.2)), some (.int (v.1 * u.2)), ?_⟩
  have hh : h ++ ([O.tup [.int A, .int B]] ++ [.tup [.int A, .int B]]) = h2 := by simp only [h2, h1, List.append_assoc]
  rw [hh]
  clear_value h1 h2 A B
  simp only [pBody, sEnv, mSeq_eq, mPar, mCons_eq, m2_eq, mVar0, mVarS, bind_val, mC_eq, e1.ix0, e1.ix1, e2.ix0, e2.ix1, k1, k2, mNil_eq, andS_val, List.set, thenS_nx]
  simp only [mIfS_eq, mT_eq, m2_eq, mB_eq, mCons_eq, mCall_eq, mVar0, mVarS, bind_val, mNil_eq, List.length_cons, List.length_nil, Nat.zero_add, Nat.reduceAdd, if_true, c, rp, mGt_int, mLt_int, mInt_bl, mSub_int, si, st, nt, asB_bl, andS_val, Bool.false_eq_true, if_false, mNext_eq, thenS_nx, mSeq_eq]
  simp only [m', mAdd_int, mC_eq, x1, k3, y1, k4, lf, ne, bind_val, mVar0, mVarS, m2_eq, List.length_cons, List.length_nil, Nat.zero_add, Nat.reduceAdd, if_true, asB_bl, andS_val, Bool.false_eq_true, if_false, mNext_eq]
theorem p_inner {p P x : Nat} {t tt sh n d : Option W} {u : Fr} {L : List W} {F : List Fr} (r1 : Rd u) : ∀ (k i : Nat) (h : Hv) (b l r : Option W), i + k = L.length → h[P]? = some (.lst L) → FL h L F → Pr h x u.1 u.2 →
    ∃ z b' l' r', VL.forM (nxSeq P) (mGn 8) pBody (k + 1) i (sEnv p P t tt sh n d (some (.ref x)) b l r) h = .nx (sEnv p P t tt sh n d (some (.ref x)) b' l' r') (h ++ z)
  | 0, i, h, b, l, r, hk, eP, fl, ex => ⟨[], b, l, r, by rw [seq_stop eP (by omega), List.append_nil]⟩
  | k + 1, i, h, b, l, r, hk, eP, fl, ex => by
    have hi : i < L.length := by omega
    have ew := List.getElem?_eq_getElem hi
    obtain ⟨y, v, e1, e2, r2, _⟩ := FL.at fl ew
    obtain ⟨z, l1, q1, e3⟩ := p_step (p := p) (P := P) (t := t) (tt := tt) (sh := sh) (n := n) (d := d) (l := l) (r := r) ex e2 r1 r2
    obtain ⟨z2, b', l', r', e4⟩ := p_inner r1 k (i + 1) (h ++ z) (some (.ref y)) l1 q1 (by omega) (get_old eP) (fl.old _) (ex.old _)
    refine ⟨z ++ z2, b', l', r', ?_⟩
    rw [seq_step eP ew (by rw [mGn_eq, e1]; rfl) e3, e4, List.append_assoc]
abbrev qBody : MS := mFor (mSrc (mVar 1)) (mGn 8) pBody
theorem p_outer {p P : Nat} {t tt sh n d : Option W} {L : List W} {F : List Fr} : ∀ (k i : Nat) (h : Hv) (a b l r : Option W), i + k = L.length → h[P]? = some (.lst L) → FL h L F →
    ∃ z a' b' l' r', VL.forM (nxSeq P) (mGn 7) qBody (k + 1) i (sEnv p P t tt sh n d a b l r) h = .nx (sEnv p P t tt sh n d a' b' l' r') (h ++ z)
  | 0, i, h, a, b, l, r, hk, eP, fl => ⟨[], a, b, l, r, by rw [seq_stop eP (by omega), List.append_nil]⟩
  | k + 1, i, h, a, b, l, r, hk, eP, fl => by
    have hi : i < L.length := by omega
    have ew := List.getElem?_eq_getElem hi
    obtain ⟨y, v, e1, e2, r2, _⟩ := FL.at fl ew
    obtain ⟨z, b1, l1, q1, e3⟩ := p_inner (p := p) (t := t) (tt := tt) (sh := sh) (n := n) (d := d) r2 L.length 0 h b l r (by omega) eP fl e2
    have fo : qBody (sEnv p P t tt sh n d (some (.ref y)) b l r) h = .nx (sEnv p P t tt sh n d (some (.ref y)) b1 l1 q1) (h ++ z) := by
      have src : mSrc (mVar 1) (sEnv p P t tt sh n d (some (.ref y)) b l r) h = .val ⟨L.length + 1, nxSeq P⟩ h := by
        simp [mSrc, sEnv, srcOf, eP]
      unfold qBody mFor
      rw [src, andS_val]
      exact e3
    obtain ⟨z2, a', b', l', r', e4⟩ := p_outer k (i + 1) (h ++ z) (some (.ref y)) b1 l1 q1 (by omega) (get_old eP) (fl.old _)
    refine ⟨z ++ z2, a', b', l', r', ?_⟩
    rw [seq_step eP ew (by rw [mGn_eq, e1]; rfl) fo, e4, List.append_assoc]
theorem rng_of {v : Int} {g : Hv} (h0 : 0 ≤ v) (h6 : v < 6) : srcR [.int v] g = .val ⟨v.toNat + 1, nxR 0 v.toNat⟩ g := by
  have z : v = ((v.toNat : Nat) : Int) := by omega
  have s := src_rng (m := v.toNat) (g := g) (by omega)
  rw [← z] at s
  exact s
theorem sums_ok {h : Hv} {p q : Nat} (s : Sta h p q) : ∃ h', m__law_sums_right [.ref p] h = .val (.bl true) h' ∧ Go p q h h' := by
  let P := h.length
  have nP1 : P ≠ p := by have := s.lt; omega
  have nP2 : P ≠ q := by have := s.ltq; omega
  have s1 := s.more [.lst []]
  obtain ⟨v, h2, e2, v0, v6, g2⟩ := draw_ok s1 (show (0 : Int) < 6 by decide)
  have eP2 : h2[P]? = some (.lst []) := g2.kp _ _ nP1 get_last
  have m6 : v.toNat ≤ 6 := by omega
  obtain ⟨h3, L, F, t', e3, eP3, fl3, l3, g3⟩ := mk_loop nP1 nP2 m6 v.toNat 0 h2 [] [] none (by omega) rfl g2.st eP2 trivial
  have hL : L.length ≤ 6 := by omega
  have rdA := fl3.all
  have lF := fl3.len
  have f1 : mFor (mRng (mCons (mCall 2 m__law_draw (mCons (mVar 0) (mCons (mC (.int 6)) mNil))) mNil)) (mGn 2) mkBody (sEnv p P none none none none none none none none none) (h ++ [.lst []]) = .nx (sEnv p P t' none none none none none none none none) h3 := by
    have sr : mRng (mCons (mCall 2 m__law_draw (mCons (mVar 0) (mCons (mC (.int 6)) mNil))) mNil) (sEnv p P none none none none none none none none none) (h ++ [.lst []]) = .val ⟨v.toNat + 1, nxR 0 v.toNat⟩ h2 := by
      unfold mRng
      simp only [mCons_eq, mCall_eq, sEnv, mVar0, bind_val, mC_eq, mNil_eq, List.length_cons, List.length_nil, Nat.zero_add, Nat.reduceAdd, if_true, e2, rng_of v0 v6]
    unfold mFor
    rw [sr, andS_val]
    exact e3
  -- repr
  let h4 : Hv := h3 ++ [.tup [.int 0, .int 1]]
  have eP4 : h4[P]? = some (.lst L) := get_old eP3
  have fl4 : FL h4 L F := fl3.old _
  have r4 := repr_fl eP4 fl4 rdA (by omega)
  obtain ⟨x5, t5, n5, d5, e5, k5⟩ := sl_loop (p := p) (P := P) (tk := t') (sh := some (.str (PyData.list (F.map dP)).shown)) hL L.length 0 h4 h3.length (0, 1) F none none (by omega) eP4 fl4 Pr.new Tb.zero
  let h5 : Hv := h4 ++ x5
  have eP5 : h5[P]? = some (.lst L) := get_old eP4
  have fl5 : FL h5 L F := fl4.old _
  have f2 : mFor (mSrc (mVar 1)) slG slBody (sEnv p P t' (some (.ref h3.length)) (some (.str (PyData.list (F.map dP)).shown)) none none none none none none) h4 = .nx (sEnv p P t' (some (.ref t5)) (some (.str (PyData.list (F.map dP)).shown)) n5 d5 none none none none) h5 := by
    have src : mSrc (mVar 1) (sEnv p P t' (some (.ref h3.length)) (some (.str (PyData.list (F.map dP)).shown)) none none none none none none) h4 = .val ⟨L.length + 1, nxSeq P⟩ h4 := by
      simp [mSrc, sEnv, srcOf, eP4]
    unfold mFor
    rw [src, andS_val]
    exact e5
  obtain ⟨x6, t6, e6, k6⟩ := total_eq eP5 fl5 hL
  let h6 : Hv := h5 ++ x6
  have k56 : Pr h6 t5 (tot F).1 (tot F).2 := Pr.old (k5 : Pr h5 t5 (tot F).1 (tot F).2) x6
  have q1 : mEq true (.ref t6) (.ref t5) h6 = .val (.bl false) h6 := ne_pr k6 k56
  have eP6 : h6[P]? = some (.lst L) := get_old eP5
  have fl6 : FL h6 L F := fl5.old _
  have r6 := repr_fl eP6 fl6 rdA (by omega)
  have q2 := ne_str (h := h6) (text_ok F)
  let h7 : Hv := h6 ++ [.lst L.reverse]
  have eR : h7[h6.length]? = some (.lst L.reverse) := get_last
  have fl7 : FL h7 L.reverse F.reverse := (fl6.old _).rev
  obtain ⟨x8, t8, e8, k8⟩ := total_eq eR fl7 (by rw [List.length_reverse]; exact hL)
  rw [tot_rev fun x hx => by have := (rdA x hx).1; omega] at k8
  let h8 : Hv := h7 ++ x8
  have k58 : Pr h8 t5 (tot F).1 (tot F).2 := (k56.old _).old _
  have q3 : mEq true (.ref t8) (.ref t5) h8 = .val (.bl false) h8 := ne_pr k8 k58
  have eP8 : h8[P]? = some (.lst L) := get_old (get_old eP6)
  have fl8 : FL h8 L F := (fl6.old _).old _
  obtain ⟨x9, a9, b9, l9, r9, e9⟩ := p_outer (p := p) (P := P) (t := t') (tt := some (.ref t5)) (sh := some (.str (PyData.list (F.map dP)).shown)) (n := n5) (d := d5) L.length 0 h8 none none none none (by omega) eP8 fl8
  let h9 : Hv := h8 ++ x9
  have f3 : mFor (mSrc (mVar 1)) (mGn 7) qBody (sEnv p P t' (some (.ref t5)) (some (.str (PyData.list (F.map dP)).shown)) n5 d5 none none none none) h8 = .nx (sEnv p P t' (some (.ref t5)) (some (.str (PyData.list (F.map dP)).shown)) n5 d5 a9 b9 l9 r9) h9 := by
    have src : mSrc (mVar 1) (sEnv p P t' (some (.ref t5)) (some (.str (PyData.list (F.map dP)).shown)) n5 d5 none none none none) h8 = .val ⟨L.length + 1, nxSeq P⟩ h8 := by
      simp [mSrc, sEnv, srcOf, eP8]
    unfold mFor
    rw [src, andS_val]
    exact e9
  have go : Go p q h h9 := by
    have l4 : h3.length ≤ h9.length := by simp only [h9, h8, h7, h6, h5, h4, List.length_append]; omega
    have l1 := g2.ln
    have l2 := g3.ln
    rw [List.length_append] at l1
    refine ⟨(((((g3.st.more _).more _).more _).more _).more _).more _, by omega, fun i o ni e => ?_⟩
    have iP : i ≠ P := by have := (List.getElem?_eq_some_iff.mp e).1; omega
    exact get_old (get_old (get_old (get_old (get_old (get_old (g3.kp _ _ ni iP (g2.kp _ _ ni (get_old e))))))))
  refine ⟨h9, ?_, go⟩
  have n4 : mNew (.tup [.int 0, .int 1]) h3 = .val (.ref h3.length) h4 := rfl
  have e6' : m_total_of [.ref P] h5 = .val (.ref t6) h6 := e6
  have e8' : m_total_of [.ref h6.length] h7 = .val (.ref t8) h8 := e8
  have rv : mRev (mVar 1) (sEnv p P t' (some (.ref t5)) (some (.str (PyData.list (F.map dP)).shown)) n5 d5 none none none none) h6 = .val (.ref h6.length) h7 := by
    simp [mRev, mRevO, sEnv, eP6, h7]
  have st0 : (mSet 1 (mLst mNil)) (startW ["_law_state", "_law_some", "_law_turn", "_law_total", "_law_shown", "_law_number", "_law_divisor", "_law_one", "_law_other", "_law_left", "_law_right"] [.ref p]) h = .nx (sEnv p P none none none none none none none none none) (h ++ [.lst []]) := by
    simp [startW, P]
  have pa : (mPar 3 4 (mCons (mTup (mCons (mC (.int 0)) (mCons (mC (.int 1)) mNil))) (mCons (mB mReprE (mCons (mVar 1) mNil)) mNil))) (sEnv p P t' none none none none none none none none) h3 = .nx (sEnv p P t' (some (.ref h3.length)) (some (.str (PyData.list (F.map dP)).shown)) none none none none none none) h4 := by
    clear_value h4
    simp only [mPar, mCons_eq, mTup_eq, mC_eq, mNil_eq, bind_val, List.length_cons, List.length_nil, Nat.zero_add, Nat.reduceAdd, show (2 : Nat) ≤ 100000 from by decide, if_true, n4, mB_eq, sEnv, mVar0, mVarS, r4, andS_val, List.set]
  unfold m__law_sums_right
  rw [mDef_eq, mSeq_eq, st0, thenS_nx, mSeq_eq, f1, thenS_nx, mSeq_eq, pa, thenS_nx, mSeq_eq, f2, thenS_nx, mSeq_eq]
  have ifs : (mIfS (mOrT (mT (m2 (mEq true) (mCall 1 m_total_of (mCons (mVar 1) mNil)) (mVar 3))) (mOrT (mT (m2 (mEq true) (mB mReprE (mCons (mVar 1) mNil)) (mVar 4))) (mT (m2 (mEq true) (mCall 1 m_total_of (mCons (mRev (mVar 1)) mNil)) (mVar 3))))) (mRet (mC (.bl false))) mNext) (sEnv p P t' (some (.ref t5)) (some (.str (PyData.list (F.map dP)).shown)) n5 d5 none none none none) h5 = .nx (sEnv p P t' (some (.ref t5)) (some (.str (PyData.list (F.map dP)).shown)) n5 d5 none none none none) h8 := by
    have v1 : ∀ g, mVar 1 (sEnv p P t' (some (.ref t5)) (some (.str (PyData.list (F.map dP)).shown)) n5 d5 none none none none) g = .val (.ref P) g := fun g => rfl
    have v3 : ∀ g, mVar 3 (sEnv p P t' (some (.ref t5)) (some (.str (PyData.list (F.map dP)).shown)) n5 d5 none none none none) g = .val (.ref t5) g := fun g => rfl
    have v4 : ∀ g, mVar 4 (sEnv p P t' (some (.ref t5)) (some (.str (PyData.list (F.map dP)).shown)) n5 d5 none none none none) g = .val (.str (PyData.list (F.map dP)).shown) g := fun g => rfl
    clear_value h4 h5 h6 h7 h8 h9
    simp only [mIfS_eq, mOrT_eq, mT_eq, m2_eq, mCall_eq, mCons_eq, v1, v3, v4, bind_val, mNil_eq, List.length_cons, List.length_nil, Nat.zero_add, if_true, e6', q1, asB_bl, Bool.false_eq_true, if_false, mB_eq, r6, q2, rv, e8', q3, andS_val, mNext_eq]
  rw [ifs, thenS_nx, mSeq_eq, f3, thenS_nx]
  simp
end K02
end
section
namespace K02
open PySem L2 VL
theorem noX {α : Type} {x : α} : x = x := rfl
theorem six {p q P : Nat} {r : Ws} (hr : ∀ (w : W) (g : Hv), mVar 3 (r.set 4 (some w)) g = .val (.ref p) g) : ∀ (k i : Nat) (h : Hv), i + k = 6 → Sta h p q → P ≠ p → h[P]? = some (.lst []) →
    ∃ h', compM (nxR 0 6) 4 (mNotT (mT (mCall 1 m__law_one_right (mCons (mVar 3) mNil)))) (mVar 4) P (k + 1) i r h = .val (.ref P) h' ∧ Go p q h h' ∧ h'[P]? = some (.lst [])
  | 0, i, h, hk, s, hp, e => by
    refine ⟨h, ?_, Go.refl s, e⟩
    unfold compM
    simp [nxR, show i = 6 by omega]
  | k + 1, i, h, hk, s, hp, e => by
    obtain ⟨h1, e1, g⟩ := one_ok s
    obtain ⟨h2, c, g2, e2⟩ := six hr k (i + 1) h1 (by omega) g.st hp (g.kp _ _ hp e)
    refine ⟨h2, ?_, g.trans g2, e2⟩
    unfold compM
    simp only [nxR, show i < 6 by omega, if_true, mNotT_eq, mT_eq, mCall_eq, mCons_eq, hr, bind_val, mNil_eq, List.length_cons, List.length_nil, Nat.zero_add, e1, asB_bl, Bool.not_true, Bool.false_eq_true, if_false]
    exact c
theorem toD_ints {n : Nat} {h : Hv} : ∀ ns : List Int, optAll (toD (n + 1) h) (ns.map W.int) = some (ns.map PyData.int)
  | [] => rfl
  | z :: ns => by
    have ih := toD_ints (n := n) (h := h) ns
    simp only [List.map_cons, optAll, ih]
    rfl
theorem lay_ints : ∀ ns : List Int, PyData.canLayAll0 (ns.map PyData.int) = true
  | [] => rfl
  | z :: ns => by
    have ih := lay_ints ns
    simp [PyData.canLayAll0, PyData.canLay0, ih]
theorem deep_ints : ∀ ns : List Int, PyData.depthAll (ns.map PyData.int) = 0
  | [] => rfl
  | z :: ns => by
    have ih := deep_ints ns
    simp [PyData.depthAll, PyData.depth, ih]
theorem shaped_ints (ns : List Int) : SeqAt.shaped (.list (ns.map PyData.int)) = true := by
  simp [SeqAt.shaped, PyData.canLay0, PyData.depth, lay_ints, deep_ints]
theorem toD_lst {h : Hv} {p : Nat} {ns : List Int} (e : h[p]? = some (.lst (ns.map W.int))) : toD dF h (.ref p) = some (.list (ns.map PyData.int)) := by
  obtain ⟨k, hk⟩ : ∃ k, dF = k + 2 := ⟨dF - 2, by decide⟩
  rw [hk]
  have ti := toD_ints (n := k) (h := h) ns
  simp only [toD, e]
  exact congrArg (Option.map PyData.list) ti
theorem toD_rol {h : Hv} {p : Nat} {ns : List Int} (e : h[p]? = some (.rol (ns.map W.int))) : toD dF h (.ref p) = some (.list (ns.map PyData.int)) := by
  obtain ⟨k, hk⟩ : ∃ k, dF = k + 2 := ⟨dF - 2, by decide⟩
  rw [hk]
  have ti := toD_ints (n := k) (h := h) ns
  simp only [toD, e]
  exact congrArg (Option.map PyData.list) ti
theorem eq_empty {h : Hv} {p q : Nat} {ns : List Int} (e1 : h[p]? = some (.rol (ns.map W.int))) (e2 : h[q]? = some (.lst [])) : mEq false (.ref p) (.ref q) h = .val (.bl ns.isEmpty) h := by
  have t1 := toD_rol e1
  have t2 := toD_lst (ns := []) e2
  have s0 := shaped_ints []
  cases ns with
  | nil => simp only [mEq, t1, t2, s0, Bool.and_self, if_true]; rfl
  | cons z ns => 
    have s1 := shaped_ints (z :: ns)
    simp only [mEq, t1, t2, s0, s1, Bool.and_self, if_true]
    rfl
theorem ne_empty {h : Hv} {p q : Nat} (e1 : h[p]? = some (.lst [])) (e2 : h[q]? = some (.lst [])) : mEq true (.ref p) (.ref q) h = .val (.bl false) h := by
  have t1 := toD_lst (ns := []) e1
  have t2 := toD_lst (ns := []) e2
  have s0 := shaped_ints []
  simp only [mEq, t1, t2, s0, Bool.and_self, if_true]
  rfl
theorem for_enum {P : Nat} {L : List W} {b : MS} (I : Ws → Hv → Prop) (keep : ∀ r h, I r h → h[P]? = some (.lst L)) (step : ∀ (i : Nat) w, L[i]? = some w → ∀ r h, I r h → ∃ r' h', b ((r.set 1 (some (.int i))).set 2 (some w)) (h ++ [.tup [.int i, w]]) = .nx r' h' ∧ I r' h') :
    ∀ (k i : Nat) (r : Ws) (h : Hv), i + k = L.length → I r h → ∃ r' h', VL.forM (nxEnum P) (mGtup 2 (mGcons (mGn 1) (mGcons (mGn 2) mGnil))) b (k + 1) i r h = .nx r' h' ∧ I r' h'
  | 0, i, r, h, hk, hi => by
    refine ⟨r, h, ?_, hi⟩
    unfold VL.forM
    simp [nxEnum, keep r h hi, show L.length ≤ i by omega]
  | k + 1, i, r, h, hk, hi => by
    have lt : i < L.length := by omega
    obtain ⟨r1, h1, e1, i1⟩ := step i L[i] (List.getElem?_eq_getElem lt) r h hi
    obtain ⟨r2, h2, e2, i2⟩ := for_enum I keep step k (i + 1) r1 h1 (by omega) i1
    refine ⟨r2, h2, ?_, i2⟩
    unfold VL.forM
    have gt : mGtup 2 (mGcons (mGn 1) (mGcons (mGn 2) mGnil)) (.ref h.length) r (h ++ [.tup [.int i, L[i]]]) = .nx ((r.set 1 (some (.int i))).set 2 (some L[i])) (h ++ [.tup [.int i, L[i]]]) := by
      simp [mGtup, mGcons, mGnil]
    simp only [nxEnum, keep r h hi, List.getElem?_eq_getElem lt, gt, e1]
    exact e2
abbrev lBody : MS := (mSeq (mSet 3 (mLst (mCons (mCall 3 m__law_numbers (mCons (mVar 2) (mCons (m2 mAdd (mC (.int 200)) (mVar 1)) (mCons (m2 mMul (mLst (mCons (mC (.int 420)) mNil)) (mC (.int 120))) mNil)))) (mCons (mC (.int 0)) mNil))))
    (mSeq (mIfS (mT (m2 (mEq true) (mLc (mRng (mCons (mC (.int 6)) mNil)) 4 (mNotT (mT (mCall 1 m__law_one_right (mCons (mVar 3) mNil)))) (mVar 4)) (mLst mNil))) (mRet (mC (.bl false))) mNext)
    (mIfS (mOrT (mNotT (mT (mCall 1 m__law_sums_right (mCons (mVar 3) mNil)))) (mNotT (mT (mFresh m__law_odd_right)))) (mRet (mC (.bl false))) mNext)))
abbrev lEnv (k c s t : Option W) : Ws := [some (.ref 0), k, c, s, t]
theorem lturn {h : Hv} {i P : Nat} {cell : Int} {s t : Option W} {L : List W} (hi : i ≤ 1000) (eP : h[P]? = some (.lst L)) :
    ∃ s' h', lBody (lEnv (some (.int i)) (some (.int cell)) s t) h = .nx (lEnv (some (.int i)) (some (.int cell)) s' t) h' ∧ h'[P]? = some (.lst L) := by
  have hP : P < h.length := (List.getElem?_eq_some_iff.mp eP).1
  let h1 : Hv := h ++ [.lst [.int 420]]
  let h2 : Hv := h1 ++ [.lst (List.replicate 120 (.int 420))]
  have m80 : mMul (.ref h.length) (.int 120) h1 = .val (.ref h1.length) h2 := by
    simp only [mMul, h1, get_last]
    rfl
  have ez : h2[h1.length]? = some (.lst (List.replicate 120 (.int 420))) := get_last
  obtain ⟨acc, en, ha⟩ := numbers_ok (cell := cell) (salt := 200 + (i : Int)) ez (by decide) (by omega) (by omega)
  let h3 : Hv := h2 ++ [.lst acc]
  let h4 : Hv := h3 ++ [.lst [.ref h2.length, .int 0]]
  have en' : m__law_numbers [.int cell, .int (200 + (i : Int)), .ref h1.length] h2 = .val (.ref h2.length) h3 := en
  have sta : Sta h4 h3.length h2.length := ⟨0, acc, get_last, by simp [h3], get_old get_last, ha⟩
  have eP4 : h4[P]? = some (.lst L) := get_old (get_old (get_old (get_old eP)))
  have ln4 : h4.length = h3.length + 1 := by simp [h4]
  have ln3 : h.length ≤ h3.length := by simp [h3, h2, h1]
  have hn4 : mNew (.lst [.ref h2.length, .int 0]) h3 = .val (.ref h3.length) h4 := rfl
  have hn1 : mNew (.lst [.int 420]) h = .val (.ref h.length) h1 := rfl
  have ne : h4.length ≠ h3.length := by omega
  obtain ⟨h5, e5, g5, k5⟩ := six (r := lEnv (some (.int i)) (some (.int cell)) (some (.ref h3.length)) t) (p := h3.length) (P := h4.length) (fun w g => rfl) 6 0 (h4 ++ [.lst []]) (by decide) (sta.more _) ne get_last
  have rn := mRng_of (m := 6) (g := h4) (r := lEnv (some (.int i)) (some (.int cell)) (some (.ref h3.length)) t) (f := mCons (mC (.int 6)) mNil) (by decide) rfl
  have lc : mLc (mRng (mCons (mC (.int 6)) mNil)) 4 (mNotT (mT (mCall 1 m__law_one_right (mCons (mVar 3) mNil)))) (mVar 4) (lEnv (some (.int i)) (some (.int cell)) (some (.ref h3.length)) t) h4 = .val (.ref h4.length) h5 := by
    unfold mLc
    rw [rn, bind_val]
    exact e5
  have k6 : (h5 ++ [O.lst []])[h4.length]? = some (.lst []) := get_old k5
  have n6 := ne_empty k6 get_last
  have eP5 : h5[P]? = some (.lst L) := g5.kp _ _ (by omega) (get_old eP4)
  obtain ⟨h7, e7, g7⟩ := sums_ok (g5.st.more [.lst []])
  have eP7 : h7[P]? = some (.lst L) := g7.kp _ _ (by omega) (get_old eP5)
  refine ⟨some (.ref h3.length), h7, ?_, eP7⟩
  have st : (mSet 3 (mLst (mCons (mCall 3 m__law_numbers (mCons (mVar 2) (mCons (m2 mAdd (mC (.int 200)) (mVar 1)) (mCons (m2 mMul (mLst (mCons (mC (.int 420)) mNil)) (mC (.int 120))) mNil)))) (mCons (mC (.int 0)) mNil)))) (lEnv (some (.int i)) (some (.int cell)) s t) h = .nx (lEnv (some (.int i)) (some (.int cell)) (some (.ref h3.length)) t) h4 := by
    clear_value h1 h2 h3 h4
    simp only [lEnv, mSet_eq, mLst_eq, mCons_eq, mCall_eq, mVar0, mVarS, bind_val, m2_eq, mC_eq, mAdd_int, mNil_eq, List.length_cons, List.length_nil, Nat.zero_add, show (1 : Nat) ≤ 100000 from by decide, if_true, hn1, m80, Nat.reduceAdd, en', show (2 : Nat) ≤ 100000 from by decide, hn4, andS_val, List.set]
  have v3 : ∀ g, mVar 3 (lEnv (some (.int i)) (some (.int cell)) (some (.ref h3.length)) t) g = .val (.ref h3.length) g := fun g => rfl
  unfold lBody
  rw [mSeq_eq, st, thenS_nx, mSeq_eq, mIfS_eq, mT_eq, m2_eq, lc, bind_val, mLst_eq, mNil_eq, bind_val]
  simp only [List.length_nil, Nat.zero_le, if_true, mNew_eq, bind_val, n6, asB_bl, andS_val, Bool.false_eq_true, if_false, mNext_eq, thenS_nx, mIfS_eq, mOrT_eq, mNotT_eq, mT_eq, mCall_eq, mCons_eq, v3, mNil_eq, List.length_cons, Nat.zero_add, e7, Bool.not_true, odd_ok]
abbrev lSrc : Ws → Hv → Res Src := (mEnum (mCons (m2 mAdd (mSl (mVar 0) (mPart none) (mPart (some (mC (.int 5))))) (m2 mMul (mLst (mCons (mC (.int 7)) mNil)) (mB mInt (mCons (m2 (mEq false) (mVar 0) (mLst mNil)) mNil)))) mNil))
theorem cut_sub {xs : List W} {lo hi : Option Int} : ∀ w ∈ cutW xs lo hi, w ∈ xs := fun w hw => List.mem_of_mem_drop (List.mem_of_mem_take hw)
theorem cut_len {xs : List W} {lo hi : Option Int} : (cutW xs lo hi).length ≤ xs.length := by
  unfold cutW
  simp only [List.length_take, List.length_drop]
  omega
theorem lsrc_ok (ns : List Int) (h1 : ns.length ≤ 63) : ∃ (L : List W) (P : Nat) (h : Hv), lSrc (lEnv none none none none) [.rol (ns.map W.int)] = .val ⟨L.length + 1, nxEnum P⟩ h ∧ h[P]? = some (.lst L) ∧ L.length ≤ 64 ∧ ∀ w ∈ L, IsI w := by
  have c1 := cut_sub (xs := ns.map W.int) (lo := none) (hi := some 5)
  have c2 := cut_len (xs := ns.map W.int) (lo := none) (hi := some 5)
  generalize hC : cutW (ns.map W.int) none (some 5) = C at c1 c2
  have ci : ∀ w ∈ C, IsI w := fun w hw => by
    obtain ⟨z, _, rfl⟩ := List.mem_map.mp (c1 w hw)
    exact ⟨z, rfl⟩
  rw [List.length_map] at c2
  have eqe := eq_empty (h := [.rol (ns.map W.int), .lst C, .lst [.int 7], .lst []]) (p := 0) (q := 3) (ns := ns) rfl rfl
  cases hb : ns.isEmpty with
  | true =>
    rw [hb] at eqe
    refine ⟨C ++ [.int 7], 5, [.rol (ns.map W.int), .lst C, .lst [.int 7], .lst [], .lst [.int 7], .lst (C ++ [.int 7])], ?_, rfl, by simp; omega, fun w hw => ?_⟩
    · simp [lSrc, lEnv, mEnum, mSl, mPart, mCut, hC, eqe, mMul, mAdd, srcE, show C.length + 1 ≤ 100000 by omega]
    · rcases List.mem_append.mp hw with q | q
      · exact ci w q
      · exact ⟨7, List.mem_singleton.mp q⟩
  | false =>
    rw [hb] at eqe
    refine ⟨C ++ [], 5, [.rol (ns.map W.int), .lst C, .lst [.int 7], .lst [], .lst [], .lst (C ++ [])], ?_, rfl, by simp; omega, fun w hw => ?_⟩
    · simp [lSrc, lEnv, mEnum, mSl, mPart, mCut, hC, eqe, mMul, mAdd, srcE, show C.length ≤ 100000 by omega]
    · rw [List.append_nil] at hw
      exact ci w hw
theorem true_ (ns : List Int) (h1 : ns.length ≤ 63) (h2 : ∀ z ∈ ns, Builtin.Int.intBits z ≤ 1048576) : ∃ h', m_law [.ref 0] [.rol (ns.map W.int)] = .val (.bl true) h' := by
  obtain ⟨L, P, h, e, eP, ll, li⟩ := lsrc_ok ns h1
  have lp := for_enum (P := P) (L := L) (b := lBody) (fun r g => ∃ k c s t, r = lEnv k c s t ∧ g[P]? = some (.lst L)) ?_ ?_
  · obtain ⟨r', h', e1, k, c, s, t, rfl, _⟩ := lp L.length 0 (lEnv none none none none) h (by omega) ⟨_, _, _, _, rfl, eP⟩
    refine ⟨h', ?_⟩
    unfold m_law
    rw [mDef_eq]
    have e0 : startW ["_law_script", "_law_k", "_law_cell", "_law_state", "_law_turn"] [.ref 0] = lEnv none none none none := rfl
    have fe : mFor lSrc (mGtup 2 (mGcons (mGn 1) (mGcons (mGn 2) mGnil))) lBody (lEnv none none none none) [.rol (ns.map W.int)] = .nx (lEnv k c s t) h' := by
      unfold mFor
      rw [e, andS_val]
      exact e1
    rw [e0, mSeq_eq, fe, thenS_nx, mRet_eq]
    rfl
  · rintro r g ⟨k, c, s, t, rfl, q⟩
    exact q
  · rintro i w ew r g ⟨k, c, s, t, rfl, q⟩
    have hi : i < L.length := (List.getElem?_eq_some_iff.mp ew).1
    obtain ⟨cell, rfl⟩ := li w (List.mem_of_getElem? ew)
    have se : ((lEnv k c s t).set 1 (some (.int i))).set 2 (some (.int cell)) = lEnv (some (.int i)) (some (.int cell)) s t := rfl
    rw [se]
    obtain ⟨s', h', e1, q1⟩ := lturn (i := i) (P := P) (cell := cell) (s := s) (t := t) (by omega) (get_old (t := [.tup [.int i, .int cell]]) q)
    exact ⟨_, _, e1, _, _, s', t, rfl, q1⟩
end K02
end
section
open PySem PyProof.Rows PySem.W

set_option maxRecDepth 110000 in
set_option maxHeartbeats 0 in
theorem PySem.Challenge.cw_whatiftimes_k02_fractions_holds : PySem.Challenge.rw_whatiftimes_k02_fractions.Holds := by
  w_on; o_law; km_head; (case hw => w_witness2)
  k_fill
  refine VL.walk_V (l := PySem.Challenge.rw_whatiftimes_k02_fractions) (n := 63) (k := 10) rfl (by decide) rfl ⟨rfl, by decide, by decide⟩ (fun w h Y => PySem.W.km_in_of Y) ?F
  case F =>
    intro w mg fa h Y KX G hmg
    refine' K02.mk KX G hmg K02.true_ ?a_xiswhole ?l_xiswhole ?c_xiswhole1 ?k_xiswhole ?a_xiswholepair ?l_xiswholepair ?c_xiswholepair1 ?k_xiswholepair ?a_xsignof ?l_xsignof ?c_xsignof1 ?k_xsignof ?a_xcommondivisor ?l_xcommondivisor ?c_xcommondivisor1 ?k_xcommondivisor ?a_xisfraction ?l_xisfraction ?c_xisfraction1 ?k_xisfraction ?a_xrequirefraction ?l_xrequirefraction ?c_xrequirefraction1 ?k_xrequirefraction ?a_xfraction ?l_xfraction ?c_xfraction1 ?k_xfraction ?a_xorderof ?l_xorderof ?c_xorderof1 ?k_xorderof ?a_xcompared ?l_xcompared ?c_xcompared1 ?k_xcompared ?a_xsumoftwo ?l_xsumoftwo ?c_xsumoftwo1 ?k_xsumoftwo ?a_xtotalof ?l_xtotalof ?c_xtotalof1 ?k_xtotalof ?a_xmiddle ?l_xmiddle ?c_xmiddle1 ?k_xmiddle ?a_xlawnumbers ?l_xlawnumbers ?c_xlawnumbers1 ?k_xlawnumbers ?a_xlawdraw ?l_xlawdraw ?c_xlawdraw1 ?k_xlawdraw ?a_xlawfraction ?l_xlawfraction ?c_xlawfraction1 ?k_xlawfraction ?a_xlawwhole ?l_xlawwhole ?c_xlawwhole1 ?k_xlawwhole ?a_xlawheard ?l_xlawheard ?c_xlawheard1 ?k_xlawheard ?a_xlawoneright ?l_xlawoneright ?c_xlawoneright1 ?k_xlawoneright ?a_xlawsumsright ?l_xlawsumsright ?c_xlawsumsright1 ?k_xlawsumsright ?a_xlawoddright ?l_xlawoddright ?c_xlawoddright1 ?k_xlawoddright ?a_xlaw ?l_xlaw ?c_xlaw1 ?k_xlaw ?aC ?xL ?sa ?ga ?gg ?nb ?a1 ?t1 ?l1 ?c1 ?k1 ?kC ?eC ?tC ?hC ?sC ?hcl ?hgs ?htk ?hmo ?mTimesError ?kiValueError ?kiTimesError ?z_ValueError ?z_abs ?z_bool ?z_enumerate ?z_int ?z_isinstance ?z_len ?z_list ?z_max ?z_range ?z_repr ?z_str ?z_tuple (PySem.W.km_tabs_of Y _ (List.mem_cons_of_mem _ List.mem_cons_self)) (PySem.W.km_tabs_of Y _ List.mem_cons_self) ?nTxlawoneright ?hHxlawoneright ?nTxlawoddright ?hHxlawoddright ?nexlawonerightxlawoddright ?Kl
    (case a_xiswhole => k_is)
    (case l_xiswhole => k_is)
    (case c_xiswhole1 => k_is)
    (case k_xiswhole => k_is)
    (case a_xiswholepair => k_is)
    (case l_xiswholepair => k_is)
    (case c_xiswholepair1 => k_is)
    (case k_xiswholepair => k_is)
    (case a_xsignof => k_is)
    (case l_xsignof => k_is)
    (case c_xsignof1 => k_is)
    (case k_xsignof => k_is)
    (case a_xcommondivisor => k_is)
    (case l_xcommondivisor => k_is)
    (case c_xcommondivisor1 => k_is)
    (case k_xcommondivisor => k_is)
    (case a_xisfraction => k_is)
    (case l_xisfraction => k_is)
    (case c_xisfraction1 => k_is)
    (case k_xisfraction => k_is)
    (case a_xrequirefraction => k_is)
    (case l_xrequirefraction => k_is)
    (case c_xrequirefraction1 => k_is)
    (case k_xrequirefraction => k_is)
    (case a_xfraction => k_is)
    (case l_xfraction => k_is)
    (case c_xfraction1 => k_is)
    (case k_xfraction => k_is)
    (case a_xorderof => k_is)
    (case l_xorderof => k_is)
    (case c_xorderof1 => k_is)
    (case k_xorderof => k_is)
    (case a_xcompared => k_is)
    (case l_xcompared => k_is)
    (case c_xcompared1 => k_is)
    (case k_xcompared => k_is)
    (case a_xsumoftwo => k_is)
    (case l_xsumoftwo => k_is)
    (case c_xsumoftwo1 => k_is)
    (case k_xsumoftwo => k_is)
    (case a_xtotalof => k_is)
    (case l_xtotalof => k_is)
    (case c_xtotalof1 => k_is)
    (case k_xtotalof => k_is)
    (case a_xmiddle => k_is)
    (case l_xmiddle => k_is)
    (case c_xmiddle1 => k_is)
    (case k_xmiddle => k_is)
    (case a_xlawnumbers => k_is)
    (case l_xlawnumbers => k_is)
    (case c_xlawnumbers1 => k_is)
    (case k_xlawnumbers => k_is)
    (case a_xlawdraw => k_is)
    (case l_xlawdraw => k_is)
    (case c_xlawdraw1 => k_is)
    (case k_xlawdraw => k_is)
    (case a_xlawfraction => k_is)
    (case l_xlawfraction => k_is)
    (case c_xlawfraction1 => k_is)
    (case k_xlawfraction => k_is)
    (case a_xlawwhole => k_is)
    (case l_xlawwhole => k_is)
    (case c_xlawwhole1 => k_is)
    (case k_xlawwhole => k_is)
    (case a_xlawheard => k_is)
    (case l_xlawheard => k_is)
    (case c_xlawheard1 => k_is)
    (case k_xlawheard => k_is)
    (case a_xlawoneright => k_is)
    (case l_xlawoneright => k_is)
    (case c_xlawoneright1 => k_is)
    (case k_xlawoneright => k_is)
    (case a_xlawsumsright => k_is)
    (case l_xlawsumsright => k_is)
    (case c_xlawsumsright1 => k_is)
    (case k_xlawsumsright => k_is)
    (case a_xlawoddright => k_is)
    (case l_xlawoddright => k_is)
    (case c_xlawoddright1 => k_is)
    (case k_xlawoddright => k_is)
    (case a_xlaw => k_is)
    (case l_xlaw => k_is)
    (case c_xlaw1 => k_is)
    (case k_xlaw => k_is)
    (case aC => k_is)
    (case xL => k_is)
    (case sa => k_is)
    (case ga => k_is)
    (case gg => k_is)
    (case nb => k_is)
    (case a1 => k_is)
    (case t1 => k_is)
    (case l1 => k_is)
    (case c1 => k_is)
    (case k1 => k_is)
    (case kC => k_is)
    (case eC => k_is)
    (case tC => k_is)
    (case hC => k_is)
    (case sC => k_is)
    (case hcl => k_is)
    (case hgs => k_is)
    (case htk => k_is)
    (case hmo => k_is)
    (case mTimesError => k_is)
    (case kiValueError => kernel_rfl)
    (case kiTimesError => kernel_rfl)
    (case z_ValueError => k_is)
    (case z_abs => k_is)
    (case z_bool => k_is)
    (case z_enumerate => k_is)
    (case z_int => k_is)
    (case z_isinstance => k_is)
    (case z_len => k_is)
    (case z_list => k_is)
    (case z_max => k_is)
    (case z_range => k_is)
    (case z_repr => k_is)
    (case z_str => k_is)
    (case z_tuple => k_is)
    (case nTxlawoneright => kernel_rfl)
    (case hHxlawoneright => kernel_rfl)
    (case nTxlawoddright => kernel_rfl)
    (case hHxlawoddright => kernel_rfl)
    (case nexlawonerightxlawoddright => kernel_rfl)
    (case Kl => kernel_rfl)
end
