import PyProof.Rows.All
import Wide.All
import OpenK.AllK
import Wide.FinOn
import HandS.ForMost
import HandS.ForExc
import HandS.IsInst
import HandS.Wide
import HandS.Lambda
import HandS.Steps
import HandS.Style
import HandS.RaiseMore
import HandS.Iter
import HandS.Comp
import HandS.ExcInit
import HandS.ExcField
import HandS.EndTab
import KE.KNestM
import HandS.ExcIs
import KE.KExcInit
import HandS.TryOnly
import PySem.Challenge.RW_whatiftimes_k04_order_of_lines
set_option Elab.async false
set_option linter.all false
set_option maxRecDepth 100000
set_option maxHeartbeats 2100000
section
/-! VL: a view of the abstract heap: values and objects by places in a list; what a piece of the program does is a plain Lean function over the view. -/
namespace VL
open PySem L2

/-- a value of a view: ref is a place in the view's list, fix an address that stands outside of it -/
inductive W where
  | non | bl (b : Bool) | int (i : Int) | str (x : Str) | ref (i : Nat) | fix (a : Addr) | ty (n : String)
  deriving DecidableEq

def WV (ps : List Addr) : W → V → Prop
  | .non, v => v = .non
  | .bl b, v => v = .bl b
  | .int i, v => v = .int i
  | .str x, v => v = .str x
  | .ty n, v => v = .ty n
  | .fix a, v => v = .ref a
  | .ref i, v => ∃ a, ps[i]? = some a ∧ v = .ref a

inductive O where
  | lst (xs : List W) | tup (xs : List W) | rol (xs : List W) | dic (kvs : List (Key × W)) | ins (C : Addr) (fs : List (Str × W)) | xd (fs : List (Str × W))

abbrev Hv := List O
abbrev Ws := List (Option W)
abbrev Tb := List (Addr × Str)
/-- what a view leans on: the tables of code objects, and a fact about places that stays -/
structure Tx where
  tb : Tb
  C : List Addr → Prop
  mono : ∀ ps qs, ps <+: qs → C ps → C qs
  /-- the classes of errors, by their names -/
  cv : String → Value
def Tx.plain (t : Tb) (cv : String → Value) : Tx := ⟨t, fun _ => True, fun _ _ _ h => h, cv⟩
/-- .. with one place known -/
def Tx.known (T : Tx) (j : Nat) (a : Addr) : Tx := ⟨T.tb, fun ps => T.C ps ∧ ps[j]? = some a, fun ps qs h ⟨c, e⟩ => ⟨T.mono ps qs h c, by
  obtain ⟨r, rfl⟩ := h
  rw [List.getElem?_append_left (List.getElem?_eq_some_iff.mp e).1]
  exact e⟩, T.cv⟩

def PW2 {k : Type} (ps : List Addr) (p : k × W) (q : k × V) : Prop := p.1 = q.1 ∧ WV ps p.2 q.2

def OAt (ps : List Addr) (H : Hp) (a : Addr) : O → Prop
  | .lst xs => ∃ vs, Paired (WV ps) xs vs ∧ H a = some (.lst vs)
  | .tup xs => ∃ vs, Paired (WV ps) xs vs ∧ H a = some (.tup vs)
  | .rol xs => ∃ vs ob, Paired (WV ps) xs vs ∧ H a = some (.frz ob (.lst vs))
  | .dic kvs => ∃ vs, Paired (PW2 ps) kvs vs ∧ H a = some (.dK vs)
  | .ins C fs => ∃ vs dx, Paired (PW2 ps) fs vs ∧ H a = some (.ins C dx vs)
  | .xd fs => ∃ vs, Paired (PW2 ps) fs vs ∧ H a = some (.xd vs)

structure View (T : Tx) (ps : List Addr) (h : Hv) (H : Hp) : Prop where
  len : ps.length = h.length
  nd : ps.Nodup
  ob : ∀ (i : Nat) (a : Addr) (o : O), ps[i]? = some a → h[i]? = some o → OAt ps H a o
  tab : LamX.Tabs T.tb H
  fact : T.C ps

structure Step (ps : List Addr) (H : Hp) (qs : List Addr) (H' : Hp) : Prop where
  pre : ps <+: qs
  new : ∀ a o, a ∈ qs → a ∉ ps → H a = some o → ∃ z, o = .tbl z
  fr : ∀ a o, H a = some o → (∀ z, o ≠ .tbl z) → a ∉ ps → H' a = some o

theorem WV.mono {ps qs : List Addr} (h : ps <+: qs) : ∀ {w : W} {v : V}, WV ps w v → WV qs w v
  | .non, _, e => e
  | .bl _, _, e => e
  | .int _, _, e => e
  | .str _, _, e => e
  | .ty _, _, e => e
  | .fix _, _, e => e
  | .ref i, _, ⟨a, e1, e2⟩ => ⟨a, by
      obtain ⟨r, rfl⟩ := h
      rw [List.getElem?_append_left (List.getElem?_eq_some_iff.mp e1).1]
      exact e1, e2⟩
theorem WVs.mono {ps qs : List Addr} (h : ps <+: qs) {xs : List W} {vs : List V} (r : Paired (WV ps) xs vs) : Paired (WV qs) xs vs := L2.Paired.mapP r fun _ _ e => e.mono h
theorem PW2.mono {k : Type} {ps qs : List Addr} (h : ps <+: qs) {p : k × W} {q : k × V} (r : PW2 ps p q) : PW2 qs p q := ⟨r.1, r.2.mono h⟩
theorem OAt.mono {ps qs : List Addr} {H : Hp} {a : Addr} (h : ps <+: qs) : ∀ {o : O}, OAt ps H a o → OAt qs H a o
  | .lst _, ⟨vs, r, e⟩ => ⟨vs, WVs.mono h r, e⟩
  | .tup _, ⟨vs, r, e⟩ => ⟨vs, WVs.mono h r, e⟩
  | .rol _, ⟨vs, ob, r, e⟩ => ⟨vs, ob, WVs.mono h r, e⟩
  | .dic _, ⟨vs, r, e⟩ => ⟨vs, L2.Paired.mapP r fun _ _ z => z.mono h, e⟩
  | .ins _ _, ⟨vs, dx, r, e⟩ => ⟨vs, dx, L2.Paired.mapP r fun _ _ z => z.mono h, e⟩
  | .xd _, ⟨vs, r, e⟩ => ⟨vs, L2.Paired.mapP r fun _ _ z => z.mono h, e⟩
/-- the object at a, as it stands -/
theorem OAt.there {ps : List Addr} {H : Hp} {a : Addr} : ∀ {o : O}, OAt ps H a o → ∃ u, H a = some u ∧ (∀ z, u ≠ .tbl z) ∧ ∀ f, u ≠ .ext f
  | .lst _, ⟨vs, r, e⟩ => ⟨_, e, (fun _ z => by cases z), (fun _ z => by cases z)⟩
  | .tup _, ⟨vs, r, e⟩ => ⟨_, e, (fun _ z => by cases z), (fun _ z => by cases z)⟩
  | .rol _, ⟨vs, ob, r, e⟩ => ⟨_, e, (fun _ z => by cases z), (fun _ z => by cases z)⟩
  | .dic _, ⟨vs, r, e⟩ => ⟨_, e, (fun _ z => by cases z), (fun _ z => by cases z)⟩
  | .ins _ _, ⟨vs, dx, r, e⟩ => ⟨_, e, (fun _ z => by cases z), (fun _ z => by cases z)⟩
  | .xd _, ⟨vs, r, e⟩ => ⟨_, e, (fun _ z => by cases z), (fun _ z => by cases z)⟩
theorem OAt.put {ps : List Addr} {H H' : Hp} {a : Addr} (h : ∀ u, H a = some u → H' a = some u) : ∀ {o : O}, OAt ps H a o → OAt ps H' a o
  | .lst _, ⟨vs, r, e⟩ => ⟨vs, r, h _ e⟩
  | .tup _, ⟨vs, r, e⟩ => ⟨vs, r, h _ e⟩
  | .rol _, ⟨vs, ob, r, e⟩ => ⟨vs, ob, r, h _ e⟩
  | .dic _, ⟨vs, r, e⟩ => ⟨vs, r, h _ e⟩
  | .ins _ _, ⟨vs, dx, r, e⟩ => ⟨vs, dx, r, h _ e⟩
  | .xd _, ⟨vs, r, e⟩ => ⟨vs, r, h _ e⟩

theorem Step.refl (ps : List Addr) (H : Hp) : Step ps H ps H := ⟨List.prefix_refl _, fun _ _ h n _ => absurd h n, fun _ _ h _ _ => h⟩
theorem Step.trans {ps qs rs : List Addr} {H H1 H2 : Hp} (a : Step ps H qs H1) (b : Step qs H1 rs H2) : Step ps H rs H2 := by
  have key : ∀ c o, H c = some o → (∀ z, o ≠ .tbl z) → c ∉ ps → c ∉ qs := fun c o h ht n hq => by
    obtain ⟨z, e⟩ := a.new c o hq n h
    exact ht z e
  refine ⟨a.pre.trans b.pre, fun c o hc n h => ?_, fun c o h ht n => b.fr c o (a.fr c o h ht n) ht (key c o h ht n)⟩
  by_cases ht : ∃ z, o = .tbl z
  · exact ht
  · have ht' : ∀ z, o ≠ .tbl z := fun z e => ht ⟨z, e⟩
    exact b.new c o hc (key c o h ht' n) (a.fr c o h ht' n)

section
variable {T : Tx} {ps : List Addr} {h : Hv} {H : Hp}
theorem View.get (v : View T ps h H) {i : Nat} {o : O} (e : h[i]? = some o) : ∃ a, ps[i]? = some a ∧ OAt ps H a o := by
  have hl : i < ps.length := by rw [v.len]; exact (List.getElem?_eq_some_iff.mp e).1
  exact ⟨ps[i], by simp [hl], v.ob i _ o (by simp [hl]) e⟩
theorem View.mem (v : View T ps h H) {a : Addr} (ha : a ∈ ps) : ∃ u, H a = some u ∧ (∀ z, u ≠ .tbl z) ∧ ∀ f, u ≠ .ext f := by
  obtain ⟨i, hi, e⟩ := List.getElem_of_mem ha
  have hl : i < h.length := by rw [← v.len]; exact hi
  exact (v.ob i a h[i] (by simp [hi, e]) (by simp [hl])).there
theorem View.fresh (v : View T ps h H) {p : Addr} (hp : H p = none) : p ∉ ps := fun z => by
  obtain ⟨u, e, _⟩ := v.mem z
  rw [hp] at e; cases e
theorem tabs_new {T : Tb} (t : LamX.Tabs T H) {p : Addr} (hp : H p = none) (o : HO) : LamX.Tabs T (upd H p o) := t.ext fun b u e => by rw [upd_ne (ne_of_none e hp)]; exact e
theorem tabs_put {T : Tb} (t : LamX.Tabs T H) {p : Addr} {u : HO} (hp : H p = some u) (h1 : ∀ z, u ≠ .tbl z) (h2 : ∀ f, u ≠ .ext f) (o : HO) : LamX.Tabs T (upd H p o) := fun q hq => by
  obtain ⟨z, e1, e2, e3⟩ := t q hq
  refine ⟨z, by rw [upd_ne (fun w => h1 z (by rw [w, hp] at e1; exact Option.some.inj e1))]; exact e1, e2, fun pos cv hc => ?_⟩
  obtain ⟨c, r1, r2⟩ := e3 pos cv hc
  refine ⟨c, r1, ?_⟩
  rw [upd_ne (fun w => h2 _ (by rw [w, hp] at r2; exact Option.some.inj r2))]
  exact r2
/-- a new object of ours -/
theorem View.alloc (v : View T ps h H) {p : Addr} (hp : H p = none) {o : O} {u : HO} (ho : OAt ps (upd H p u) p o) : View T (ps ++ [p]) (h ++ [o]) (upd H p u) ∧ Step ps H (ps ++ [p]) (upd H p u) ∧ (ps ++ [p])[h.length]? = some p := by
  have hn := v.fresh hp
  refine ⟨⟨by simp [v.len], ?_, fun i a o' e1 e2 => ?_, tabs_new v.tab hp u, T.mono _ _ (List.prefix_append _ _) v.fact⟩, ⟨List.prefix_append _ _, fun a o' ha hb he => ?_, fun a o' e _ _ => by rw [upd_ne (ne_of_none e hp)]; exact e⟩, by rw [← v.len]; simp⟩
  · rw [List.nodup_append]
    refine ⟨v.nd, by simp, fun a ha b hb => ?_⟩
    simp at hb
    rintro rfl
    exact hn (hb ▸ ha)
  · by_cases hi : i < ps.length
    · rw [List.getElem?_append_left hi] at e1
      rw [List.getElem?_append_left (by rw [← v.len]; exact hi)] at e2
      have q := v.ob i a o' e1 e2
      obtain ⟨u', e', _⟩ := q.there
      exact (q.put fun w hw => by rw [upd_ne (ne_of_none e' hp)]; exact hw).mono (List.prefix_append _ _)
    · have hi' : i = ps.length := by
        have := (List.getElem?_eq_some_iff.mp e1).1
        simp at this; omega
      subst hi'
      simp at e1
      rw [v.len] at e2
      simp at e2
      subst e1 e2
      exact ho.mono (List.prefix_append _ _)
  · simp at ha
    rcases ha with ha | ha
    · exact absurd ha hb
    · rw [ha, hp] at he; cases he
/-- an object of ours is another -/
theorem View.put (v : View T ps h H) {i : Nat} {a : Addr} (ha : ps[i]? = some a) {o : O} {u : HO} (ho : OAt ps (upd H a u) a o) : View T ps (h.set i o) (upd H a u) ∧ Step ps H ps (upd H a u) := by
  obtain ⟨u0, e0, t0, x0⟩ := v.mem (List.mem_of_getElem? ha)
  refine ⟨⟨by simp [v.len], v.nd, fun j b o' e1 e2 => ?_, tabs_put v.tab e0 t0 x0 u, v.fact⟩, ⟨List.prefix_refl _, fun _ _ h n _ => absurd h n, fun b o' e _ n => ?_⟩⟩
  · by_cases hj : j = i
    · subst hj
      rw [ha] at e1
      cases e1
      have hl : j < h.length := by rw [← v.len]; exact (List.getElem?_eq_some_iff.mp ha).1
      rw [List.getElem?_set_self hl] at e2
      cases e2
      exact ho
    · rw [List.getElem?_set_ne fun z => hj z.symm] at e2
      have q := v.ob j b o' e1 e2
      refine q.put fun w hw => ?_
      rw [upd_ne (fun z => hj ?_)]
      · exact hw
      · subst z
        have h1 := List.getElem?_eq_some_iff.mp ha
        have h2 := List.getElem?_eq_some_iff.mp e1
        exact (List.getElem_inj v.nd).mp (h2.2.trans h1.2.symm)
  · rw [upd_ne (fun z => n (by rw [z]; exact List.mem_of_getElem? ha))]
    exact e
end

/-! ### results -/
inductive Res (α : Type) where
  | val (a : α) (h : Hv)
  | exc (c : String) (d : Option Nat) (h : Hv)
  | bad
namespace Res
def bind {α β : Type} : Res α → (α → Hv → Res β) → Res β
  | .val a h, k => k a h
  | .exc c d h, _ => .exc c d h
  | .bad, _ => .bad
end Res
def DV (ps : List Addr) : Option Nat → Option Addr → Prop
  | none, d => d = none
  | some i, d => ∃ a, ps[i]? = some a ∧ d = some a

def Good {α β : Type} (T : Tx) (R : List Addr → α → β → Prop) (ps : List Addr) (H : Hp) : Res α → (β → Hp → Prop) → XK → Prop
  | .val w h, Q, _ => ∀ qs H' v, Step ps H qs H' → View T qs h H' → R qs w v → Q v H'
  | .exc c d h, _, E => ∀ qs H' e, Step ps H qs H' → View T qs h H' → DV qs d e → E (T.cv c) e H'
  | .bad, _, _ => False
section
variable {α β γ δ : Type} {T : Tx} {R : List Addr → α → β → Prop} {S : List Addr → γ → δ → Prop} {ps qs : List Addr} {H H1 : Hp} {h : Hv} {r : Res α} {Q : β → Hp → Prop} {E : XK}
theorem Good.step (g : Good T R ps H r Q E) (s : Step ps H qs H1) : Good T R qs H1 r Q E := by
  cases r with
  | val w h => exact fun rs H' v s' => g rs H' v (s.trans s')
  | exc c d h => exact fun rs H' e s' => g rs H' e (s.trans s')
  | bad => exact g
/-- what stands between two pieces -/
def Mid (T : Tx) (R : List Addr → α → β → Prop) (S : List Addr → γ → δ → Prop) (ps : List Addr) (H : Hp) (k : α → Hv → Res γ) (Q : δ → Hp → Prop) (E : XK) (v : β) (H1 : Hp) : Prop :=
  ∃ qs w h1, Step ps H qs H1 ∧ View T qs h1 H1 ∧ R qs w v ∧ Good T S qs H1 (k w h1) Q E
theorem Good.bind {k : α → Hv → Res γ} {Q : δ → Hp → Prop} (g : Good T S ps H (r.bind k) Q E) : Good T R ps H r (Mid T R S ps H k Q E) E := by
  cases r with
  | val w h => exact fun qs H' v s vw rv => ⟨qs, w, h, s, vw, rv, Good.step g s⟩
  | exc c d h => exact g
  | bad => exact g
theorem Good.imp {Q' : β → Hp → Prop} {E' : XK} (g : Good T R ps H r Q E) (hq : ∀ v H', Q v H' → Q' v H') (he : ∀ c d H', E c d H' → E' c d H') : Good T R ps H r Q' E' := by
  cases r with
  | val w h => exact fun qs H' v s vw rv => hq _ _ (g qs H' v s vw rv)
  | exc c d h => exact fun qs H' e s vw rv => he _ _ _ (g qs H' e s vw rv)
  | bad => exact g
theorem Good.now {w : α} {v : β} (g : Good T R ps H (.val w h) Q E) (vw : View T ps h H) (rv : R ps w v) : Q v H := g ps H v (Step.refl _ _) vw rv
end

/-- the def's names -/
def ES (ps : List Addr) (r : Ws) (s : St) : Prop := r.length = s.length ∧ ∀ (i : Nat) (w : W), r[i]? = some (some w) → ∃ v, s[i]? = some (some v) ∧ WV ps w v
theorem ES.mono {ps qs : List Addr} {r : Ws} {s : St} (e : ES ps r s) (h : ps <+: qs) : ES qs r s := ⟨e.1, fun i w q => by
  obtain ⟨v, a, b⟩ := e.2 i w q
  exact ⟨v, a, b.mono h⟩⟩
theorem ES.set {ps : List Addr} {r : Ws} {s : St} {w : W} {v : V} (e : ES ps r s) (i : Nat) (h : WV ps w v) : ES ps (r.set i (some w)) (s.set i (some v)) := ⟨by simp [e.1], fun j u q => by
  by_cases hj : j = i
  · subst hj
    have hl : j < r.length := by simpa using (List.getElem?_eq_some_iff.mp q).1
    rw [List.getElem?_set_self hl] at q
    cases q
    exact ⟨v, by rw [List.getElem?_set_self (by rw [← e.1]; exact hl)], h⟩
  · rw [List.getElem?_set_ne (Ne.symm hj)] at q
    rw [List.getElem?_set_ne (Ne.symm hj)]
    exact e.2 j u q⟩

abbrev BEq2 : List Addr → Bool → Bool → Prop := fun _ a b => a = b
/-- the readings -/
def tE (T : Tx) (E : WX) (f : Ws → Hv → Res W) : TE := fun s H Q => ∃ ps r h, ES ps r s ∧ View T ps h H ∧ Good T WV ps H (f r h) Q (fun c d H' => E c d s H')
def tT (T : Tx) (E : WX) (f : Ws → Hv → Res Bool) : TT := fun s H Q => ∃ ps r h, ES ps r s ∧ View T ps h H ∧ Good T BEq2 ps H (f r h) Q (fun c d H' => E c d s H')
def tA (T : Tx) (E : WX) (f : Ws → Hv → Res (List W)) : TA := fun s H Q => ∃ ps r h, ES ps r s ∧ View T ps h H ∧ Good T (fun qs => Paired (WV qs)) ps H (f r h) Q (fun c d H' => E c d s H')

inductive ResS where
  | nx (r : Ws) (h : Hv) | rt (w : W) (h : Hv) | bk (r : Ws) (h : Hv) | ct (r : Ws) (h : Hv) | exc (c : String) (d : Option Nat) (r : Ws) (h : Hv) | bad
def GoodS (T : Tx) (ps : List Addr) (H : Hp) : ResS → Ends → WX → Prop
  | .nx r h, D, _ => ∀ qs H' s, Step ps H qs H' → View T qs h H' → ES qs r s → D.nx s H'
  | .rt w h, D, _ => ∀ qs H' v, Step ps H qs H' → View T qs h H' → WV qs w v → D.rt v H'
  | .bk r h, D, _ => ∀ qs H' s, Step ps H qs H' → View T qs h H' → ES qs r s → D.bk s H'
  | .ct r h, D, _ => ∀ qs H' s, Step ps H qs H' → View T qs h H' → ES qs r s → D.ct s H'
  | .exc c d r h, _, E => ∀ qs H' s e, Step ps H qs H' → View T qs h H' → ES qs r s → DV qs d e → E (T.cv c) e s H'
  | .bad, _, _ => False
theorem GoodS.step {T : Tx} {ps qs : List Addr} {H H1 : Hp} {r : ResS} {D : Ends} {E : WX} (g : GoodS T ps H r D E) (s : Step ps H qs H1) : GoodS T qs H1 r D E := by
  cases r with
  | nx r h => exact fun rs H' v s' => g rs H' v (s.trans s')
  | rt r h => exact fun rs H' v s' => g rs H' v (s.trans s')
  | bk r h => exact fun rs H' v s' => g rs H' v (s.trans s')
  | ct r h => exact fun rs H' v s' => g rs H' v (s.trans s')
  | exc c d r h => exact fun rs H' v e s' => g rs H' v e (s.trans s')
  | bad => exact g
def tS (T : Tx) (E : WX) (f : Ws → Hv → ResS) : TS := fun D s H => ∃ ps r h, ES ps r s ∧ View T ps h H ∧ GoodS T ps H (f r h) D E

/-- the context's wish about exceptions -/
structure Cn (X : Cx) (E : WX) : Prop where
  tk : Takes X E
  po : PassesOwn (model X.prog X.w) X.A X.env X.xe
def SE (T : Tx) (X : Cx) (e : Expr) (f : Ws → Hv → Res W) : Prop := ∀ E, Cn X E → PE X e (tE T E f)
def STt (T : Tx) (X : Cx) (e : Expr) (f : Ws → Hv → Res Bool) : Prop := ∀ E, Cn X E → PT X e (tT T E f)
def SA (T : Tx) (X : Cx) (es : List Expr) (f : Ws → Hv → Res (List W)) : Prop := ∀ E, Cn X E → PA X es (tA T E f)
def SS (T : Tx) (X : Cx) (st : Stmt) (f : Ws → Hv → ResS) : Prop := ∀ E, Cn X E → PS X st (tS T E f)
def SSs (T : Tx) (X : Cx) (st : List Stmt) (f : Ws → Hv → ResS) : Prop := ∀ E, Cn X E → PSs X st (tS T E f)

section
variable {X : Cx} {e : Expr} {es : List Expr} {st : Stmt} {sts : List Stmt}
theorem PEi {t t' : TE} (h : PE X e t) (k : ∀ s H Q, t' s H Q → t s H Q) : PE X e t' := ⟨fun pins s σ H Q I hw => h.run pins s σ H Q I (k _ _ _ hw)⟩
theorem PTi {t t' : TT} (h : PT X e t) (k : ∀ s H Q, t' s H Q → t s H Q) : PT X e t' := ⟨fun pins s σ H Q I hw => h.run pins s σ H Q I (k _ _ _ hw)⟩
theorem PAi {t t' : TA} (h : PA X es t) (k : ∀ s H Q, t' s H Q → t s H Q) : PA X es t' := ⟨fun pos pins s σ H Q I hw => h.run pos pins s σ H Q I (k _ _ _ hw)⟩
theorem PSi {t t' : TS} (h : PS X st t) (k : ∀ D s H, t' D s H → t D s H) : PS X st t' := ⟨fun pins s σ H D I hw => h.run pins s σ H D I (k _ _ _ hw)⟩
theorem PSsi {t t' : TS} (h : PSs X sts t) (k : ∀ D s H, t' D s H → t D s H) : PSs X sts t' := ⟨fun pins s σ H D I hw => h.run pins s σ H D I (k _ _ _ hw)⟩
end
end VL
end
section
namespace VL
open PySem L2

/-! ### names, and what stands for itself -/
def mVar (i : Nat) : Ws → Hv → Res W := fun r h => match r[i]? with
  | some (some w) => .val w h
  | _ => .bad
def mC (w : W) : Ws → Hv → Res W := fun _ h => .val w h
section
variable {T : Tx} {X : Cx}
theorem se_var (i : Nat) {x : Str} {pos : Pos} (hN : X.N[i]? = some x := by rfl) (hv : Vis X.env.scope x := by first | exact Or.inl rfl | exact Or.inr (Or.inl rfl) | exact Or.inr (Or.inr rfl)) (hd : (x == ("__debug__" : Str)) = false := by decide)
    (hcd : (x == ("__classdict__" : Str)) = false := by decide) : SE T X (.Name x pos) (mVar i) := fun E cn => PEi (pe_var hN hv hd hcd) fun s H Q ⟨ps, r, h, es, vw, g⟩ => by
  unfold mVar at g
  split at g
  · rename_i w e
    obtain ⟨v, h1, h2⟩ := es.2 i w e
    exact ⟨v, h1, Good.now g vw h2⟩
  · exact g.elim
theorem se_c {e : Expr} {v : V} {w : W} (hp : PE X e (tC v)) (hw : ∀ ps, WV ps w v) : SE T X e (mC w) := fun E cn => PEi hp fun s H Q ⟨ps, r, h, es, vw, g⟩ => Good.now g vw (hw ps)
theorem se_int {i : Int} {j pos} : SE T X (.Constant (.int i) j pos) (mC (.int i)) := se_c pe_int fun _ => rfl
theorem se_bl {b : Bool} {j pos} : SE T X (.Constant (.bool b) j pos) (mC (.bl b)) := se_c pe_bl fun _ => rfl
theorem se_non {j pos} : SE T X (.Constant .none j pos) (mC .non) := se_c pe_non fun _ => rfl
theorem se_str {x : Str} {j pos} : SE T X (.Constant (.str x) j pos) (mC (.str x)) := se_c pe_str fun _ => rfl
theorem se_fix {x : Str} {a : Addr} {pos : Pos} (hg : Gl X x) (hm : X.mg x = some (.ref a)) (hd : (x == ("__debug__" : Str)) = false := by decide) : SE T X (.Name x pos) (mC (.fix a)) := se_c (pe_glob (v := .ref a) hg hm rfl hd) fun _ => rfl
theorem se_ty {x : Str} {n : String} {pos : Pos} (hg : Gl X x) (hm : X.mg x = none) (hv : bootBuiltins x = some (.type n)) (hn : x ≠ "__name__" := by decide) (hd : (x == ("__debug__" : Str)) = false := by decide) : SE T X (.Name x pos) (mC (.ty n)) :=
  se_c (pe_bltn (v := .ty n) hg hm hv rfl hn hd) fun _ => rfl
end

/-! ### operators -/
abbrev MOp := W → W → Hv → Res W
def RO (T : Tx) (r : R2) (g : MOp) : Prop := ∀ ps h H x y vx vy (Q : VK) (E : XK), View T ps h H → WV ps x vx → WV ps y vy → Good T WV ps H (g x y h) Q E → r vx vy H Q
def m2 (g : MOp) (fa fb : Ws → Hv → Res W) : Ws → Hv → Res W := fun r h => (fa r h).bind fun x h1 => (fb r h1).bind fun y h2 => g x y h2
section
variable {T : Tx} {X : Cx} {a b : Expr} {fa fb : Ws → Hv → Res W} {pos : Pos}
theorem two_of {E : WX} {r : R2} {g : MOp} (ho : RO T r g) {s : St} {H : Hp} {Q : VK} (h : tE T E (m2 g fa fb) s H Q) : tOp r (tE T E fa) (tE T E fb) s H Q := by
  obtain ⟨ps, r', hv, es, vw, gd⟩ := h
  refine ⟨ps, r', hv, es, vw, (Good.bind (R := WV) gd).imp (fun v H1 q => ?_) fun _ _ _ z => z⟩
  obtain ⟨qs, w, h1, st, vw1, wv, g1⟩ := q
  refine ⟨qs, r', h1, es.mono st.pre, vw1, (Good.bind (R := WV) g1).imp (fun u H2 q2 => ?_) fun _ _ _ z => z⟩
  obtain ⟨rs, w2, h2, st2, vw2, wv2, g2⟩ := q2
  exact ho rs h2 H2 w w2 v u Q _ vw2 (wv.mono st2.pre) wv2 g2
theorem se_op {op : Operator} {r : R2} {g : MOp} (ho : OpR X (binaryOp op) r) (hg : RO T r g) (ha : SE T X a fa) (hb : SE T X b fb) : SE T X (.BinOp a op b pos) (m2 g fa fb) := fun E cn =>
  PEi (pe_op ho (ha E cn) (hb E cn)) fun s H Q h => two_of hg h
theorem se_cmp {op : CmpOp} {r : R2} {g : MOp} (ho : OpR X (compareOp op) r) (hg : RO T r g) (ha : SE T X a fa) (hb : SE T X b fb) (hm : behindInMarks op b = false) : SE T X (.Compare a [op] [b] pos) (m2 g fa fb) := fun E cn =>
  PEi (pe_cmpR ho (ha E cn) (hb E cn) hm) fun s H Q h => two_of hg h
theorem RO.or {r r' : R2} {g : MOp} (h : ∀ ps h H x y vx vy (Q : VK) (E : XK), View T ps h H → WV ps x vx → WV ps y vy → Good T WV ps H (g x y h) Q E → r vx vy H Q ∨ r' vx vy H Q) : RO T (fun x y H Q => r x y H Q ∨ r' x y H Q) g := h

/-- two ints -/
def mI (C : Int → Int → Bool) (g : Int → Int → W) : MOp := fun x y h => match x, y with
  | .int i, .int j => if C i j then .val (g i j) h else .bad
  | _, _ => .bad
theorem ro_I {C : Int → Int → Prop} {C' : Int → Int → Bool} {g : Int → Int → W} {gv : Int → Int → V} (hc : ∀ i j, C' i j = true → C i j) (hg : ∀ ps i j, WV ps (g i j) (gv i j)) : RO T (rI C gv) (mI C' g) := by
  intro ps h H x y vx vy Q E vw wx wy gd
  unfold mI at gd
  split at gd
  · rename_i i j
    split at gd
    · rename_i hcc
      cases wx; cases wy
      exact ⟨i, j, rfl, rfl, hc i j hcc, Good.now gd vw (hg ps i j)⟩
    · exact gd.elim
  · exact gd.elim
def mI0 (g : Int → Int → W) : MOp := fun x y h => match x, y with
  | .int i, .int j => .val (g i j) h
  | _, _ => .bad
theorem ro_I0 {g : Int → Int → W} {gv : Int → Int → V} (hg : ∀ ps i j, WV ps (g i j) (gv i j)) : RO T (rI0 gv) (mI0 g) := by
  intro ps h H x y vx vy Q E vw wx wy gd
  unfold mI0 at gd
  split at gd
  · rename_i i j
    cases wx; cases wy
    exact ⟨i, j, rfl, rfl, Good.now gd vw (hg ps i j)⟩
  · exact gd.elim

/-! ### objects -/
def mNew (o : O) (h : Hv) : Res W := .val (.ref h.length) (h ++ [o])
theorem good_new {ps : List Addr} {h : Hv} {H : Hp} {o : O} {u : HO} {Q : VK} {E : XK} (vw : View T ps h H) (g : Good T WV ps H (mNew o h) Q E) (ho : ∀ H' p, H' p = some u → OAt ps H' p o) {p : Addr} (hp : H p = none) : Q (.ref p) (upd H p u) := by
  obtain ⟨v1, s1, e1⟩ := vw.alloc hp (ho _ p upd_same)
  exact g _ _ _ s1 v1 ⟨p, e1, rfl⟩
theorem paired_app {ps : List Addr} {xs ys : List W} {vs us : List V} (a : Paired (WV ps) xs vs) (b : Paired (WV ps) ys us) : Paired (WV ps) (xs ++ ys) (vs ++ us) := by
  induction a with
  | nil => exact b
  | cons h t ih => exact .cons h ih
theorem paired_get {ps : List Addr} {xs : List W} {vs : List V} (a : Paired (WV ps) xs vs) : ∀ {i : Nat} {w : W}, xs[i]? = some w → ∃ v, vs[i]? = some v ∧ WV ps w v := by
  induction a with
  | nil => intro i w e; simp at e
  | cons h t ih =>
    intro i w e
    cases i with
    | zero => simp at e; subst e; exact ⟨_, rfl, h⟩
    | succ i => exact ih (by simpa using e)
theorem paired_at {ps : List Addr} {xs : List W} {vs : List V} (a : Paired (WV ps) xs vs) {i : Int} {w : W} (e : atI xs i = some w) : ∃ v, atI vs i = some v ∧ WV ps w v := by
  unfold atI at e ⊢
  rw [← a.length]
  cases h : ixN xs.length i with
  | none => rw [h] at e; cases e
  | some j =>
    rw [h] at e
    exact paired_get a e
theorem paired_set {ps : List Addr} {xs : List W} {vs : List V} (a : Paired (WV ps) xs vs) {w : W} {v : V} (h : WV ps w v) : ∀ i, Paired (WV ps) (xs.set i w) (vs.set i v) := by
  induction a with
  | nil => intro i; exact .nil
  | cons h1 t ih =>
    intro i
    cases i with
    | zero => exact .cons h t
    | succ i => exact .cons h1 (ih i)
theorem paired_take {ps : List Addr} {xs : List W} {vs : List V} (a : Paired (WV ps) xs vs) : ∀ n, Paired (WV ps) (xs.take n) (vs.take n) := by
  induction a with
  | nil => intro n; simp; exact .nil
  | cons h1 t ih =>
    intro n
    cases n with
    | zero => exact .nil
    | succ n => exact .cons h1 (ih n)
theorem paired_drop {ps : List Addr} {xs : List W} {vs : List V} (a : Paired (WV ps) xs vs) : ∀ n, Paired (WV ps) (xs.drop n) (vs.drop n) := by
  induction a with
  | nil => intro n; simp; exact .nil
  | cons h1 t ih =>
    intro n
    cases n with
    | zero => exact .cons h1 t
    | succ n => exact ih n
theorem paired_rep {ps : List Addr} {xs : List W} {vs : List V} (a : Paired (WV ps) xs vs) : ∀ n, Paired (WV ps) (List.replicate n xs).flatten (List.replicate n vs).flatten
  | 0 => .nil
  | n + 1 => by
    simp only [List.replicate_succ, List.flatten_cons]
    exact paired_app a (paired_rep a n)
end

/-! ### argument lists, displays -/
def mNil : Ws → Hv → Res (List W) := fun _ h => .val [] h
def mCons (f : Ws → Hv → Res W) (g : Ws → Hv → Res (List W)) : Ws → Hv → Res (List W) := fun r h => (f r h).bind fun w h1 => (g r h1).bind fun ws h2 => .val (w :: ws) h2
abbrev WVs : List Addr → List W → List V → Prop := fun qs => Paired (WV qs)
section
variable {T : Tx} {X : Cx} {e : Expr} {es : List Expr} {f : Ws → Hv → Res W} {g : Ws → Hv → Res (List W)} {pos : Pos}
theorem sa_nil : SA T X [] mNil := fun E cn => PAi pa_nil fun s H Q ⟨ps, r, h, es, vw, g⟩ => Good.now (R := WVs) g vw .nil
theorem sa_cons (h1 : SE T X e f) (h2 : SA T X es g) (hs : starEach (e :: es) X.env = (false, eval e X.env) :: starEach es X.env := by rfl) : SA T X (e :: es) (mCons f g) := fun E cn =>
  PAi (pa_cons (h1 E cn) (h2 E cn) hs) fun s H Q ⟨ps, r, h, es, vw, gd⟩ => by
    refine ⟨ps, r, h, es, vw, (Good.bind (R := WV) (S := WVs) gd).imp (fun v H1 q => ?_) fun _ _ _ z => z⟩
    obtain ⟨qs, w, h1, st, vw1, wv, g1⟩ := q
    refine ⟨qs, r, h1, es.mono st.pre, vw1, (Good.bind (R := WVs) (S := WVs) g1).imp (fun u H2 q2 => ?_) fun _ _ _ z => z⟩
    obtain ⟨rs, w2, h2, st2, vw2, wv2, g2⟩ := q2
    exact Good.now (R := WVs) g2 vw2 (.cons (wv.mono st2.pre) wv2)
def mTup (g : Ws → Hv → Res (List W)) : Ws → Hv → Res W := fun r h => (g r h).bind fun ws h1 => if ws.length ≤ 100000 then mNew (.tup ws) h1 else .bad
def mLst (g : Ws → Hv → Res (List W)) : Ws → Hv → Res W := fun r h => (g r h).bind fun ws h1 => if ws.length ≤ 100000 then mNew (.lst ws) h1 else .bad
theorem sz_ok {n : Nat} (h : n ≤ 100000) : n ≤ sizeLine := Nat.le_trans h (by decide)
theorem se_tup {x1} (ha : SA T X es g) : SE T X (.Tuple es x1 pos) (mTup g) := fun E cn => PEi (pe_tup (ha E cn)) fun s H Q ⟨ps, r, h, es, vw, gd⟩ => by
  refine ⟨ps, r, h, es, vw, (Good.bind (R := WVs) (S := WV) gd).imp (fun v H1 q => ?_) fun _ _ _ z => z⟩
  obtain ⟨qs, w, h1, st, vw1, wv, g1⟩ := q
  have wl : w.length = v.length := wv.length
  dsimp only at g1
  split at g1
  · rename_i hl
    exact ⟨sz_ok (wl ▸ hl), fun p hp => good_new vw1 g1 (fun H' p' e => ⟨v, wv, e⟩) hp⟩
  · exact g1.elim
theorem se_lst (ha : SA T X es g) : SE T X (.List es pos) (mLst g) := fun E cn => PEi (pe_lst (ha E cn)) fun s H Q ⟨ps, r, h, es, vw, gd⟩ => by
  refine ⟨ps, r, h, es, vw, (Good.bind (R := WVs) (S := WV) gd).imp (fun v H1 q => ?_) fun _ _ _ z => z⟩
  obtain ⟨qs, w, h1, st, vw1, wv, g1⟩ := q
  have wl : w.length = v.length := wv.length
  dsimp only at g1
  split at g1
  · rename_i hl
    exact ⟨sz_ok (wl ▸ hl), fun p hp => good_new vw1 g1 (fun H' p' e => ⟨v, wv, e⟩) hp⟩
  · exact g1.elim
end

/-! ### tests, and, or, not -/
def asB (w : W) (h : Hv) : Res Bool := match w with
  | .bl b => .val b h
  | _ => .bad
def mT (f : Ws → Hv → Res W) : Ws → Hv → Res Bool := fun r h => (f r h).bind asB
section
variable {T : Tx} {X : Cx} {e a b c : Expr} {f fa fb : Ws → Hv → Res W} {t u : Ws → Hv → Res Bool} {rest : List Expr} {pos : Pos}
theorem asB_of {ps : List Addr} {H : Hp} {w : W} {h : Hv} {v : V} {Q : Bool → Hp → Prop} {E : XK} (vw : View T ps h H) (wv : WV ps w v) (g : Good T BEq2 ps H (asB w h) Q E) : ∃ k, v = .bl k ∧ Q k H := by
  unfold asB at g
  split at g
  · rename_i k
    exact ⟨k, wv, Good.now (R := BEq2) g vw rfl⟩
  · exact g.elim
theorem test_of {E : WX} {s : St} {H : Hp} {Q : Bool → Hp → Prop} (h : tT T E (mT f) s H Q) : tE T E f s H fun x H1 => ∃ k, x = .bl k ∧ Q k H1 := by
  obtain ⟨ps, r, hv, es, vw, gd⟩ := h
  refine ⟨ps, r, hv, es, vw, (Good.bind (R := WV) (S := BEq2) gd).imp (fun v H1 q => ?_) fun _ _ _ z => z⟩
  obtain ⟨qs, w, h1, st, vw1, wv, g1⟩ := q
  exact asB_of vw1 wv g1
/-- a plain expression -/
theorem st_val (h : SE T X e f) (he : ∀ whole, isTrue e X.env whole = (do let v ← whole; standAt e.pos; holding [v] (truthy v)) := by intro _; rfl) : STt T X e (mT f) := fun E cn => PTi (pt_val (h E cn) he) fun s H Q h => test_of h
theorem st_cmp {op : CmpOp} {r : R2} {g : MOp} (ho : OpR X (compareOp op) r) (hg : RO T r g) (ha : SE T X a fa) (hb : SE T X b fb) (hm : behindInMarks op b = false) : STt T X (.Compare a [op] [b] pos) (mT (m2 g fa fb)) := fun E cn =>
  PTi (pt_cmpR ho (ha E cn) (hb E cn) hm) fun s H Q ⟨ps, r', h, es, vw, gd⟩ => by
    have z : tE T E (m2 g fa fb) s H fun x H' => ∃ k, x = .bl k ∧ Q k H' := test_of ⟨ps, r', h, es, vw, gd⟩
    exact two_of hg z
def mNotT (t : Ws → Hv → Res Bool) : Ws → Hv → Res Bool := fun r h => (t r h).bind fun b h1 => .val (!b) h1
def mAndT (t u : Ws → Hv → Res Bool) : Ws → Hv → Res Bool := fun r h => (t r h).bind fun b h1 => if b then u r h1 else .val false h1
def mOrT (t u : Ws → Hv → Res Bool) : Ws → Hv → Res Bool := fun r h => (t r h).bind fun b h1 => if b then .val true h1 else u r h1
theorem st_not (ha : STt T X a t) : STt T X (.UnaryOp .Not a pos) (mNotT t) := fun E cn => PTi (pt_not (ha E cn)) fun s H Q ⟨ps, r, h, es, vw, gd⟩ => by
  refine ⟨ps, r, h, es, vw, (Good.bind (R := BEq2) (S := BEq2) gd).imp (fun v H1 q => ?_) fun _ _ _ z => z⟩
  obtain ⟨qs, w, h1, st, vw1, wv, g1⟩ := q
  cases wv
  exact Good.now (R := BEq2) g1 vw1 rfl
/-- a chain of and, or -/
def SW (T : Tx) (X : Cx) (e : Expr) (f : Ws → Hv → Res Bool) : Prop := ∀ E, Cn X E → PW X e (tT T E f)
theorem PWi {t t' : TT} (h : PW X e t) (k : ∀ s H Q, t' s H Q → t s H Q) : PW X e t' := ⟨fun wh pins s σ H Q I hw => h.run wh pins s σ H Q I (k _ _ _ hw)⟩
theorem sw_and1 (ha : STt T X a t) : SW T X (.BoolOp .And [a] pos) t := fun E cn => pw_and1 (ha E cn)
theorem sw_or1 (ha : STt T X a t) : SW T X (.BoolOp .Or [a] pos) t := fun E cn => pw_or1 (ha E cn)
theorem sw_and (ha : STt T X a t) (hb : SW T X (.BoolOp .And (b :: rest) pos) u) : SW T X (.BoolOp .And (a :: b :: rest) pos) (mAndT t u) := fun E cn => PWi (pw_and (ha E cn) (hb E cn)) fun s H Q ⟨ps, r, h, es, vw, gd⟩ => by
  refine ⟨ps, r, h, es, vw, (Good.bind (R := BEq2) (S := BEq2) gd).imp (fun v H1 q => ?_) fun _ _ _ z => z⟩
  obtain ⟨qs, w, h1, st, vw1, wv, g1⟩ := q
  cases wv
  cases v with
  | true => exact iteT ⟨qs, r, h1, es.mono st.pre, vw1, g1⟩
  | false => exact iteF (Good.now (R := BEq2) g1 vw1 rfl)
theorem sw_or (ha : STt T X a t) (hb : SW T X (.BoolOp .Or (b :: rest) pos) u) : SW T X (.BoolOp .Or (a :: b :: rest) pos) (mOrT t u) := fun E cn => PWi (pw_or (ha E cn) (hb E cn)) fun s H Q ⟨ps, r, h, es, vw, gd⟩ => by
  refine ⟨ps, r, h, es, vw, (Good.bind (R := BEq2) (S := BEq2) gd).imp (fun v H1 q => ?_) fun _ _ _ z => z⟩
  obtain ⟨qs, w, h1, st, vw1, wv, g1⟩ := q
  cases wv
  cases v with
  | true => exact iteT (Good.now (R := BEq2) g1 vw1 rfl)
  | false => exact iteF ⟨qs, r, h1, es.mono st.pre, vw1, g1⟩
theorem st_w (h : SW T X e t) : STt T X e t := fun E cn => (h E cn).pt
/-- .. as values -/
def mNotV (f : Ws → Hv → Res W) : Ws → Hv → Res W := fun r h => (mT f r h).bind fun b h1 => .val (.bl (!b)) h1
def mAndV (f g : Ws → Hv → Res W) : Ws → Hv → Res W := fun r h => (mT f r h).bind fun b h1 => if b then g r h1 else .val (.bl false) h1
def mOrV (f g : Ws → Hv → Res W) : Ws → Hv → Res W := fun r h => (mT f r h).bind fun b h1 => if b then .val (.bl true) h1 else g r h1
theorem se_one {op} (h : SE T X a f) : SE T X (.BoolOp op [a] pos) f := fun E cn => pe_one (h E cn)
theorem val_of {E : WX} {s : St} {H : Hp} {Q : VK} {k : Bool → Ws → Hv → Res W} {P : Bool → Hp → Prop} (h : tE T E (fun r h => (mT f r h).bind fun b h1 => k b r h1) s H Q) (hk : ∀ b H1, tE T E (k b) s H1 Q → P b H1) :
    tE T E f s H fun x H1 => ∃ c, x = .bl c ∧ P c H1 := by
  obtain ⟨ps, r, hv, es, vw, gd⟩ := h
  have z := (Good.bind (R := BEq2) (S := WV) gd)
  refine test_of ⟨ps, r, hv, es, vw, z.imp (fun v H1 q => ?_) fun _ _ _ z => z⟩
  obtain ⟨qs, w, h1, st, vw1, wv, g1⟩ := q
  cases wv
  exact hk v H1 ⟨qs, r, h1, es.mono st.pre, vw1, g1⟩
theorem tE_val {E : WX} {s : St} {H : Hp} {Q : VK} {w : W} {v : V} (h : tE T E (fun _ h => .val w h) s H Q) (hw : ∀ ps, WV ps w v) : Q v H := by
  obtain ⟨ps, r, hv, es, vw, gd⟩ := h
  exact Good.now (R := WV) gd vw (hw ps)
theorem se_not (ha : SE T X a f) : SE T X (.UnaryOp .Not a pos) (mNotV f) := fun E cn => PEi (pe_not (ha E cn)) fun s H Q h =>
  val_of (k := fun b _ h1 => .val (.bl (!b)) h1) h fun b H1 q => tE_val q fun _ => rfl
theorem se_and (ha : SE T X a fa) (hb : SE T X (.BoolOp .And (b :: rest) pos) fb) : SE T X (.BoolOp .And (a :: b :: rest) pos) (mAndV fa fb) := fun E cn => PEi (pe_and (ha E cn) (hb E cn)) fun s H Q h =>
  val_of (k := fun b r h1 => if b then fb r h1 else .val (.bl false) h1) h fun b H1 q => by
    cases b with
    | true => exact iteT q
    | false => exact iteF (tE_val (w := .bl false) q fun _ => rfl)
theorem se_or (ha : SE T X a fa) (hb : SE T X (.BoolOp .Or (b :: rest) pos) fb) : SE T X (.BoolOp .Or (a :: b :: rest) pos) (mOrV fa fb) := fun E cn => PEi (pe_or (ha E cn) (hb E cn)) fun s H Q h =>
  val_of (k := fun b r h1 => if b then .val (.bl true) h1 else fb r h1) h fun b H1 q => by
    cases b with
    | true => exact iteT (tE_val (w := .bl true) q fun _ => rfl)
    | false => exact iteF q
def mIf (t : Ws → Hv → Res Bool) (f g : Ws → Hv → Res W) : Ws → Hv → Res W := fun r h => (t r h).bind fun b h1 => if b then f r h1 else g r h1
theorem se_if (hc : STt T X c t) (ha : SE T X a fa) (hb : SE T X b fb) : SE T X (.IfExp c a b pos) (mIf t fa fb) := fun E cn => PEi (pe_ifExp (hc E cn) (ha E cn) (hb E cn)) fun s H Q ⟨ps, r, h, es, vw, gd⟩ => by
  refine ⟨ps, r, h, es, vw, (Good.bind (R := BEq2) (S := WV) gd).imp (fun v H1 q => ?_) fun _ _ _ z => z⟩
  obtain ⟨qs, w, h1, st, vw1, wv, g1⟩ := q
  cases wv
  cases v with
  | true => exact iteT ⟨qs, r, h1, es.mono st.pre, vw1, g1⟩
  | false => exact iteF ⟨qs, r, h1, es.mono st.pre, vw1, g1⟩
end
end VL
end
section
namespace VL
open PySem L2

/-! ### values as data -/
def optAll (f : W → Option PyData) : List W → Option (List PyData)
  | [] => some []
  | x :: xs => match f x, optAll f xs with
    | some y, some ys => some (y :: ys)
    | _, _ => none
def toD : Nat → Hv → W → Option PyData
  | 0, _, _ => none
  | n + 1, h, w => match w with
    | .non => some .none
    | .bl b => some (.bool b)
    | .int i => some (.int i)
    | .str x => some (.str x)
    | .ref i => match h[i]? with
      | some (.lst xs) => (optAll (toD n h) xs).map .list
      | some (.rol xs) => (optAll (toD n h) xs).map .list
      | some (.tup xs) => (optAll (toD n h) xs).map .tuple
      | _ => none
    | _ => none
section
variable {T : Tx} {K : PySem.W.Frag} {ps : List Addr} {h : Hv} {H : Hp}
theorem optAll_ok {f : W → Option PyData} (hf : ∀ w v d, f w = some d → WV ps w v → Dp K H v d) : ∀ {xs : List W} {vs : List V} {ds : List PyData}, optAll f xs = some ds → Paired (WV ps) xs vs → DpAll K H vs ds
  | [], _, _, e, .nil => by cases e; exact .nil
  | x :: xs, _, ds, e, .cons r t => by
    simp only [optAll] at e
    split at e
    · rename_i d ds' e1 e2
      cases e
      exact .cons (hf _ _ _ e1 r) (optAll_ok hf e2 t)
    · cases e
theorem toD_ok (vw : View T ps h H) : ∀ (n : Nat) (w : W) (v : V) (d : PyData), toD n h w = some d → WV ps w v → Dp K H v d
  | 0, _, _, _, e, _ => by cases e
  | n + 1, w, v, d, e, wv => by
    unfold toD at e
    split at e
    · cases e; cases wv; exact .non
    · cases e; cases wv; exact .bl _
    · cases e; cases wv; exact .int _
    · cases e; cases wv; exact .str _
    · rename_i i
      obtain ⟨a, ea, rfl⟩ := wv
      split at e
      · rename_i xs eh
        obtain ⟨vs, r, eH⟩ := vw.ob i a _ ea eh
        cases q : optAll (toD n h) xs with
        | none => simp [q] at e
        | some ds =>
          rw [q] at e; cases e
          exact .lst (SqL.of eH) (optAll_ok (toD_ok vw n) q r)
      · rename_i xs eh
        obtain ⟨vs, ob, r, eH⟩ := vw.ob i a _ ea eh
        cases q : optAll (toD n h) xs with
        | none => simp [q] at e
        | some ds =>
          rw [q] at e; cases e
          exact .lst (.inl (.inr ⟨ob, eH⟩)) (optAll_ok (toD_ok vw n) q r)
      · rename_i xs eh
        obtain ⟨vs, r, eH⟩ := vw.ob i a _ ea eh
        cases q : optAll (toD n h) xs with
        | none => simp [q] at e
        | some ds =>
          rw [q] at e; cases e
          exact .tup (SqT.of eH) (optAll_ok (toD_ok vw n) q r)
      · cases e
    · cases e
end
abbrev dF : Nat := 12
def mEq (neg : Bool) : MOp := fun x y h => match toD dF h x, toD dF h y with
  | some d, some e => if SeqAt.shaped d && SeqAt.shaped e then .val (.bl (if neg then !PyData.eqv d e else PyData.eqv d e)) h else .bad
  | _, _ => .bad
section
variable {T : Tx} {X : Cx}
theorem ro_eq : RO T (rEqD X.K) (mEq false) := by
  intro ps h H x y vx vy Q E vw wx wy gd
  unfold mEq at gd
  split at gd
  · rename_i d e e1 e2
    split at gd
    · rename_i hs
      rw [Bool.and_eq_true] at hs
      exact ⟨d, e, toD_ok vw _ _ _ _ e1 wx, toD_ok vw _ _ _ _ e2 wy, hs.1, hs.2, Good.now gd vw rfl⟩
    · exact gd.elim
  · exact gd.elim
theorem ro_ne : RO T (rNeD X.K) (mEq true) := by
  intro ps h H x y vx vy Q E vw wx wy gd
  unfold mEq at gd
  split at gd
  · rename_i d e e1 e2
    split at gd
    · rename_i hs
      rw [Bool.and_eq_true] at hs
      exact ⟨d, e, toD_ok vw _ _ _ _ e1 wx, toD_ok vw _ _ _ _ e2 wy, hs.1, hs.2, Good.now gd vw rfl⟩
    · exact gd.elim
  · exact gd.elim

/-! ### arithmetic -/
def mAdd : MOp := fun x y h => match x, y with
  | .int i, .int j => .val (.int (i + j)) h
  | .str a, .str b => if a.length + b.length ≤ 100000 then .val (.str (a ++ b)) h else .bad
  | .ref p, .ref q => match h[p]?, h[q]? with
    | some (.lst xs), some (.lst ys) => if xs.length + ys.length ≤ 100000 then mNew (.lst (xs ++ ys)) h else .bad
    | _, _ => .bad
  | _, _ => .bad
theorem op_addA : OpR X (binaryOp .Add) (fun x y H Q => (rI0 fun i j => .int (i + j)) x y H Q ∨ ((fun x y H Q => ∃ i j, x = V.str i ∧ y = V.str j ∧ i.length + j.length ≤ sizeLine ∧ Q (.str (i ++ j)) H) x y H Q ∨ rCat x y H Q)) := op_add.or (op_add_str.or op_cat)
theorem ro_add : RO T (fun x y H Q => (rI0 fun i j => .int (i + j)) x y H Q ∨ ((fun x y H Q => ∃ i j, x = V.str i ∧ y = V.str j ∧ i.length + j.length ≤ sizeLine ∧ Q (.str (i ++ j)) H) x y H Q ∨ rCat x y H Q)) mAdd := by
  intro ps h H x y vx vy Q E vw wx wy gd
  unfold mAdd at gd
  split at gd
  · cases wx; cases wy
    exact .inl ⟨_, _, rfl, rfl, Good.now gd vw rfl⟩
  · split at gd
    · rename_i hl
      cases wx; cases wy
      exact .inr (.inl ⟨_, _, rfl, rfl, sz_ok hl, Good.now gd vw rfl⟩)
    · exact gd.elim
  · obtain ⟨a, ea, rfl⟩ := wx
    obtain ⟨b, eb, rfl⟩ := wy
    split at gd
    · rename_i xs ys e1 e2
      split at gd
      · rename_i hl
        obtain ⟨vs, r, eH⟩ := vw.ob _ a _ ea e1
        obtain ⟨us, r2, eH2⟩ := vw.ob _ b _ eb e2
        have l1 := r.length
        have l2 := r2.length
        exact .inr (.inr ⟨a, b, vs, us, rfl, rfl, eH, eH2, sz_ok (by omega), fun p hp => good_new vw gd (fun H' p' e => ⟨_, paired_app r r2, e⟩) hp⟩)
      · exact gd.elim
    · exact gd.elim
  · exact gd.elim
def mSub : MOp := mI0 fun i j => .int (i - j)
theorem ro_sub : RO T (rI0 fun i j => .int (i - j)) mSub := ro_I0 fun _ _ _ => rfl
def mulB (i j : Int) : Bool := decide (i.natAbs.log2 + j.natAbs.log2 < 1000000)
def mMul : MOp := fun x y h => match x, y with
  | .int i, .int j => if mulB i j then .val (.int (i * j)) h else .bad
  | .ref p, .int k => match h[p]? with
    | some (.lst xs) => if decide (-9223372036854775808 ≤ k) && decide (k < 9223372036854775808) && decide (xs.length * k.toNat ≤ 100000) then mNew (.lst (List.replicate k.toNat xs).flatten) h else .bad
    | _ => .bad
  | _, _ => .bad
theorem op_mulA : OpR X (binaryOp .Mult) (fun x y H Q => (rI CMulW fun i j => .int (i * j)) x y H Q ∨ rRep x y H Q) := op_mulW.or op_rep
theorem ro_mul : RO T (fun x y H Q => (rI CMulW fun i j => .int (i * j)) x y H Q ∨ rRep x y H Q) mMul := by
  intro ps h H x y vx vy Q E vw wx wy gd
  unfold mMul at gd
  split at gd
  · split at gd
    · rename_i hc
      cases wx; cases wy
      exact .inl ⟨_, _, rfl, rfl, (show _ < 1000000 by unfold mulB at hc; exact of_decide_eq_true hc), Good.now gd vw rfl⟩
    · exact gd.elim
  · obtain ⟨a, ea, rfl⟩ := wx
    cases wy
    split at gd
    · rename_i k xs e1
      split at gd
      · rename_i hl
        simp only [Bool.and_eq_true, decide_eq_true_eq] at hl
        obtain ⟨vs, r, eH⟩ := vw.ob _ a _ ea e1
        have l1 := r.length
        have e63 : (2 : Int) ^ 63 = 9223372036854775808 := by decide
        exact .inr ⟨a, _, vs, rfl, rfl, eH, by rw [e63]; exact hl.1.1, by rw [e63]; exact hl.1.2, sz_ok (by rw [← l1]; exact hl.2), fun p hp => good_new vw gd (fun H' p' e => ⟨_, paired_rep r _, e⟩) hp⟩
      · exact gd.elim
    · exact gd.elim
  · exact gd.elim
def divB (_ j : Int) : Bool := decide (j ≠ 0) && decide (j.natAbs.log2 < 9000)
theorem op_fdivG : OpR X (binaryOp .FloorDiv) (rI (fun _ j => j ≠ 0 ∧ j.natAbs.log2 < 9000) fun i j => .int (i.fdiv j)) := opI fun i j _ _ _ _ _ hc q => PyProof.Rows.floordiv_int hc.1 q (.inl (PyProof.noPylong_of_log2 hc.2))
def mDiv : MOp := mI divB fun i j => .int (i.fdiv j)
theorem ro_div : RO T (rI (fun _ j => j ≠ 0 ∧ j.natAbs.log2 < 9000) fun i j => .int (i.fdiv j)) mDiv := ro_I (fun i j hc => by
  unfold divB at hc
  rw [Bool.and_eq_true] at hc
  exact ⟨of_decide_eq_true hc.1, of_decide_eq_true hc.2⟩) fun _ _ _ => rfl
def mMod : MOp := mI (fun _ j => decide (j ≠ 0)) fun i j => .int (i.fmod j)
theorem ro_mod : RO T (rI (fun _ j => j ≠ 0) fun i j => .int (i.fmod j)) mMod := ro_I (fun i j hc => of_decide_eq_true hc) fun _ _ _ => rfl
def powB (i j : Int) : Bool := decide (0 ≤ j) && (decide (j ≤ 1000000) && decide (i.natAbs < 2 ^ 64))
def mPow : MOp := mI powB fun i j => .int (i ^ j.toNat)
theorem ro_pow : RO T (rI CPow fun i j => .int (i ^ j.toNat)) mPow := ro_I (fun i j hc => by
  simp only [powB, Bool.and_eq_true, decide_eq_true_eq] at hc
  exact ⟨hc.1, hc.2.1, hc.2.2⟩) fun _ _ _ => rfl
def mLt : MOp := mI0 fun i j => .bl (decide (i < j))
def mLe : MOp := mI0 fun i j => .bl (decide (i ≤ j))
def mGt : MOp := mI0 fun i j => .bl (decide (j < i))
def mGe : MOp := mI0 fun i j => .bl (decide (j ≤ i))
theorem ro_lt : RO T (rI0 fun i j => .bl (decide (i < j))) mLt := ro_I0 fun _ _ _ => rfl
theorem ro_le : RO T (rI0 fun i j => .bl (decide (i ≤ j))) mLe := ro_I0 fun _ _ _ => rfl
theorem ro_gt : RO T (rI0 fun i j => .bl (decide (j < i))) mGt := ro_I0 fun _ _ _ => rfl
theorem ro_ge : RO T (rI0 fun i j => .bl (decide (j ≤ i))) mGe := ro_I0 fun _ _ _ => rfl
/-! ### is, is not: None and bools -/
def mIs (neg : Bool) : MOp := fun x y h => match x, y with
  | .bl a, .bl b => .val (.bl (if neg then !decide (a = b) else decide (a = b))) h
  | x, .non => .val (.bl (if neg then !decide (x = .non) else decide (x = .non))) h
  | _, _ => .bad
theorem wv_non {ps : List Addr} {w : W} {v : V} (h : WV ps w v) : decide (v = .non) = decide (w = .non) := by
  cases w with
  | ref i => obtain ⟨a, _, rfl⟩ := h; simp
  | non => cases h; simp
  | bl b => cases h; simp
  | int b => cases h; simp
  | str b => cases h; simp
  | fix b => cases h; simp
  | ty b => cases h; simp
def rIs (neg : Bool) : R2 := fun x y H Q => (∃ a b : Bool, x = .bl a ∧ y = .bl b ∧ Q (.bl (if neg then !decide (a = b) else decide (a = b))) H) ∨ (y = .non ∧ Q (.bl (if neg then !decide (x = .non) else decide (x = .non))) H)
theorem op_isA : OpR X (compareOp .Is) (rIs false) := op_isBl.or op_isN
theorem op_isnotA : OpR X (compareOp .IsNot) (rIs true) := op_notBl.or op_notN
theorem ro_is {neg : Bool} : RO T (rIs neg) (mIs neg) := by
  intro ps h H x y vx vy Q E vw wx wy gd
  unfold mIs at gd
  split at gd
  · cases wx; cases wy
    exact .inl ⟨_, _, rfl, rfl, Good.now gd vw rfl⟩
  · cases wy
    refine .inr ⟨rfl, ?_⟩
    rw [wv_non wx]
    exact Good.now gd vw rfl
  · exact gd.elim
/-! ### the sign -/
def m1 (g : W → Hv → Res W) (f : Ws → Hv → Res W) : Ws → Hv → Res W := fun r h => (f r h).bind g
def mNeg : W → Hv → Res W := fun x h => match x with
  | .int i => .val (.int (-i)) h
  | _ => .bad
theorem se_neg {a : Expr} {f : Ws → Hv → Res W} {pos : Pos} (ha : SE T X a f) : SE T X (.UnaryOp .USub a pos) (m1 mNeg f) := fun E cn => PEi (pe_un un_neg (ha E cn)) fun s H Q ⟨ps, r, h, es, vw, gd⟩ => by
  refine ⟨ps, r, h, es, vw, (Good.bind (R := WV) (S := WV) gd).imp (fun v H1 q => ?_) fun _ _ _ z => z⟩
  obtain ⟨qs, w, h1, st, vw1, wv, g1⟩ := q
  unfold mNeg at g1
  split at g1
  · cases wv
    exact ⟨_, rfl, Good.now g1 vw1 rfl⟩
  · exact g1.elim
/-! ### items -/
def ofO {α : Type} (o : Option α) (h : Hv) : Res α := match o with
  | some w => .val w h
  | none => .bad
def mIx : MOp := fun x y h => match x, y with
  | .ref p, .int i => match h[p]? with
    | some (.lst xs) => ofO (atI xs i) h
    | some (.rol xs) => ofO (atI xs i) h
    | some (.tup xs) => ofO (atI xs i) h
    | _ => .bad
  | .str z, .int i => if z.length ≤ 100000 then ofO ((atI z.cps.toList i).map fun c => .str ⟨#[c]⟩) h else .bad
  | _, _ => .bad
theorem ofO_of {ps : List Addr} {h : Hv} {H : Hp} {o : Option W} {Q : VK} {E : XK} (g : Good T WV ps H (ofO o h) Q E) : ∃ w, o = some w ∧ Good T WV ps H (.val w h) Q E := by
  cases o with
  | none => exact g.elim
  | some w => exact ⟨w, rfl, g⟩
theorem ro_ix : RO T (rIx X.K) mIx := by
  intro ps h H x y vx vy Q E vw wx wy gd
  unfold mIx at gd
  split at gd
  · obtain ⟨a, ea, rfl⟩ := wx
    cases wy
    split at gd
    · rename_i xs e1
      obtain ⟨w, ew, g⟩ := ofO_of gd
      obtain ⟨vs, r, eH⟩ := vw.ob _ a _ ea e1
      obtain ⟨v, ev, wv⟩ := paired_at r ew
      exact .inl ⟨a, vs, _, v, rfl, rfl, SqL.of eH, ev, Good.now g vw wv⟩
    · rename_i xs e1
      obtain ⟨w, ew, g⟩ := ofO_of gd
      obtain ⟨vs, ob, r, eH⟩ := vw.ob _ a _ ea e1
      obtain ⟨v, ev, wv⟩ := paired_at r ew
      exact .inl ⟨a, vs, _, v, rfl, rfl, .inl (.inr ⟨ob, eH⟩), ev, Good.now g vw wv⟩
    · rename_i xs e1
      obtain ⟨w, ew, g⟩ := ofO_of gd
      obtain ⟨vs, r, eH⟩ := vw.ob _ a _ ea e1
      obtain ⟨v, ev, wv⟩ := paired_at r ew
      exact .inr (.inl ⟨a, vs, _, v, rfl, rfl, SqT.of eH, ev, Good.now g vw wv⟩)
    · exact gd.elim
  · cases wx; cases wy
    split at gd
    · rename_i z i hl
      obtain ⟨w, ew, g⟩ := ofO_of gd
      cases q : atI z.cps.toList i with
      | none => rw [q] at ew; cases ew
      | some c =>
        rw [q] at ew; cases ew
        exact .inr (.inr ⟨z, i, c, rfl, rfl, sz_ok hl, q, Good.now g vw rfl⟩)
    · exact gd.elim
  · exact gd.elim
theorem se_ix {a b : Expr} {fa fb : Ws → Hv → Res W} {pos : Pos} (ha : SE T X a fa) (hb : SE T X b fb) (hs : PlainIx b := by exact fun _ _ => rfl) : SE T X (.Subscript a b pos) (m2 mIx fa fb) := fun E cn => PEi (pe_ix ix_seq (ha E cn) (hb E cn) hs) fun s H Q h => two_of ro_ix h
end
end VL
end
section
namespace VL
open PySem L2

/-! ### calls -/
abbrev MFn := List W → Hv → Res W
/-- a def's promise: it does what m says of the view -/
def spV (T : Tx) (n : Nat) (m : MFn) : Sp := fun vs H Q E => vs.length = n ∧ ∃ ps h ws, View T ps h H ∧ Paired (WV ps) ws vs ∧ Good T WV ps H (m ws h) Q E
/-- the def at f may be called where X stands -/
def Can (T : Tx) (X : Cx) (f : Addr) (n : Nat) (m : MFn) : Prop := ∀ (pins : List (Addr × Obj)) (s : Shared) (σ : St) (H : Hp) (us : List Value) (vs : List V) (Q : VK) (E : XK), Inv X pins σ H s → Vals vs us → spV T n m vs H Q E →
  codeAny (model X.prog X.w) X.A (.call (.ref f) ⟨us, []⟩) (CR (L2.CX X.prog X.w) X.stack X.prog X.w H s Q E) s
def mCall (n : Nat) (m : MFn) (g : Ws → Hv → Res (List W)) : Ws → Hv → Res W := fun r h => (g r h).bind fun ws h1 => if ws.length = n then m ws h1 else .bad
section
variable {T : Tx} {X : Cx} {f : Addr} {n : Nat} {m : MFn} {x : Str} {e : Expr} {es : List Expr} {g : Ws → Hv → Res (List W)} {p pos : Pos}
theorem Can.wp (C : Can T X f n m) {E : WX} (cn : Cn X E) {pins : List (Addr × Obj)} {s : Shared} {σ : St} {H : Hp} {us : List Value} {vs : List V} {Q : VK} (I : Inv X pins σ H s) (r : Vals vs us) (h : spV T n m vs H Q (WE E σ)) : wpAny (model X.prog X.w) X.A (call (.ref f) us) (EP X pins σ Q) X.xe s := by
  refine wpAny_call (codeAny_mono (C pins s σ H us vs Q (WE E σ) I r h) fun fin s' hq => ?_)
  match fin, hq with
  | .error u, hq => exact passAt cn.tk σ pins H s u s' I hq
  | .ok (.ret u), hq => exact I.after hq
  | .ok .next, hq => exact hq.elim
  | .ok .brk, hq => exact hq.elim
  | .ok .cont, hq => exact hq.elim
theorem call_read {E : WX} {s : St} {H : Hp} {Q : VK} (h : tE T E (mCall n m g) s H Q) : tA T E g s H fun vs H1 => spV T n m vs H1 Q (WE E s) := by
  obtain ⟨ps, r, hv, es, vw, gd⟩ := h
  refine ⟨ps, r, hv, es, vw, (Good.bind (R := WVs) (S := WV) gd).imp (fun v H1 q => ?_) fun _ _ _ z => z⟩
  obtain ⟨qs, w, h1, st, vw1, wv, g1⟩ := q
  dsimp only at g1
  have wl : w.length = v.length := wv.length
  split at g1
  · rename_i hl
    exact ⟨wl ▸ hl, qs, h1, w, vw1, wv, g1⟩
  · exact g1.elim
theorem se_call (C : Can T X f n m) (hg : Gl X x) (hm : X.mg x = some (.ref f)) (hk : PySem.W.keepIn X.K (.ref f) = true) (ha : SA T X (e :: es) g) (hdb : (x == ("__debug__" : Str)) = false := by decide)
    (he : starEach (e :: es) X.env = (false, eval e X.env) :: starEach es X.env := by rfl) (hpl : (backTo pos (starEach es X.env)).any (·.1) = false := by rfl) : SE T X (.Call (.Name x p) (e :: es) [] pos) (mCall n m g) := fun E cn => ⟨fun pins s σ H Q I h => by
  refine wpAny_Call_Name_kw (ld_glob (X := X) I hg hm ?_ hdb)
  exact PySem.W.callWith_K (h₀ := X.base) I.ok.mod.kin hk (thn ((ha E cn).run pos pins s σ H _ I (call_read h)) fun us s1 ⟨vs, H1, I1, r, q⟩ => ⟨I1.kIn, C.wp cn I1 r q⟩) he hpl⟩
theorem se_call0 (C : Can T X f 0 m) (hg : Gl X x) (hm : X.mg x = some (.ref f)) (hk : PySem.W.keepIn X.K (.ref f) = true) (hdb : (x == ("__debug__" : Str)) = false := by decide) : SE T X (.Call (.Name x p) [] [] pos) (mCall 0 m mNil) := fun E cn => ⟨fun pins s σ H Q I h => by
  refine wpAny_Call_Name_kw (ld_glob (X := X) I hg hm ?_ hdb)
  obtain ⟨ps, r, hv, es, vw, gd⟩ := h
  exact PySem.W.callWith_K0 I.kIn hk (C.wp (us := []) cn I .nil ⟨rfl, ps, hv, [], vw, .nil, gd⟩)⟩
/-- a def of FnOk's kind -/
theorem can_ok {k : Nat} {fd : FuncData} {qs : List Str} (F : FnOk X.prog X.w X.K X.mg X.base (L2.CX X.prog X.w) k f fd qs (spV T n m)) (hr : Room k X.A) (hb : Binds X.K fd qs []) : Can T X f n m := fun pins s σ H us vs Q E I r h => by
  have hl : us.length = qs.length := by rw [← r.length]; exact F.len _ _ _ _ h
  have b := hb s us I.kIn (by simpa using hl)
  rw [List.append_nil] at b
  exact F.run X.A X.stack s H ⟨us, []⟩ us vs Q E hr I.env0 b r h
/-! ### built-ins -/
def RC (T : Tx) (r : List V → Hp → VK → Prop) (m : MFn) : Prop := ∀ ps h H ws vs (Q : VK) (E : XK), View T ps h H → Paired (WV ps) ws vs → Good T WV ps H (m ws h) Q E → r vs H Q
def mB (m : MFn) (g : Ws → Hv → Res (List W)) : Ws → Hv → Res W := fun r h => (g r h).bind m
theorem b_read {E : WX} {s : St} {H : Hp} {Q : VK} {r : List V → Hp → VK → Prop} (hr : RC T r m) (h : tE T E (mB m g) s H Q) : tCB r (tA T E g) s H Q := by
  obtain ⟨ps, r', hv, es, vw, gd⟩ := h
  refine ⟨ps, r', hv, es, vw, (Good.bind (R := WVs) (S := WV) gd).imp (fun v H1 q => ?_) fun _ _ _ z => z⟩
  obtain ⟨qs, w, h1, st, vw1, wv, g1⟩ := q
  exact hr qs h1 H1 w v Q _ vw1 wv g1
theorem se_b {id : String} {r : List V → Hp → VK → Prop} (hc : CallR X (.builtin id) r) (hr : RC T r m) (hg : Gl X x) (hm : X.mg x = none) (hv : bootBuiltins x = some (.builtin id)) (ha : SA T X (e :: es) g) (hn : x ≠ "__name__" := by decide) (hdb : (x == ("__debug__" : Str)) = false := by decide)
    (he : starEach (e :: es) X.env = (false, eval e X.env) :: starEach es X.env := by rfl) (hpl : (backTo pos (starEach es X.env)).any (·.1) = false := by rfl) : SE T X (.Call (.Name x p) (e :: es) [] pos) (mB m g) := fun E cn => PEi (pe_callB hc hg hm hv (ha E cn) hn hdb he hpl) fun s H Q h => b_read hr h
theorem se_bt {id : String} {r : List V → Hp → VK → Prop} (hc : CallR X (.type id) r) (hr : RC T r m) (hg : Gl X x) (hm : X.mg x = none) (hv : bootBuiltins x = some (.type id)) (ha : SA T X (e :: es) g) (hn : x ≠ "__name__" := by decide) (hdb : (x == ("__debug__" : Str)) = false := by decide)
    (he : starEach (e :: es) X.env = (false, eval e X.env) :: starEach es X.env := by rfl) (hpl : (backTo pos (starEach es X.env)).any (·.1) = false := by rfl) : SE T X (.Call (.Name x p) (e :: es) [] pos) (mB m g) := fun E cn => PEi (pe_callTy hc hg hm hv (ha E cn) hn hdb he hpl) fun s H Q h => b_read hr h
theorem one_of {ps : List Addr} {w : W} {vs : List V} (h : Paired (WV ps) [w] vs) : ∃ v, vs = [v] ∧ WV ps w v := by
  cases h with
  | cons a b => cases b; exact ⟨_, rfl, a⟩
theorem pair_of {ps : List Addr} {w u : W} {vs : List V} (h : Paired (WV ps) [w, u] vs) : ∃ v v', vs = [v, v'] ∧ WV ps w v ∧ WV ps u v' := by
  cases h with
  | cons a b => cases b with
    | cons c d => cases d; exact ⟨_, _, rfl, a, c⟩
def mAbs : MFn := fun ws h => match ws with
  | [.int i] => .val (.int (if i < 0 then -i else i)) h
  | _ => .bad
theorem rc_abs : RC T (fun xs H Q => ∃ i, xs = [.int i] ∧ Q (.int (if i < 0 then -i else i)) H) mAbs := by
  intro ps h H ws vs Q E vw wv gd
  unfold mAbs at gd
  split at gd
  · obtain ⟨v, rfl, e⟩ := one_of wv
    cases e
    exact ⟨_, rfl, Good.now gd vw rfl⟩
  · exact gd.elim
def mMax : MFn := fun ws h => match ws with
  | [.int i, .int j] => .val (.int (if j > i then j else i)) h
  | _ => .bad
theorem rc_max : RC T (fun xs H Q => ∃ i j, xs = [.int i, .int j] ∧ Q (.int (if j > i then j else i)) H) mMax := by
  intro ps h H ws vs Q E vw wv gd
  unfold mMax at gd
  split at gd
  · obtain ⟨v, v', rfl, e, e'⟩ := pair_of wv
    cases e; cases e'
    exact ⟨_, _, rfl, Good.now gd vw rfl⟩
  · exact gd.elim
def mMin : MFn := fun ws h => match ws with
  | [.int i, .int j] => .val (.int (if j < i then j else i)) h
  | _ => .bad
theorem rc_min : RC T (fun xs H Q => ∃ i j, xs = [.int i, .int j] ∧ Q (.int (if j < i then j else i)) H) mMin := by
  intro ps h H ws vs Q E vw wv gd
  unfold mMin at gd
  split at gd
  · obtain ⟨v, v', rfl, e, e'⟩ := pair_of wv
    cases e; cases e'
    exact ⟨_, _, rfl, Good.now gd vw rfl⟩
  · exact gd.elim
def mInt : MFn := fun ws h => match ws with
  | [.int i] => .val (.int i) h
  | [.bl b] => .val (.int (if b then 1 else 0)) h
  | _ => .bad
theorem rc_int : RC T (fun xs H Q => (∃ i, xs = [.int i] ∧ Q (.int i) H) ∨ ∃ k, xs = [.bl k] ∧ Q (.int (if k then 1 else 0)) H) mInt := by
  intro ps h H ws vs Q E vw wv gd
  unfold mInt at gd
  split at gd
  · obtain ⟨v, rfl, e⟩ := one_of wv
    cases e
    exact .inl ⟨_, rfl, Good.now gd vw rfl⟩
  · obtain ⟨v, rfl, e⟩ := one_of wv
    cases e
    exact .inr ⟨_, rfl, Good.now gd vw rfl⟩
  · exact gd.elim
def mLen : MFn := fun ws h => match ws with
  | [.str z] => if z.length ≤ 100000 then .val (.int z.length) h else .bad
  | [.ref p] => match h[p]? with
    | some (.lst xs) => .val (.int xs.length) h
    | some (.rol xs) => .val (.int xs.length) h
    | some (.tup xs) => .val (.int xs.length) h
    | _ => .bad
  | _ => .bad
theorem rc_len : RC T (fun xs H Q => ∃ x n, xs = [x] ∧ LenV X.K x H n ∧ Q (.int n) H) mLen := by
  intro ps h H ws vs Q E vw wv gd
  unfold mLen at gd
  split at gd
  · split at gd
    · rename_i hl
      obtain ⟨v, rfl, e⟩ := one_of wv
      cases e
      exact ⟨_, _, rfl, ⟨sz_ok hl, rfl⟩, Good.now gd vw rfl⟩
    · exact gd.elim
  · obtain ⟨v, rfl, a, ea, rfl⟩ := one_of wv
    split at gd
    · rename_i xs e1
      obtain ⟨vs, r, eH⟩ := vw.ob _ a _ ea e1
      have l1 : xs.length = vs.length := r.length
      rw [l1] at gd
      exact ⟨_, vs.length, rfl, .inl ⟨vs, SqL.of eH, rfl⟩, Good.now gd vw rfl⟩
    · rename_i xs e1
      obtain ⟨vs, ob, r, eH⟩ := vw.ob _ a _ ea e1
      have l1 : xs.length = vs.length := r.length
      rw [l1] at gd
      exact ⟨_, vs.length, rfl, .inl ⟨vs, .inl (.inr ⟨ob, eH⟩), rfl⟩, Good.now gd vw rfl⟩
    · rename_i xs e1
      obtain ⟨vs, r, eH⟩ := vw.ob _ a _ ea e1
      have l1 : xs.length = vs.length := r.length
      rw [l1] at gd
      exact ⟨_, vs.length, rfl, .inr ⟨vs, SqT.of eH, rfl⟩, Good.now gd vw rfl⟩
    · exact gd.elim
  · exact gd.elim
/-- the built-in type of a value -/
def tyN (h : Hv) : W → Option String
  | .non => some "NoneType"
  | .bl _ => some "bool"
  | .int _ => some "int"
  | .str _ => some "str"
  | .ref p => match h[p]? with
    | some (O.lst _) => some "list"
    | some (.rol _) => some "list"
    | some (O.tup _) => some "tuple"
    | some (.dic _) => some "dict"
    | _ => none
  | _ => none
theorem tyN_ok {K : PySem.W.Frag} {ps : List Addr} {h : Hv} {H : Hp} (vw : View T ps h H) : ∀ {w : W} {v : V} {t : String}, tyN h w = some t → WV ps w v → TyX K H v (.type t)
  | .non, _, _, e, wv => by cases e; cases wv; exact .base .non
  | .bl _, _, _, e, wv => by cases e; cases wv; exact .base (.bl _)
  | .int _, _, _, e, wv => by cases e; cases wv; exact .base (.int _)
  | .str _, _, _, e, wv => by cases e; cases wv; exact .base (.str _)
  | .fix _, _, _, e, wv => by cases e
  | .ty _, _, _, e, wv => by cases e
  | .ref p, _, _, e, wv => by
    obtain ⟨a, ea, rfl⟩ := wv
    simp only [tyN] at e
    split at e
    · rename_i e1
      obtain ⟨vs, r, eH⟩ := vw.ob _ a _ ea e1
      cases e; exact .base (.lst eH)
    · rename_i e1
      obtain ⟨vs, ob, r, eH⟩ := vw.ob _ a _ ea e1
      cases e; exact .base (.frz eH)
    · rename_i e1
      obtain ⟨vs, r, eH⟩ := vw.ob _ a _ ea e1
      cases e; exact .base (.tup eH)
    · rename_i e1
      obtain ⟨vs, r, eH⟩ := vw.ob _ a _ ea e1
      cases e; exact .base (.dK eH)
    · cases e
def mIsi : MFn := fun ws h => match ws with
  | [w, .ty n] => match tyN h w with
    | some t => match kitB t n with
      | some b => .val (.bl b) h
      | none => .bad
    | none => .bad
  | _ => .bad
theorem rc_isi : RC T (rIsi X.K) mIsi := by
  intro ps h H ws vs Q E vw wv gd
  unfold mIsi at gd
  split at gd
  · obtain ⟨v, v', rfl, e, e'⟩ := pair_of wv
    cases e'
    split at gd
    · rename_i t et
      split at gd
      · rename_i b eb
        exact ⟨v, _, _, _, b, rfl, .ty _, tyN_ok vw et e, kit_ty eb, Good.now gd vw rfl⟩
      · exact gd.elim
    · exact gd.elim
  · exact gd.elim
/-! ### repr -/
def rRepr (K : PySem.W.Frag) : List V → Hp → VK → Prop := fun xs H Q => ∃ x d, xs = [x] ∧ Dp K H x d ∧ d.showable = true ∧ d.hasDict = false ∧ d.depth ≤ 60 ∧ d.shown.length ≤ sizeLine ∧ Q (.str d.shown) H
def mRepr : MFn := fun ws h => match ws with
  | [w] => match toD dF h w with
    | some d => if d.showable && !d.hasDict && decide (d.depth ≤ 60) && decide (d.shown.length ≤ 100000) then .val (.str d.shown) h else .bad
    | none => .bad
  | _ => .bad
theorem rc_repr : RC T (rRepr X.K) mRepr := by
  intro ps h H ws vs Q E vw wv gd
  unfold mRepr at gd
  split at gd
  · obtain ⟨v, rfl, e⟩ := one_of wv
    split at gd
    · rename_i d ed
      split at gd
      · rename_i hc
        simp only [Bool.and_eq_true, decide_eq_true_eq, Bool.not_eq_true'] at hc
        exact ⟨v, d, rfl, toD_ok vw _ _ _ _ ed e, hc.1.1.1, hc.1.1.2, hc.1.2, sz_ok hc.2, Good.now gd vw rfl⟩
      · exact gd.elim
    · exact gd.elim
  · exact gd.elim
theorem call_reprD (hg : X.A.guards = some []) (hu : X.A.units + 64 < cLine) : CallR X (.builtin "repr") (rRepr X.K) := by
  intro pins s σ H xs us Q I r h; obtain ⟨x, d, rfl, hd, hs, hn, hdp, hl, q⟩ := h
  obtain ⟨u, rfl, ru⟩ := vals1 r; cases hd with
  | non => cases ru; exact PySem.P.repr_of_none ⟨.str _, H, I.tok _, ⟨_, rfl⟩, q⟩
  | bl b =>
    cases ru
    refine PySem.P.repr_of_bool ⟨.str _, H, I.tok _, ⟨_, rfl⟩, ?_⟩
    exact q
  | int i =>
    obtain ⟨t, rfl⟩ := ru
    exact PySem.P.repr_of_int (by simpa [PyData.showable] using hs) ⟨.str _, H, I.tok _, ⟨_, rfl⟩, q⟩
  | str z => obtain ⟨t, rfl⟩ := ru; exact PySem.P.repr_of_str ⟨.str _, H, I.tok _, ⟨_, rfl⟩, q⟩
  | lst h1 h2 =>
    cases ru
    obtain ⟨as, rd⟩ := Dp.reads I _ _ _ (.lst h1 h2) rfl
    exact repr_of_reads' rd hs (PyData.noDict_hsm hn) hg (by omega) (fun _ _ e => e) (fun h' u tk hk => ⟨.str _, H, I.kept hk, ⟨_, rfl⟩, q⟩) hl
  | tup h1 h2 =>
    cases ru
    obtain ⟨as, rd⟩ := Dp.reads I _ _ _ (.tup h1 h2) rfl
    exact repr_of_reads' rd hs (PyData.noDict_hsm hn) hg (by omega) (fun _ _ e => e) (fun h' u tk hk => ⟨.str _, H, I.kept hk, ⟨_, rfl⟩, q⟩) hl
end
end VL
end
section
namespace VL
open PySem L2

/-! ### statements -/
abbrev MS := Ws → Hv → ResS
namespace Res
/-- a value, then a statement's end; r: the names as they stand -/
def andS {α : Type} (x : Res α) (r : Ws) (k : α → Hv → ResS) : ResS := match x with
  | .val a h => k a h
  | .exc c d h => .exc c d r h
  | .bad => .bad
end Res
section
variable {T : Tx} {X : Cx} {α β : Type} {R : List Addr → α → β → Prop} {ps : List Addr} {H : Hp} {x : Res α} {r : Ws} {k : α → Hv → ResS} {D : Ends} {E : WX} {s : St}
theorem good_andS (es : ES ps r s) (g : GoodS T ps H (x.andS r k) D E) : Good T R ps H x (fun v H1 => ∃ qs w h1, Step ps H qs H1 ∧ View T qs h1 H1 ∧ R qs w v ∧ ES qs r s ∧ GoodS T qs H1 (k w h1) D E) (fun c d H' => E c d s H') := by
  cases x with
  | val w h => exact fun qs H' v st vw rv => ⟨qs, w, h, st, vw, rv, es.mono st.pre, g.step st⟩
  | exc c d h => exact fun qs H' e st vw dv => g qs H' s e st vw (es.mono st.pre) dv
  | bad => exact g
end
def mExpr (f : Ws → Hv → Res W) : MS := fun r h => (f r h).andS r fun _ h1 => .nx r h1
def mRet (f : Ws → Hv → Res W) : MS := fun r h => (f r h).andS r fun w h1 => .rt w h1
def mSet (i : Nat) (f : Ws → Hv → Res W) : MS := fun r h => (f r h).andS r fun w h1 => .nx (r.set i (some w)) h1
def mIfS (t : Ws → Hv → Res Bool) (f g : MS) : MS := fun r h => (t r h).andS r fun b h1 => if b then f r h1 else g r h1
def mNext : MS := fun r h => .nx r h
def mSeq (f g : MS) : MS := fun r h => match f r h with
  | .nx r1 h1 => g r1 h1
  | x => x
section
variable {T : Tx} {X : Cx} {e : Expr} {f : Ws → Hv → Res W} {pos : Pos} {st : Stmt} {rest : List Stmt} {a b : MS} {t : Ws → Hv → Res Bool}
theorem ss_expr (h : SE T X e f) (hs : swapsWith e none pos.line X.env = pure false := by rfl) : SS T X (.Expr e pos) (mExpr f) := fun E cn => PSi (ps_expr (h E cn) hs) fun D s H ⟨ps, r, hv, es, vw, gd⟩ => by
  refine ⟨ps, r, hv, es, vw, (good_andS (R := WV) es gd).imp (fun v H1 q => ?_) fun _ _ _ z => z⟩
  obtain ⟨qs, w, h1, st, vw1, wv, es1, g1⟩ := q
  exact g1 qs H1 s (Step.refl _ _) vw1 es1
theorem ss_ret (h : SE T X e f) : SS T X (.Return (some e) pos) (mRet f) := fun E cn => PSi (ps_ret (h E cn)) fun D s H ⟨ps, r, hv, es, vw, gd⟩ => by
  refine ⟨ps, r, hv, es, vw, (good_andS (R := WV) es gd).imp (fun v H1 q => ?_) fun _ _ _ z => z⟩
  obtain ⟨qs, w, h1, st, vw1, wv, es1, g1⟩ := q
  exact g1 qs H1 v (Step.refl _ _) vw1 wv
theorem ss_retN : SS T X (.Return none pos) (fun _ h => .rt .non h) := fun E cn => PSi ps_retN fun D s H ⟨ps, r, hv, es, vw, gd⟩ => gd ps H .non (Step.refl _ _) vw rfl
theorem ss_pass : SS T X (.Pass pos) mNext := fun E cn => PSi ps_pass fun D s H ⟨ps, r, hv, es, vw, gd⟩ => gd ps H s (Step.refl _ _) vw es
theorem ss_break : SS T X (.Break pos) (fun r h => .bk r h) := fun E cn => PSi ps_break fun D s H ⟨ps, r, hv, es, vw, gd⟩ => gd ps H s (Step.refl _ _) vw es
theorem ss_cont : SS T X (.Continue pos) (fun r h => .ct r h) := fun E cn => PSi ps_continue fun D s H ⟨ps, r, hv, es, vw, gd⟩ => gd ps H s (Step.refl _ _) vw es
theorem ss_set (i : Nat) {x : Str} {pos' : Pos} (hN : X.N.Nodup) (h : SE T X e f) (hi : X.N[i]? = some x := by rfl) (hx : Loc X.env.scope x := by first | exact Or.inl rfl | exact Or.inr rfl) (hs : swapsWith e (some (.Name x pos')) pos.line X.env = pure false := by rfl)
    (hf : X.fn x = true ∨ X.env.scope.names.lookup x = some .local := by first | exact .inl rfl | exact .inr rfl) : SS T X (.Assign [.Name x pos'] e pos) (mSet i f) := fun E cn => PSi (ps_set hN hi hx (h E cn) hs hf) fun D s H ⟨ps, r, hv, es, vw, gd⟩ => by
  refine ⟨ps, r, hv, es, vw, (good_andS (R := WV) es gd).imp (fun v H1 q => ?_) fun _ _ _ z => z⟩
  obtain ⟨qs, w, h1, st, vw1, wv, es1, g1⟩ := q
  exact g1 qs H1 _ (Step.refl _ _) vw1 (es1.set i wv)
theorem sss_nil : SSs T X [] mNext := fun E cn => PSsi pss_nil fun D s H ⟨ps, r, hv, es, vw, gd⟩ => gd ps H s (Step.refl _ _) vw es
theorem seq_read {E : WX} {D : Ends} {s : St} {H : Hp} (h : tS T E (mSeq a b) D s H) : tSeq (tS T E a) (tS T E b) D s H := by
  obtain ⟨ps, r, hv, es, vw, gd⟩ := h
  refine ⟨ps, r, hv, es, vw, ?_⟩
  unfold mSeq at gd
  cases q : a r hv with
  | nx r1 h1 =>
    rw [q] at gd
    exact fun qs H' s' st vw' es' => ⟨qs, r1, h1, es', vw', GoodS.step gd st⟩
  | rt w h1 => rw [q] at gd; exact gd
  | bk w h1 => rw [q] at gd; exact gd
  | ct w h1 => rw [q] at gd; exact gd
  | exc c d w h1 => rw [q] at gd; exact gd
  | bad => rw [q] at gd; exact gd
theorem sss_cons (h1 : SS T X st a) (h2 : SSs T X rest b) : SSs T X (st :: rest) (mSeq a b) := fun E cn => PSsi (pss_cons (h1 E cn) (h2 E cn)) fun D s H h => seq_read h
theorem sss_one (h1 : SS T X st a) : SSs T X [st] a := fun E cn => pss_one (h1 E cn)
theorem ss_if {c : Expr} {sa sb : List Stmt} (hc : STt T X c t) (ha : SSs T X sa a) (hb : SSs T X sb b) : SS T X (.If c sa sb pos) (mIfS t a b) := fun E cn => PSi (ps_if (hc E cn) (ha E cn) (hb E cn)) fun D s H ⟨ps, r, hv, es, vw, gd⟩ => by
  refine ⟨ps, r, hv, es, vw, (good_andS (R := BEq2) es gd).imp (fun v H1 q => ?_) fun _ _ _ z => z⟩
  obtain ⟨qs, w, h1, st, vw1, wv, es1, g1⟩ := q
  cases wv
  cases v with
  | true => exact iteT ⟨qs, r, h1, es1, vw1, g1⟩
  | false => exact iteF ⟨qs, r, h1, es1, vw1, g1⟩
/-- a, b = x, y -/
def mPar (i j : Nat) (g : Ws → Hv → Res (List W)) : MS := fun r h => (g r h).andS r fun ws h1 => match ws with
  | [v, w] => .nx ((r.set i (some v)).set j (some w)) h1
  | _ => .bad
theorem ss_par (i j : Nat) {x y : Str} {ea eb : Expr} {g : Ws → Hv → Res (List W)} {px py pt : Pos} {kt k2 pt2} (hN : X.N.Nodup) (ha : SA T X [ea, eb] g) (hc : X.calm = true := by rfl) (hi : X.N[i]? = some x := by rfl) (hj : X.N[j]? = some y := by rfl) (hij : i ≠ j := by decide)
    (hx : X.env.scope.names.lookup x = some .local := by rfl) (hy : X.env.scope.names.lookup y = some .local := by rfl)
    (hw : swappedStores [.Tuple [.Name x px, .Name y py] kt pt] (.Tuple [ea, eb] k2 pt2) X.env = pure (some [x, y]) := by rfl)
    (hs : swapsWithSole [.Tuple [.Name x px, .Name y py] kt pt] (.Tuple [ea, eb] k2 pt2) pos.line X.env = pure false := by rfl) :
    SS T X (.Assign [.Tuple [.Name x px, .Name y py] kt pt] (.Tuple [ea, eb] k2 pt2) pos) (mPar i j g) := fun E cn => PSi (ps_par hc hN hi hj hij hx hy (ha E cn) hw hs) fun D s H ⟨ps, r, hv, es, vw, gd⟩ => by
  refine ⟨ps, r, hv, es, vw, (good_andS (R := WVs) es gd).imp (fun v H1 q => ?_) fun _ _ _ z => z⟩
  obtain ⟨qs, w, h1, st, vw1, wv, es1, g1⟩ := q
  try dsimp only at g1
  split at g1
  · obtain ⟨v1, v2, rfl, w1, w2⟩ := pair_of wv
    exact ⟨v1, v2, rfl, g1 qs H1 _ (Step.refl _ _) vw1 ((es1.set i w1).set j w2)⟩
  · exact g1.elim

/-! ### while -/
def whileM (t : Ws → Hv → Res Bool) (b : MS) : Nat → MS
  | 0, _, _ => .bad
  | n + 1, r, h => (t r h).andS r fun c h1 => if c then (match b r h1 with
      | .nx r1 h2 => whileM t b n r1 h2
      | .ct r1 h2 => whileM t b n r1 h2
      | .bk r1 h2 => .nx r1 h2
      | x => x) else .nx r h1
def mWhile (fuel : Ws → Hv → Nat) (t : Ws → Hv → Res Bool) (b : MS) : MS := fun r h => whileM t b (fuel r h) r h
theorem ss_while (fuel : Ws → Hv → Nat) {c : Expr} {body : List Stmt} (hc : STt T X c t) (hb : SSs T X body b) : SS T X (.While c body [] pos) (mWhile fuel t b) := fun E cn => PSi (ps_while cn.po (hc E cn) (hb E cn)) fun D s H ⟨ps, r, hv, es, vw, gd⟩ => by
  refine ⟨fun m s H => ∃ ps r h, ES ps r s ∧ View T ps h H ∧ GoodS T ps H (whileM t b m r h) D E, ⟨fuel r hv, ps, r, hv, es, vw, gd⟩, ?_⟩
  rintro m s H ⟨ps, r, h, es, vw, gd⟩
  cases m with
  | zero => exact gd.elim
  | succ m =>
    refine ⟨ps, r, h, es, vw, (good_andS (R := BEq2) es (by unfold whileM at gd; exact gd)).imp (fun v H1 q => ?_) fun _ _ _ z => z⟩
    obtain ⟨qs, w, h1, st, vw1, wv, es1, g1⟩ := q
    cases wv
    cases v with
    | false => exact iteF (g1 qs H1 s (Step.refl _ _) vw1 es1)
    | true =>
      refine iteT ⟨fun s' H' => ∃ ps r h, ES ps r s' ∧ View T ps h H' ∧ GoodS T ps H' (whileM t b m r h) D E, fun s' H' q => ⟨m, Nat.lt_succ_self m, q⟩, qs, r, h1, es1, vw1, ?_⟩
      try dsimp only at g1
      rw [if_pos rfl] at g1
      cases q : b r h1 with
      | nx r1 h2 =>
        rw [q] at g1
        exact fun rs H' s' st' vw' es' => ⟨rs, r1, h2, es', vw', GoodS.step g1 st'⟩
      | ct r1 h2 =>
        rw [q] at g1
        exact fun rs H' s' st' vw' es' => ⟨rs, r1, h2, es', vw', GoodS.step g1 st'⟩
      | bk r1 h2 => rw [q] at g1; exact g1
      | rt w h2 => rw [q] at g1; exact g1
      | exc c d w h2 => rw [q] at g1; exact g1
      | bad => rw [q] at g1; exact g1
end

/-! ### targets -/
abbrev MG := W → Ws → Hv → ResS
def tG (T : Tx) (E : WX) (g : MG) : TG := fun v s H Q => ∃ ps r h w, ES ps r s ∧ View T ps h H ∧ WV ps w v ∧ GoodS T ps H (g w r h) { nx := Q, rt := fun _ _ => False } E
def tGs (T : Tx) (E : WX) (g : List W → MS) : TGs := fun vs s H Q => ∃ ps r h ws, ES ps r s ∧ View T ps h H ∧ Paired (WV ps) ws vs ∧ GoodS T ps H (g ws r h) { nx := Q, rt := fun _ _ => False } E
def SG (T : Tx) (X : Cx) (e : Expr) (g : MG) : Prop := ∀ E, Cn X E → PG X e (tG T E g)
def SGs (T : Tx) (X : Cx) (es : List Expr) (g : List W → MS) : Prop := ∀ E, Cn X E → PGs X es (tGs T E g)
def mGn (i : Nat) : MG := fun w r h => .nx (r.set i (some w)) h
def mGnil : List W → MS := fun ws r h => match ws with
  | [] => .nx r h
  | _ => .bad
def mGcons (g : MG) (k : List W → MS) : List W → MS := fun ws r h => match ws with
  | w :: ws => mSeq (g w) (k ws) r h
  | [] => .bad
def mGtup (n : Nat) (k : List W → MS) : MG := fun w r h => match w with
  | .ref p => match h[p]? with
    | some (.tup ws) => if ws.length = n then k ws r h else .bad
    | _ => .bad
  | _ => .bad
section
variable {T : Tx} {X : Cx} {e : Expr} {es : List Expr} {g : MG} {k : List W → MS} {pos : Pos}
theorem PGi {t t' : TG} (h : PG X e t) (k : ∀ v s H Q, t' v s H Q → t v s H Q) : PG X e t' := ⟨fun pins s σ H v u Q I r hw => h.run pins s σ H v u Q I r (k _ _ _ _ hw)⟩
theorem PGsi {t t' : TGs} (h : PGs X es t) (k : ∀ v s H Q, t' v s H Q → t v s H Q) : PGs X es t' := ⟨fun pins s σ H v u Q I r hw => h.run pins s σ H v u Q I r (k _ _ _ _ hw)⟩
theorem sg_name (i : Nat) {x : Str} (hN : X.N.Nodup) (hi : X.N[i]? = some x := by rfl) (hx : Loc X.env.scope x := by first | exact Or.inl rfl | exact Or.inr rfl) (hf : X.fn x = true ∨ X.env.scope.names.lookup x = some .local := by first | exact .inl rfl | exact .inr rfl) :
    SG T X (.Name x pos) (mGn i) := fun E cn => PGi (pg_name hN hi hx hf) fun v s H Q ⟨ps, r, h, w, es, vw, wv, gd⟩ => gd ps H _ (Step.refl _ _) vw (es.set i wv)
theorem sgs_nil : SGs T X [] mGnil := fun E cn => PGsi pgs_nil fun v s H Q ⟨ps, r, h, ws, es, vw, wv, gd⟩ => by
  unfold mGnil at gd
  split at gd
  · cases wv
    exact ⟨rfl, gd ps H _ (Step.refl _ _) vw es⟩
  · exact gd.elim
theorem sgs_cons (h1 : SG T X e g) (h2 : SGs T X es k) (hs : (assignEach (e :: es) X.env).map (·.2) = assign e X.env :: (assignEach es X.env).map (·.2) := by rfl) : SGs T X (e :: es) (mGcons g k) := fun E cn => PGsi (pgs_cons (h1 E cn) (h2 E cn) hs) fun v s H Q ⟨ps, r, h, ws, es, vw, wv, gd⟩ => by
  cases wv with
  | nil => exact gd.elim
  | cons wv1 wv2 =>
    refine ⟨_, _, rfl, ps, r, h, _, es, vw, wv1, ?_⟩
    unfold mGcons at gd
    dsimp only at gd
    unfold mSeq at gd
    split at gd
    · rename_i r1 h1 q
      rw [q]
      exact fun qs H' s' st vw' es' => ⟨qs, r1, h1, _, es', vw', WVs.mono st.pre wv2, GoodS.step gd st⟩
    · rename_i x q
      cases z : g _ r h with
      | nx r1 h1 => exact absurd z (q r1 h1)
      | rt w h1 => rw [z] at gd; exact gd
      | bk w h1 => rw [z] at gd; exact gd
      | ct w h1 => rw [z] at gd; exact gd
      | exc c d w h1 => rw [z] at gd; exact gd
      | bad => rw [z] at gd; exact gd
theorem sg_tup {kk n : Nat} (h : SGs T X es k) (hc : X.calm = true := by rfl) (hn : (assignEach es X.env).length = n := by rfl) (hst : (assignEach es X.env).findIdx? (·.1) = none := by rfl) : SG T X (.Tuple es kk pos) (mGtup n k) := fun E cn =>
  PGi (pg_tup hc (h E cn) hn hst) fun v s H Q ⟨ps, r, h, w, es, vw, wv, gd⟩ => by
    unfold mGtup at gd
    split at gd
    · rename_i p
      obtain ⟨a, ea, rfl⟩ := wv
      split at gd
      · rename_i ws e1
        split at gd
        · rename_i hl
          obtain ⟨vs, rr, eH⟩ := vw.ob _ a _ ea e1
          have l1 : ws.length = vs.length := rr.length
          exact ⟨a, vs, rfl, SqT.of eH, by rw [← l1]; exact hl, ps, r, h, ws, es, vw, rr, gd⟩
        · exact gd.elim
      · exact gd.elim
    · exact gd.elim
/-- target = e -/
def mAsg (f : Ws → Hv → Res W) (g : MG) : MS := fun r h => (f r h).andS r fun w h1 => (match g w r h1 with
  | .nx r1 h2 => .nx r1 h2
  | .exc c d r1 h2 => .exc c d r1 h2
  | _ => .bad)
theorem ss_asg {tg : Expr} {f : Ws → Hv → Res W} (he : SE T X e f) (hg : SG T X tg g) (hs : swapsWithSole [tg] e pos.line X.env = pure false := by rfl) (hw : swappedStores [tg] e X.env = pure none := by rfl)
    (h1 : (assignEach [tg] X.env).map (·.2) = [assign tg X.env] := by rfl) : SS T X (.Assign [tg] e pos) (mAsg f g) := fun E cn => PSi (ps_asg (he E cn) (hg E cn) hs hw h1) fun D s H ⟨ps, r, hv, es, vw, gd⟩ => by
  refine ⟨ps, r, hv, es, vw, (good_andS (R := WV) es gd).imp (fun v H1 q => ?_) fun _ _ _ z => z⟩
  obtain ⟨qs, w, h1, st, vw1, wv, es1, g1⟩ := q
  refine ⟨qs, r, h1, w, es1, vw1, wv, ?_⟩
  cases z : g w r h1 with
  | nx r1 h2 => rw [z] at g1; exact g1
  | rt w h2 => rw [z] at g1; exact g1.elim
  | bk w h2 => rw [z] at g1; exact g1.elim
  | ct w h2 => rw [z] at g1; exact g1.elim
  | exc c d w h2 => rw [z] at g1; exact g1
  | bad => rw [z] at g1; exact g1.elim
/-- xs[i] = e -/
def mSub1 (fo fi : Ws → Hv → Res W) : MG := fun w r h => (fo r h).andS r fun o h1 => (fi r h1).andS r fun i h2 => match o, i with
  | .ref p, .int k => match h2[p]? with
    | some (.lst xs) => match ixN xs.length k with
      | some j => .nx r (h2.set p (.lst (xs.set j w)))
      | none => .bad
    | _ => .bad
  | _, _ => .bad
theorem sg_sub {o i : Expr} {fo fi : Ws → Hv → Res W} (ho : SE T X o fo) (hi : SE T X i fi)
    (ha : ∀ y, assign (.Subscript o i pos) X.env y = (do
      let yo ← holding [y] (eval o X.env)
      let yi ← holding [y, yo] (eval i X.env)
      standAt pos
      holding [y, yo, yi] (setItem yo yi y)
      release [y, yo, yi] []) := by intro _; rfl) : SG T X (.Subscript o i pos) (mSub1 fo fi) := fun E cn => PGi (pg_sub (ho E cn) (hi E cn) set_list ha) fun v s H Q ⟨ps, r, h, w, es, vw, wv, gd⟩ => by
  refine ⟨ps, r, h, es, vw, (good_andS (R := WV) es gd).imp (fun vo H1 q => ?_) fun _ _ _ z => z⟩
  obtain ⟨qs, wo, h1, st, vw1, wvo, es1, g1⟩ := q
  refine ⟨qs, r, h1, es1, vw1, (good_andS (R := WV) es1 g1).imp (fun vi H2 q2 => ?_) fun _ _ _ z => z⟩
  obtain ⟨rs, wi, h2, st2, vw2, wvi, es2, g2⟩ := q2
  try dsimp only at g2
  have wvo2 := wvo.mono st2.pre
  split at g2
  · rename_i p k
    obtain ⟨a, ea, rfl⟩ := wvo2
    cases wvi
    split at g2
    · rename_i xs e1
      split at g2
      · rename_i j ej
        obtain ⟨vs, rr, eH⟩ := vw2.ob _ a _ ea e1
        have l1 : xs.length = vs.length := rr.length
        have pz : Paired (WV rs) (xs.set j w) (vs.set j v) := paired_set rr ((wv.mono st.pre).mono st2.pre) j
        obtain ⟨vw3, st3⟩ := vw2.put ea (o := .lst (xs.set j w)) (u := .lst (vs.set j v)) ⟨_, pz, upd_same⟩
        exact ⟨a, vs, k, j, rfl, rfl, eH, by rw [← l1]; exact ej, g2 _ _ s st3 vw3 es2⟩
      · exact g2.elim
    · exact g2.elim
  · exact g2.elim
end
end VL
end
section
namespace VL
open PySem L2

/-! ### what is walked -/
inductive Nxt where
  | stop | item (w : W) (h : Hv) | bad
structure Src where
  n : Nat
  nx : Nat → Hv → Nxt
def NxOk (T : Tx) (qs : List Addr) (H : Hp) (J : It) (i : Nat) : Nxt → Prop
  | .stop => J.stop i H
  | .item w h => J.go i H ∧ ∀ x H', J.yld i H x H' → ∃ rs, Step qs H rs H' ∧ View T rs h H' ∧ WV rs w x
  | .bad => True
/-- the source S is the iterator J, wherever the places ps stand -/
def SimI (T : Tx) (ps : List Addr) (S : Src) (J : It) : Prop := ∀ qs h H i, ps <+: qs → View T qs h H → NxOk T qs H J i (S.nx i h)
theorem SimI.mono {T : Tx} {ps qs : List Addr} {S : Src} {J : It} (s : SimI T ps S J) (h : ps <+: qs) : SimI T qs S J := fun rs hv H i p => s rs hv H i (h.trans p)
def tI (T : Tx) (E : WX) (f : Ws → Hv → Res Src) : TI := fun s H R => ∃ ps r h, ES ps r s ∧ View T ps h H ∧ Good T (SimI T) ps H (f r h) R (fun c d H' => E c d s H')
def SI (T : Tx) (X : Cx) (tg iter : Expr) (f : Ws → Hv → Res Src) : Prop := ∀ E, Cn X E → PI X tg iter (tI T E f)

def forM (nx : Nat → Hv → Nxt) (g : MG) (b : MS) : Nat → Nat → MS
  | 0, _, _, _ => .bad
  | n + 1, i, r, h => match nx i h with
    | .stop => .nx r h
    | .item w h1 => (match g w r h1 with
      | .nx r1 h2 => (match b r1 h2 with
        | .nx r2 h3 => forM nx g b n (i + 1) r2 h3
        | .ct r2 h3 => forM nx g b n (i + 1) r2 h3
        | .bk r2 h3 => .nx r2 h3
        | x => x)
      | .exc c d r1 h2 => .exc c d r1 h2
      | _ => .bad)
    | .bad => .bad
def mFor (f : Ws → Hv → Res Src) (g : MG) (b : MS) : MS := fun r h => (f r h).andS r fun S h1 => forM S.nx g b S.n 0 r h1
section
variable {T : Tx} {X : Cx} {tg iter : Expr} {f : Ws → Hv → Res Src} {g : MG} {b : MS} {pos : Pos}
theorem for_run {D : Ends} {E : WX} {S : Src} {J : It} {p0 : List Addr} (sim : SimI T p0 S J) {ps : List Addr} {r : Ws} {h : Hv} {s : St} {H : Hp} (hp : p0 <+: ps) (es : ES ps r s) (vw : View T ps h H) (gd : GoodS T ps H (forM S.nx g b S.n 0 r h) D E) :
    ∃ Z : Nat → Nat → St → Hp → Prop, (∃ m, Z 0 m s H) ∧ ∀ i m s H, Z i m s H → (J.stop i H ∧ D.nx s H) ∨ (J.go i H ∧ ∃ N : St → Hp → Prop, (∀ s' H', N s' H' → ∃ m', m' < m ∧ Z (i + 1) m' s' H') ∧
      ∀ x H', J.yld i H x H' → tG T E g x s H' fun s2 H2 => tS T E b { D with nx := N, ct := N, bk := D.nx } s2 H2) := by
  refine ⟨fun i m s H => ∃ ps r h, p0 <+: ps ∧ ES ps r s ∧ View T ps h H ∧ GoodS T ps H (forM S.nx g b m i r h) D E, ⟨S.n, ps, r, h, hp, es, vw, gd⟩, ?_⟩
  rintro i m s H ⟨ps, r, h, hp, es, vw, gd⟩
  cases m with
  | zero => exact gd.elim
  | succ m =>
    have ok := sim ps h H i hp vw
    unfold forM at gd
    cases q : S.nx i h with
    | stop =>
      rw [q] at gd ok
      exact .inl ⟨ok, gd ps H s (Step.refl _ _) vw es⟩
    | bad => rw [q] at gd; exact gd.elim
    | item w h1 =>
      rw [q] at gd ok
      refine .inr ⟨ok.1, fun s' H' => ∃ ps r h, p0 <+: ps ∧ ES ps r s' ∧ View T ps h H' ∧ GoodS T ps H' (forM S.nx g b m (i + 1) r h) D E, fun s' H' z => ⟨m, Nat.lt_succ_self m, z⟩, fun x H' y => ?_⟩
      obtain ⟨qs, st, vw1, wv⟩ := ok.2 x H' y
      refine ⟨qs, r, h1, w, es.mono st.pre, vw1, wv, ?_⟩
      have gd := gd.step st
      dsimp only at gd
      cases z : g w r h1 with
      | rt _ _ => rw [z] at gd; exact gd.elim
      | bk _ _ => rw [z] at gd; exact gd.elim
      | ct _ _ => rw [z] at gd; exact gd.elim
      | bad => rw [z] at gd; exact gd.elim
      | exc c d r1 h2 => rw [z] at gd; exact gd
      | nx r1 h2 =>
        rw [z] at gd
        intro rs H2 s2 st2 vw2 es2
        refine ⟨rs, r1, h2, es2, vw2, ?_⟩
        have gd := gd.step st2
        dsimp only at gd
        have pp : p0 <+: rs := (hp.trans st.pre).trans st2.pre
        cases y2 : b r1 h2 with
        | nx r2 h3 =>
          rw [y2] at gd
          exact fun ts H3 s3 st3 vw3 es3 => ⟨ts, r2, h3, pp.trans st3.pre, es3, vw3, GoodS.step gd st3⟩
        | ct r2 h3 =>
          rw [y2] at gd
          exact fun ts H3 s3 st3 vw3 es3 => ⟨ts, r2, h3, pp.trans st3.pre, es3, vw3, GoodS.step gd st3⟩
        | bk r2 h3 => rw [y2] at gd; exact gd
        | rt r2 h3 => rw [y2] at gd; exact gd
        | exc c d r2 h3 => rw [y2] at gd; exact gd
        | bad => rw [y2] at gd; exact gd
theorem ss_for {body : List Stmt} (hi : SI T X tg iter f) (hg : SG T X tg g) (hb : SSs T X body b) (hc : X.calm = true := by rfl) (hs : ∀ x, foldedSetIterable iter X.env x = pure x := by intro _; rfl) : SS T X (.For tg iter body [] pos) (mFor f g b) := fun E cn =>
  PSi (ps_for cn.po hc (hi E cn) (hg E cn) (hb E cn) hs) fun D s H ⟨ps, r, hv, es, vw, gd⟩ => by
    refine ⟨ps, r, hv, es, vw, (good_andS (R := SimI T) es gd).imp (fun J H1 q => ?_) fun _ _ _ z => z⟩
    obtain ⟨qs, S, h1, st, vw1, sim, es1, g1⟩ := q
    exact for_run sim (List.prefix_refl _) es1 vw1 g1

/-! ### lists and tuples -/
def nxSeq (p : Nat) : Nat → Hv → Nxt := fun i h => match h[p]? with
  | some (.lst xs) => (match xs[i]? with | some w => .item w h | none => .stop)
  | some (.rol xs) => (match xs[i]? with | some w => .item w h | none => .stop)
  | _ => .bad
def nxTup (p : Nat) : Nat → Hv → Nxt := fun i h => match h[p]? with
  | some (.tup xs) => (match xs[i]? with | some w => .item w h | none => .stop)
  | _ => .bad
def srcOf (w : W) (h : Hv) : Res Src := match w with
  | .ref p => (match h[p]? with
    | some (.lst xs) => .val ⟨xs.length + 1, nxSeq p⟩ h
    | some (.rol xs) => .val ⟨xs.length + 1, nxSeq p⟩ h
    | some (.tup xs) => .val ⟨xs.length + 1, nxTup p⟩ h
    | _ => .bad)
  | _ => .bad
def mSrc (f : Ws → Hv → Res W) : Ws → Hv → Res Src := fun r h => (f r h).bind srcOf
theorem at_pre {ps qs : List Addr} {p : Nat} {a : Addr} (h : ps <+: qs) (e : ps[p]? = some a) : qs[p]? = some a := by
  obtain ⟨r, rfl⟩ := h
  rw [List.getElem?_append_left (List.getElem?_eq_some_iff.mp e).1]
  exact e
theorem paired_none {ps : List Addr} {xs : List W} {vs : List V} (a : Paired (WV ps) xs vs) {i : Nat} (e : xs[i]? = none) : vs.length ≤ i := by
  rw [← a.length]
  exact List.getElem?_eq_none_iff.mp e
theorem sim_list {K : PySem.W.Frag} {ps : List Addr} {p n : Nat} {a : Addr} (ea : ps[p]? = some a) : SimI T ps ⟨n, nxSeq p⟩ (Itl K a) := by
  intro qs h H i pre vw
  have eq := at_pre pre ea
  show NxOk T qs H (Itl K a) i (nxSeq p i h)
  unfold nxSeq
  split
  · rename_i xs e1
    obtain ⟨vs, rr, eH⟩ := vw.ob _ a _ eq e1
    split
    · rename_i w ew
      obtain ⟨v, ev, wv⟩ := paired_get rr ew
      refine ⟨⟨vs, v, SqL.of eH, ev⟩, fun x H' y => ?_⟩
      obtain ⟨rfl, y⟩ := y
      have z := y vs (SqL.of eH)
      rw [ev] at z
      cases z
      exact ⟨qs, Step.refl _ _, vw, wv⟩
    · rename_i ew
      exact ⟨vs, SqL.of eH, paired_none rr ew⟩
  · rename_i xs e1
    obtain ⟨vs, ob, rr, eH⟩ := vw.ob _ a _ eq e1
    split
    · rename_i w ew
      obtain ⟨v, ev, wv⟩ := paired_get rr ew
      refine ⟨⟨vs, v, .inl (.inr ⟨ob, eH⟩), ev⟩, fun x H' y => ?_⟩
      obtain ⟨rfl, y⟩ := y
      have z := y vs (.inl (.inr ⟨ob, eH⟩))
      rw [ev] at z
      cases z
      exact ⟨qs, Step.refl _ _, vw, wv⟩
    · rename_i ew
      exact ⟨vs, .inl (.inr ⟨ob, eH⟩), paired_none rr ew⟩
  · trivial
theorem sim_tup {K : PySem.W.Frag} {ps : List Addr} {p n : Nat} {a : Addr} (ea : ps[p]? = some a) : SimI T ps ⟨n, nxTup p⟩ (Itt K a) := by
  intro qs h H i pre vw
  have eq := at_pre pre ea
  show NxOk T qs H (Itt K a) i (nxTup p i h)
  unfold nxTup
  split
  · rename_i xs e1
    obtain ⟨vs, rr, eH⟩ := vw.ob _ a _ eq e1
    split
    · rename_i w ew
      obtain ⟨v, ev, wv⟩ := paired_get rr ew
      refine ⟨⟨vs, v, SqT.of eH, ev⟩, fun x H' y => ?_⟩
      obtain ⟨rfl, y⟩ := y
      have z := y vs (SqT.of eH)
      rw [ev] at z
      cases z
      exact ⟨qs, Step.refl _ _, vw, wv⟩
    · rename_i ew
      exact ⟨vs, SqT.of eH, paired_none rr ew⟩
  · trivial
/-- for x in e: a list or a tuple -/
theorem si_seq {e : Expr} {fe : Ws → Hv → Res W} (he : SE T X e fe) : SI T X tg e (mSrc fe) := fun E cn => ⟨fun pins s σ H R I h => by
  obtain ⟨ps, r, hv, es, vw, gd⟩ := h
  have key : (iList X.K (tE T E fe) σ H R) ∨ (iTup X.K (tE T E fe) σ H R) := by
    unfold mSrc at gd
    cases q : fe r hv with
    | bad => rw [q] at gd; exact gd.elim
    | exc c d h1 =>
      rw [q] at gd
      exact .inl ⟨ps, r, hv, es, vw, by rw [q]; exact gd⟩
    | val w h1 =>
      rw [q] at gd
      have g1 : Good T (SimI T) ps H (srcOf w h1) R _ := gd
      unfold srcOf at g1
      split at g1
      · rename_i p
        split at g1
        · rename_i xs e1
          refine .inl ⟨ps, r, hv, es, vw, ?_⟩
          rw [q]
          intro qs H' v st vw' wv
          obtain ⟨a, ea, rfl⟩ := wv
          obtain ⟨vs, rr, eH⟩ := vw'.ob _ a _ ea e1
          exact ⟨a, rfl, ⟨vs, SqL.of eH⟩, g1 qs H' _ st vw' (sim_list ea)⟩
        · rename_i xs e1
          refine .inl ⟨ps, r, hv, es, vw, ?_⟩
          rw [q]
          intro qs H' v st vw' wv
          obtain ⟨a, ea, rfl⟩ := wv
          obtain ⟨vs, ob, rr, eH⟩ := vw'.ob _ a _ ea e1
          exact ⟨a, rfl, ⟨vs, .inl (.inr ⟨ob, eH⟩)⟩, g1 qs H' _ st vw' (sim_list ea)⟩
        · rename_i xs e1
          refine .inr ⟨ps, r, hv, es, vw, ?_⟩
          rw [q]
          intro qs H' v st vw' wv
          obtain ⟨a, ea, rfl⟩ := wv
          obtain ⟨vs, rr, eH⟩ := vw'.ob _ a _ ea e1
          exact ⟨a, rfl, ⟨vs, SqT.of eH⟩, g1 qs H' _ st vw' (sim_tup ea)⟩
        · exact g1.elim
      · exact g1.elim
  rcases key with k | k
  · exact (pi_list (he E cn)).run pins s σ H R I k
  · exact (pi_tup (he E cn)).run pins s σ H R I k⟩
/-! ### range -/
def nxR (lo : Int) (n : Nat) : Nat → Hv → Nxt := fun i h => if i < n then .item (.int (lo + i)) h else .stop
theorem sim_range {ps : List Addr} {lo : Int} {n m : Nat} : SimI T ps ⟨m, nxR lo n⟩ (Itr lo n) := by
  intro qs h H i pre vw
  show NxOk T qs H (Itr lo n) i (nxR lo n i h)
  unfold nxR
  split
  · rename_i hi
    refine ⟨hi, fun x H' y => ?_⟩
    obtain ⟨rfl, rfl⟩ := y
    exact ⟨qs, Step.refl _ _, vw, rfl⟩
  · rename_i hi
    exact Nat.le_of_not_lt hi
def rgB (i : Int) : Bool := decide (-4611686018427387904 ≤ i) && decide (i < 4611686018427387904)
def srcR (ws : List W) (h : Hv) : Res Src := match ws with
  | [.int j] => if rgB j then .val ⟨j.toNat + 1, nxR 0 j.toNat⟩ h else .bad
  | [.int i, .int j] => if rgB i && rgB j then .val ⟨(j - i).toNat + 1, nxR i (j - i).toNat⟩ h else .bad
  | _ => .bad
def mRng (g : Ws → Hv → Res (List W)) : Ws → Hv → Res Src := fun r h => (g r h).bind srcR
theorem rgB_ok {i : Int} (h : rgB i = true) : -(2 ^ 62) ≤ i ∧ i < 2 ^ 62 := by
  unfold rgB at h
  rw [Bool.and_eq_true] at h
  have e : (2 : Int) ^ 62 = 4611686018427387904 := by decide
  rw [e]
  exact ⟨of_decide_eq_true h.1, of_decide_eq_true h.2⟩
theorem si_range1 {a : Expr} {fa : Ws → Hv → Res (List W)} {p pos : Pos} (hg : Gl X "range") (hm : X.mg "range" = none) (ha : SA T X [a] fa) (hl : ∀ r h ws h', fa r h = .val ws h' → ws.length = 1) (hs : starEach [a] X.env = [(false, eval a X.env)] := by rfl) :
    SI T X tg (.Call (.Name "range" p) [a] [] pos) (mRng fa) := fun E cn => ⟨fun pins s σ H R I h => (pi_range1 hg hm (ha E cn) hs).run pins s σ H R I (by
  obtain ⟨ps, r, hv, es, vw, gd⟩ := h
  refine ⟨ps, r, hv, es, vw, ?_⟩
  cases q : fa r hv with
  | bad => unfold mRng at gd; rw [q] at gd; exact gd.elim
  | exc c d h1 => unfold mRng at gd; rw [q] at gd; exact gd
  | val ws h1 =>
    unfold mRng at gd
    rw [q] at gd
    have g1 : Good T (SimI T) ps H (srcR ws h1) R _ := gd
    have hw := hl r hv ws h1 q
    intro qs H' vs st vw' wv
    unfold srcR at g1
    split at g1
    · split at g1
      · rename_i j hj
        obtain ⟨v, rfl, e⟩ := one_of wv
        cases e
        obtain ⟨b1, b2⟩ := rgB_ok hj
        exact ⟨j, rfl, b1, b2, g1 qs H' _ st vw' sim_range⟩
      · exact g1.elim
    · simp at hw
    · exact g1.elim)⟩
theorem si_range2 {a b : Expr} {fa : Ws → Hv → Res (List W)} {p pos : Pos} (hg : Gl X "range") (hm : X.mg "range" = none) (ha : SA T X [a, b] fa) (hl : ∀ r h ws h', fa r h = .val ws h' → ws.length = 2) (hs : starEach [a, b] X.env = [(false, eval a X.env), (false, eval b X.env)] := by rfl) (hs2 : starEach [b] X.env = [(false, eval b X.env)] := by rfl) :
    SI T X tg (.Call (.Name "range" p) [a, b] [] pos) (mRng fa) := fun E cn => ⟨fun pins s σ H R I h => (pi_range2 hg hm (ha E cn) hs hs2).run pins s σ H R I (by
  obtain ⟨ps, r, hv, es, vw, gd⟩ := h
  refine ⟨ps, r, hv, es, vw, ?_⟩
  cases q : fa r hv with
  | bad => unfold mRng at gd; rw [q] at gd; exact gd.elim
  | exc c d h1 => unfold mRng at gd; rw [q] at gd; exact gd
  | val ws h1 =>
    unfold mRng at gd
    rw [q] at gd
    have g1 : Good T (SimI T) ps H (srcR ws h1) R _ := gd
    have hw := hl r hv ws h1 q
    intro qs H' vs st vw' wv
    unfold srcR at g1
    split at g1
    · simp at hw
    · split at g1
      · rename_i i j hj
        rw [Bool.and_eq_true] at hj
        obtain ⟨v, v', rfl, e, e'⟩ := pair_of wv
        cases e; cases e'
        obtain ⟨b1, b2⟩ := rgB_ok hj.1
        obtain ⟨b3, b4⟩ := rgB_ok hj.2
        exact ⟨i, j, rfl, ⟨b1, b2, b3, b4⟩, g1 qs H' _ st vw' sim_range⟩
      · exact g1.elim
    · exact g1.elim)⟩
theorem len_cons {f : Ws → Hv → Res W} {g : Ws → Hv → Res (List W)} {n : Nat} (hg : ∀ r h ws h', g r h = .val ws h' → ws.length = n) : ∀ r h ws h', mCons f g r h = .val ws h' → ws.length = n + 1 := by
  intro r h ws h' e
  unfold mCons at e
  cases q : f r h with
  | bad => rw [q] at e; cases e
  | exc c d h1 => rw [q] at e; cases e
  | val w h1 =>
    rw [q] at e
    cases q2 : g r h1 with
    | bad => simp only [Res.bind, q2] at e; cases e
    | exc c d h1 => simp only [Res.bind, q2] at e; cases e
    | val us h2 =>
      simp only [Res.bind, q2] at e
      cases e
      simp [hg _ _ _ _ q2]
theorem len_nil : ∀ (r : Ws) (h : Hv) (ws : List W) (h' : Hv), mNil r h = .val ws h' → ws.length = 0 := fun r h ws h' e => by
  unfold mNil at e
  cases e
  rfl
/-! ### enumerate -/
def nxEnum (p : Nat) : Nat → Hv → Nxt := fun i h => match h[p]? with
  | some (.lst xs) => (match xs[i]? with | some w => .item (.ref h.length) (h ++ [.tup [.int i, w]]) | none => .stop)
  | some (.rol xs) => (match xs[i]? with | some w => .item (.ref h.length) (h ++ [.tup [.int i, w]]) | none => .stop)
  | _ => .bad
theorem sim_enum {K : PySem.W.Frag} {ps : List Addr} {p n : Nat} {a : Addr} (ea : ps[p]? = some a) : SimI T ps ⟨n, nxEnum p⟩ (Ite K a) := by
  intro qs h H i pre vw
  have eq := at_pre pre ea
  show NxOk T qs H (Ite K a) i (nxEnum p i h)
  unfold nxEnum
  have go : ∀ {vs : List V} {xs : List W}, Paired (WV qs) xs vs → SqL K H a vs → NxOk T qs H (Ite K a) i (match xs[i]? with | some w => .item (.ref h.length) (h ++ [.tup [.int i, w]]) | none => .stop) := by
    intro vs xs rr sq
    split
    · rename_i w ew
      obtain ⟨v, ev, wv⟩ := paired_get rr ew
      refine ⟨⟨vs, v, sq, ev⟩, fun x H' y => ?_⟩
      obtain ⟨q, x', rfl, hq, rfl, y⟩ := y
      have z := y vs sq
      rw [ev] at z
      cases z
      obtain ⟨v1, s1, e1⟩ := vw.alloc hq (o := .tup [.int i, w]) (u := .tup [.int (i : Nat), v]) ⟨_, .cons rfl (.cons wv .nil), upd_same⟩
      exact ⟨_, s1, v1, q, e1, rfl⟩
    · rename_i ew
      exact ⟨vs, sq, paired_none rr ew⟩
  split
  · rename_i xs e1
    obtain ⟨vs, rr, eH⟩ := vw.ob _ a _ eq e1
    exact go rr (SqL.of eH)
  · rename_i xs e1
    obtain ⟨vs, ob, rr, eH⟩ := vw.ob _ a _ eq e1
    exact go rr (.inl (.inr ⟨ob, eH⟩))
  · trivial
def srcE (ws : List W) (h : Hv) : Res Src := match ws with
  | [.ref p] => (match h[p]? with
    | some (.lst xs) => .val ⟨xs.length + 1, nxEnum p⟩ h
    | some (.rol xs) => .val ⟨xs.length + 1, nxEnum p⟩ h
    | _ => .bad)
  | _ => .bad
def mEnum (g : Ws → Hv → Res (List W)) : Ws → Hv → Res Src := fun r h => (g r h).bind srcE
theorem si_enum {e : Expr} {fa : Ws → Hv → Res (List W)} {p pos tpos : Pos} {elts : List Expr} {kk : Nat} (hg : Gl X "enumerate") (hm : X.mg "enumerate" = none) (ha : SA T X [e] fa) (hs : starEach [e] X.env = [(false, eval e X.env)] := by rfl) :
    SI T X (.Tuple elts kk tpos) (.Call (.Name "enumerate" p) [e] [] pos) (mEnum fa) := fun E cn => ⟨fun pins s σ H R I h => (pi_enum hg hm (ha E cn) hs).run pins s σ H R I (by
  obtain ⟨ps, r, hv, es, vw, gd⟩ := h
  refine ⟨ps, r, hv, es, vw, ?_⟩
  cases q : fa r hv with
  | bad => unfold mEnum at gd; rw [q] at gd; exact gd.elim
  | exc c d h1 => unfold mEnum at gd; rw [q] at gd; exact gd
  | val ws h1 =>
    unfold mEnum at gd
    rw [q] at gd
    have g1 : Good T (SimI T) ps H (srcE ws h1) R _ := gd
    intro qs H' vs st vw' wv
    unfold srcE at g1
    split at g1
    · obtain ⟨v, rfl, a, ea, rfl⟩ := one_of wv
      split at g1
      · rename_i xs e1
        obtain ⟨vs, rr, eH⟩ := vw'.ob _ a _ ea e1
        exact ⟨a, vs, rfl, SqL.of eH, g1 qs H' _ st vw' (sim_enum ea)⟩
      · rename_i xs e1
        obtain ⟨vs, ob, rr, eH⟩ := vw'.ob _ a _ ea e1
        exact ⟨a, vs, rfl, .inl (.inr ⟨ob, eH⟩), g1 qs H' _ st vw' (sim_enum ea)⟩
      · exact g1.elim
    · exact g1.elim)⟩
end
end VL
end
section
namespace VL
open PySem L2

/-! ### comprehensions: one name, at most one if -/
def noX {α : Type} : Res α → Res α
  | .exc _ _ _ => .bad
  | x => x
theorem good_noX {α β γ δ : Type} {T : Tx} {R : List Addr → α → β → Prop} {S : List Addr → γ → δ → Prop} {ps : List Addr} {H : Hp} {x : Res α} {k : α → Hv → Res γ} {Q : δ → Hp → Prop} {E : XK} (g : Good T S ps H ((noX x).bind k) Q E) :
    Good T R ps H x (Mid T R S ps H k Q E) (fun _ _ _ => False) := by
  cases x with
  | val w h => exact fun qs H' v s vw rv => ⟨qs, w, h, s, vw, rv, Good.step g s⟩
  | exc c d h => exact g.elim
  | bad => exact g
def compM (nx : Nat → Hv → Nxt) (i : Nat) (t : Ws → Hv → Res Bool) (f : Ws → Hv → Res W) (p : Nat) : Nat → Nat → Ws → Hv → Res W
  | 0, _, _, _ => .bad
  | n + 1, k, r, h => match nx k h with
    | .stop => .val (.ref p) h
    | .bad => .bad
    | .item w h1 => (noX (t (r.set i (some w)) h1)).bind fun b h2 => if b then ((noX (f (r.set i (some w)) h2)).bind fun y h3 => match h3[p]? with
        | some (.lst acc) => if acc.length < 100000 then compM nx i t f p n (k + 1) r (h3.set p (.lst (acc ++ [y]))) else .bad
        | _ => .bad) else compM nx i t f p n (k + 1) r h2
def mLc (src : Ws → Hv → Res Src) (i : Nat) (t : Ws → Hv → Res Bool) (f : Ws → Hv → Res W) : Ws → Hv → Res W := fun r h => (src r h).bind fun S h1 => compM S.nx i t f h1.length S.n 0 r (h1 ++ [.lst []])
abbrev No : WX := fun _ _ _ _ => False
theorem cn_no {X : Cx} {s : Shared} {H : Hp} {scope : Scope} {env : Env} {fp : List Addr} : Cn (X.blk s H scope env fp) No := ⟨takes0, PassesOwn.never⟩
section
variable {T : Tx} {X : Cx} {elt iter : Expr} {ifs : List Expr} {scope : Scope} {pos px : Pos} {src : Ws → Hv → Res Src} {t : Ws → Hv → Res Bool} {f : Ws → Hv → Res W} {x : Str}
theorem lc_read (i : Nat) {E : WX} {s : St} {H : Hp} {Q : VK} {tt : TT} (htt : ∀ s H Q, tT T No t s H Q → tt s H Q) (h : tE T E (mLc src i t f) s H Q) : tLc (tI T E src) (gName i) tt (tE T No f) [i] s H Q := by
  obtain ⟨ps, r, hv, es, vw, gd⟩ := h
  refine ⟨ps, r, hv, es, vw, (Good.bind (R := SimI T) (S := WV) gd).imp (fun J H1 q => ?_) fun _ _ _ z => z⟩
  obtain ⟨qs, S, h1, st, vw1, sim, g1⟩ := q
  intro D hD
  obtain ⟨vw2, st2, e2⟩ := vw1.alloc hD (o := .lst []) (u := .lst []) ⟨[], .nil, upd_same⟩
  have pq := st2.pre
  refine ⟨fun k m H => ∃ ps h, (qs ++ [D]) <+: ps ∧ ES ps r s ∧ View T ps h H ∧ Good T WV ps H (compM S.nx i t f h1.length m k r h) Q (fun c d H' => E c d s H'), ⟨S.n, qs ++ [D], _, List.prefix_refl _, (es.mono st.pre).mono pq, vw2, Good.step g1 st2⟩, ?_⟩
  rintro k m H3 ⟨rs, h3, pre, es3, vw3, g3⟩
  cases m with
  | zero => exact g3.elim
  | succ m =>
    have ok := sim rs h3 H3 k (pq.trans pre) vw3
    unfold compM at g3
    have eD := at_pre pre e2
    cases q : S.nx k h3 with
    | bad => rw [q] at g3; exact g3.elim
    | stop =>
      rw [q] at g3 ok
      exact .inl ⟨ok, g3 rs H3 _ (Step.refl _ _) vw3 ⟨D, eD, rfl⟩⟩
    | item w h4 =>
      rw [q] at g3 ok
      refine .inr ⟨ok.1, fun H => ∃ ps h, (qs ++ [D]) <+: ps ∧ ES ps r s ∧ View T ps h H ∧ Good T WV ps H (compM S.nx i t f h1.length m (k + 1) r h) Q (fun c d H' => E c d s H'), fun H' z => ⟨m, Nat.lt_succ_self m, z⟩, fun v H4 y => ?_⟩
      obtain ⟨ts, st4, vw4, wv⟩ := ok.2 v H4 y
      have g4 := g3.step st4
      dsimp only at g4
      have es4 : ES ts (r.set i (some w)) ((wipe s [i]).set i (some v)) := by
        show ES ts (r.set i (some w)) ((s.set i none).set i (some v))
        rw [List.set_set]
        exact (es3.mono st4.pre).set i wv
      refine ⟨?_, htt _ _ _ ⟨ts, r.set i (some w), h4, es4, vw4, (good_noX (R := BEq2) (S := WV) g4).imp (fun b H5 q5 => ?_) fun _ _ _ z => z⟩⟩
      · show (((s.set i none).set i (some v)).set i none) = s.set i none
        rw [List.set_set, List.set_set]
      · obtain ⟨us, b', h5, st5, vw5, eb, g5⟩ := q5
        cases eb
        have es5 := es4.mono st5.pre
        have esr := (es3.mono st4.pre).mono st5.pre
        have pre5 := (pre.trans st4.pre).trans st5.pre
        cases b with
        | false => exact iteF ⟨us, h5, pre5, esr, vw5, g5⟩
        | true =>
          refine iteT ⟨us, r.set i (some w), h5, es5, vw5, (good_noX (R := WV) (S := WV) g5).imp (fun yv H6 q6 => ?_) fun _ _ _ z => z⟩
          obtain ⟨vs, wy, h6, st6, vw6, wvy, g6⟩ := q6
          dsimp only at g6
          split at g6
          · rename_i acc e6
            split at g6
            · rename_i hl
              have eD6 := at_pre (pre5.trans st6.pre) e2
              obtain ⟨av, rr, eH⟩ := vw6.ob _ D _ eD6 e6
              have l1 : acc.length = av.length := rr.length
              obtain ⟨vw7, st7⟩ := vw6.put eD6 (o := .lst (acc ++ [wy])) (u := .lst (av ++ [yv])) ⟨_, paired_app rr (.cons wvy .nil), upd_same⟩
              exact ⟨av, eH, Nat.lt_of_lt_of_le (l1 ▸ hl) (by decide), vs, _, pre5.trans st6.pre, esr.mono st6.pre, vw7, Good.step g6 st7⟩
            · exact g6.elim
          · exact g6.elim
def mYes : Ws → Hv → Res Bool := fun _ h => .val true h
theorem yes_read {s : St} {H : Hp} {Q : Bool → Hp → Prop} (h : tT T No mYes s H Q) : tYes s H Q := by
  obtain ⟨ps, r, hv, es, vw, gd⟩ := h
  exact Good.now (R := BEq2) gd vw rfl
theorem se_lc (i : Nat) (hN : X.N.Nodup) (hi : SI T X (.Name x px) iter src) (ok : BlkOk X.N X.env.scope scope [(x, i)]) (hx : ∀ (s : Shared) (H : Hp) (C : Addr) (cl : List (Str × Addr)) (fp : List Addr), PG (X.blk s H scope (compEnvC scope cl C X.env) fp) (.Name x px) (gName i))
    (he : ∀ (s : Shared) (H : Hp) (C : Addr) (cl : List (Str × Addr)) (fp : List Addr), SE T (X.blk s H scope (compEnvC scope cl C X.env) fp) elt f) (hc : X.calm = true := by rfl) (hs : ∀ x, foldedSetIterable iter X.env x = pure x := by intro _; rfl) :
    SE T X (.ListComp elt [⟨.Name x px, iter, [], 0⟩] scope pos) (mLc src i mYes f) := fun E cn => PEi (pe_lc (own := [(x, i)]) hc hN (hi E cn) ok hx (fun _ _ _ _ _ => pts_nil) (fun s H C cl fp => he s H C cl fp No cn_no) hs) fun s H Q h => lc_read i (fun _ _ _ z => yes_read z) h
theorem se_lcIf (i : Nat) {c : Expr} (hN : X.N.Nodup) (hi : SI T X (.Name x px) iter src) (ok : BlkOk X.N X.env.scope scope [(x, i)]) (hx : ∀ (s : Shared) (H : Hp) (C : Addr) (cl : List (Str × Addr)) (fp : List Addr), PG (X.blk s H scope (compEnvC scope cl C X.env) fp) (.Name x px) (gName i))
    (ht : ∀ (s : Shared) (H : Hp) (C : Addr) (cl : List (Str × Addr)) (fp : List Addr), STt T (X.blk s H scope (compEnvC scope cl C X.env) fp) c t)
    (he : ∀ (s : Shared) (H : Hp) (C : Addr) (cl : List (Str × Addr)) (fp : List Addr), SE T (X.blk s H scope (compEnvC scope cl C X.env) fp) elt f) (hc : X.calm = true := by rfl) (hs : ∀ x, foldedSetIterable iter X.env x = pure x := by intro _; rfl) :
    SE T X (.ListComp elt [⟨.Name x px, iter, [c], 0⟩] scope pos) (mLc src i t f) := fun E cn => PEi (pe_lc (own := [(x, i)]) hc hN (hi E cn) ok hx (fun s H C cl fp => pts_one (ht s H C cl fp No cn_no)) (fun s H C cl fp => he s H C cl fp No cn_no) hs) fun s H Q h => lc_read i (fun _ _ _ z => z) h
end

/-! ### slices of lists -/
def mPart (o : Option (Ws → Hv → Res W)) : Ws → Hv → Res (Option Int) := match o with
  | none => fun _ h => .val none h
  | some f => fun r h => (f r h).bind fun w h1 => match w with
    | .int i => .val (some i) h1
    | _ => .bad
abbrev OEq2 : List Addr → Option Int → Option Int → Prop := fun _ a b => a = b
def tO (T : Tx) (E : WX) (f : Ws → Hv → Res (Option Int)) : TO := fun s H Q => ∃ ps r h, ES ps r s ∧ View T ps h H ∧ Good T OEq2 ps H (f r h) Q (fun c d H' => E c d s H')
def SO (T : Tx) (X : Cx) (e : Option Expr) (f : Ws → Hv → Res (Option Int)) : Prop := ∀ E, Cn X E → PO X e (tO T E f)
def cutW (xs : List W) (lo hi : Option Int) : List W := (xs.drop (HT.sIx xs.length 0 lo)).take (HT.sIx xs.length xs.length hi - HT.sIx xs.length 0 lo)
def mCut (w : W) (lo hi : Option Int) (h : Hv) : Res W := match w with
  | .ref p => (match h[p]? with
    | some (.lst xs) => mNew (.lst (cutW xs lo hi)) h
    | some (.rol xs) => mNew (.lst (cutW xs lo hi)) h
    | _ => .bad)
  | _ => .bad
def mSl (f : Ws → Hv → Res W) (lo hi : Ws → Hv → Res (Option Int)) : Ws → Hv → Res W := fun r h => (f r h).bind fun w h1 => (lo r h1).bind fun l h2 => (hi r h2).bind fun u h3 => mCut w l u h3
section
variable {T : Tx} {X : Cx} {e : Expr} {f : Ws → Hv → Res W} {lo hi : Option Expr} {fl fh : Ws → Hv → Res (Option Int)} {p2 pos : Pos}
theorem POi {o : Option Expr} {t t' : TO} (h : PO X o t) (k : ∀ s H Q, t' s H Q → t s H Q) : PO X o t' := ⟨fun pins s σ H Q I hw => h.run pins s σ H Q I (k _ _ _ hw)⟩
theorem so_none : SO T X none (mPart none) := fun E cn => POi po_none fun s H Q ⟨ps, r, h, es, vw, g⟩ => Good.now (R := OEq2) g vw rfl
theorem so_some (h : SE T X e f) : SO T X (some e) (mPart (some f)) := fun E cn => POi (po_some (h E cn)) fun s H Q ⟨ps, r, hv, es, vw, gd⟩ => by
  refine ⟨ps, r, hv, es, vw, (Good.bind (R := WV) (S := OEq2) gd).imp (fun v H1 q => ?_) fun _ _ _ z => z⟩
  obtain ⟨qs, w, h1, st, vw1, wv, g1⟩ := q
  dsimp only at g1
  split at g1
  · cases wv
    exact ⟨_, rfl, Good.now (R := OEq2) g1 vw1 rfl⟩
  · exact g1.elim
theorem paired_cut {ps : List Addr} {xs : List W} {vs : List V} (a : Paired (WV ps) xs vs) (lo hi : Option Int) : Paired (WV ps) (cutW xs lo hi) (cutV vs lo hi) := by
  unfold cutW cutV
  rw [a.length]
  exact paired_take (paired_drop a _) _
theorem se_slice (he : SE T X e f) (hl : SO T X lo fl) (hh : SO T X hi fh) : SE T X (.Subscript e (.Slice lo hi none p2) pos) (mSl f fl fh) := fun E cn => PEi (pe_slice sl_list (he E cn) (hl E cn) (hh E cn)) fun s H Q ⟨ps, r, hv, es, vw, gd⟩ => by
  refine ⟨ps, r, hv, es, vw, (Good.bind (R := WV) (S := WV) gd).imp (fun v H1 q => ?_) fun _ _ _ z => z⟩
  obtain ⟨qs, w, h1, st, vw1, wv, g1⟩ := q
  refine ⟨qs, r, h1, es.mono st.pre, vw1, (Good.bind (R := OEq2) (S := WV) g1).imp (fun l H2 q2 => ?_) fun _ _ _ z => z⟩
  obtain ⟨rs, l', h2, st2, vw2, e2, g2⟩ := q2
  cases e2
  refine ⟨rs, r, h2, (es.mono st.pre).mono st2.pre, vw2, (Good.bind (R := OEq2) (S := WV) g2).imp (fun u H3 q3 => ?_) fun _ _ _ z => z⟩
  obtain ⟨ts, u', h3, st3, vw3, e3, g3⟩ := q3
  cases e3
  have wv3 := (wv.mono st2.pre).mono st3.pre
  dsimp only at g3
  unfold mCut at g3
  split at g3
  · obtain ⟨a, ea, rfl⟩ := wv3
    split at g3
    · rename_i xs e1
      obtain ⟨vs, rr, eH⟩ := vw3.ob _ a _ ea e1
      exact ⟨a, vs, rfl, SqL.of eH, fun p hp => good_new vw3 g3 (fun H' p' e => ⟨_, paired_cut rr _ _, e⟩) hp⟩
    · rename_i xs e1
      obtain ⟨vs, ob, rr, eH⟩ := vw3.ob _ a _ ea e1
      exact ⟨a, vs, rfl, .inl (.inr ⟨ob, eH⟩), fun p hp => good_new vw3 g3 (fun H' p' e => ⟨_, paired_cut rr _ _, e⟩) hp⟩
    · exact g3.elim
  · exact g3.elim
end

/-! ### xs.append(e) -/
def mApp (fo fe : Ws → Hv → Res W) : Ws → Hv → Res W := fun r h => (fo r h).bind fun o h1 => match o with
  | .ref p => (match h1[p]? with
    | some (.lst _) => (fe r h1).bind fun w h2 => (match h2[p]? with
      | some (.lst xs) => if xs.length < 100000 then .val .non (h2.set p (.lst (xs ++ [w]))) else .bad
      | _ => .bad)
    | _ => .bad)
  | _ => .bad
section
variable {T : Tx} {X : Cx} {o e : Expr} {fo fe : Ws → Hv → Res W} {pos apos cpos : Pos}
theorem se_append (ho : SE T X o fo) (he : SE T X e fe) (hs : starEach [e] X.env = (false, eval e X.env) :: starEach [] X.env := by rfl)
    (hp : ∀ {to : TE} {t : TA}, PE X o to → PA X [e] t → PE X (.Call (.Attribute o "append" apos) [e] [] cpos) (tBM X.K "list" rAppend to t) := by exact fun a b => pe_bm PySem.F.plainAttrs_list PySem.F.slot_list_append PySem.F.type_list_append mt_append a b) :
    SE T X (.Call (.Attribute o "append" apos) [e] [] cpos) (mApp fo fe) := fun E cn => PEi (hp (ho E cn) (pa_cons (he E cn) pa_nil hs)) fun s H Q ⟨ps, r, hv, es, vw, gd⟩ => by
  refine ⟨ps, r, hv, es, vw, (Good.bind (R := WV) (S := WV) gd).imp (fun v H1 q => ?_) fun _ _ _ z => z⟩
  obtain ⟨qs, w, h1, st, vw1, wv, g1⟩ := q
  dsimp only at g1
  split at g1
  · rename_i p
    obtain ⟨a, ea, rfl⟩ := wv
    split at g1
    · rename_i ys e1
      obtain ⟨vs, rr, eH⟩ := vw1.ob _ a _ ea e1
      refine ⟨.inl ⟨rfl, vs, SqL.of eH⟩, qs, r, h1, es.mono st.pre, vw1, (Good.bind (R := WV) (S := WV) g1).imp (fun y H2 q2 => ?_) fun _ _ _ z => z⟩
      obtain ⟨rs, wy, h2, st2, vw2, wvy, g2⟩ := q2
      dsimp only at g2
      split at g2
      · rename_i xs e2
        split at g2
        · rename_i hl
          have ea2 := at_pre st2.pre ea
          obtain ⟨us, r2, eH2⟩ := vw2.ob _ a _ ea2 e2
          have l1 : xs.length = us.length := r2.length
          obtain ⟨vw3, st3⟩ := vw2.put ea2 (o := .lst (xs ++ [wy])) (u := .lst (us ++ [y])) ⟨_, paired_app r2 (.cons wvy .nil), upd_same⟩
          exact ⟨a, us, y, rfl, rfl, eH2, Nat.lt_of_lt_of_le (l1 ▸ hl) (by decide), g2 _ _ _ st3 vw3 rfl⟩
        · exact g2.elim
      · exact g2.elim
    · exact g1.elim
  · exact g1.elim
end
end VL
end
section
namespace VL
open PySem L2 PySem.Spec PyProof.Rows

/-! ### raise of an own error with one field -/
def mRaise (C : String) (f : Str) (g : Ws → Hv → Res (List W)) : MS := fun r h => (g r h).andS r fun ws h1 => match ws with
  | [w] => .exc C (some h1.length) r (h1 ++ [.xd [(f, w)]])
  | _ => .bad
/-- __init__(self, f): self.f = f -/
def spInit (K : PySem.W.Frag) (C : Addr) (f : Str) : Sp := fun vs H Q _ => ∃ (a : Addr) (v : V), vs = [.ref a, v] ∧ H a = some (exo a C none) ∧ ∀ dx, H dx = none → dx ≠ a → Q .non (upd (upd H dx (exd dx [(f, v)])) a (exo a C (some dx)))
/-- what the text says of the error's class -/
structure ErrC (P : Program) (w : World) (K : PySem.W.Frag) (mg : Str → Option Value) (base : Heap) (x f : Str) (C : Addr) : Prop where
  oex : OexC K C
  mgC : mg x = some (.ref C)
  ini : ∃ fI fd, PySem.W.findIn K (.ref C) "__init__" = some (some (.ref fI)) ∧ PySem.W.typeIn K (.ref fI) = some (.type "function") ∧ FnOk P w K mg base CX0 1 fI fd ["self", f] (spInit K C f) ∧ Binds K fd ["self", f] []
section
variable {T : Tx} {X : Cx} {C : Addr} {cn9 : String} {x f : Str} {e : Expr} {g : Ws → Hv → Res (List W)} {p pos pos' : Pos}
theorem ss_raise (Z : ErrC X.prog X.w X.K X.mg X.base x f C) (hcv : T.cv cn9 = .ref C) (hr : Room 2 X.A) (hg : Gl X x) (ha : SA T X [e] g) (hc : X.calm = true := by rfl) (hdb : (x == ("__debug__" : Str)) = false := by decide)
    (he : starEach [e] X.env = (false, eval e X.env) :: starEach [] X.env := by rfl) (hpl : (backTo pos' (starEach [] X.env)).any (·.1) = false := by rfl) : SS T X (.Raise (some (.Call (.Name x p) [e] [] pos')) none pos) (mRaise cn9 f g) := fun E cn => by
  obtain ⟨fI, fd, h1, h2, h3, h4⟩ := Z.ini
  refine PSi (ps_raise hc cn.tk (pmk_oex Z.oex h1 h2 h3 hr h4 .nil pass0 hg Z.mgC (ha E cn) hdb he hpl)) fun D s H ⟨ps, r, hv, es, vw, gd⟩ => ?_
  refine ⟨ps, r, hv, es, vw, (good_andS (R := WVs) es gd).imp (fun vs H1 q => ?_) fun _ _ _ z => z⟩
  obtain ⟨qs, ws, hh, st, vw1, wv, es1, g1⟩ := q
  split at g1
  · rename_i w
    obtain ⟨v, rfl, wv1⟩ := one_of wv
    refine ⟨by simp, fun a na => ⟨a, v, rfl, upd_same, fun dx hd ne => ⟨rfl, dx, [(f, v)], upd_same, by rw [upd_ne ne, upd_same], ?_, ?_⟩⟩⟩
    · rw [upd_ne ne] at hd
      exact hd
    · rw [upd_ne ne] at hd
      have eqH : upd (del (upd (upd (upd H1 a (exo a C none)) dx (exd dx [(f, v)])) a (exo a C (some dx))) a) dx (.xd [(f, v)]) = upd H1 dx (.xd [(f, v)]) := by
        funext b
        by_cases hb : b = dx
        · rw [hb, upd_same, upd_same]
        · rw [upd_ne hb, upd_ne hb]
          by_cases ha : b = a
          · rw [ha, del_same, na]
          · rw [del_ne ha, upd_ne ha, upd_ne hb, upd_ne ha]
      rw [eqH]
      obtain ⟨vw2, st2, e2⟩ := vw1.alloc hd (o := .xd [(f, w)]) (u := .xd [(f, v)]) ⟨_, .cons ⟨rfl, wv1⟩ .nil, upd_same⟩
      rw [← hcv]
      exact g1 _ _ s (some dx) st2 vw2 (es1.mono st2.pre) ⟨dx, e2, rfl⟩
  · exact g1.elim
end

/-! ### try .. except x as n: a suite that returns -/
theorem View.known {T : Tx} {ps : List Addr} {h : Hv} {H : Hp} (v : View T ps h H) {j : Nat} {a : Addr} (e : ps[j]? = some a) : View (T.known j a) ps h H := ⟨v.len, v.nd, v.ob, v.tab, v.fact, e⟩
theorem View.less {T : Tx} {ps : List Addr} {h : Hv} {H : Hp} {j : Nat} {a : Addr} (v : View (T.known j a) ps h H) : View T ps h H := ⟨v.len, v.nd, v.ob, v.tab, v.fact.1⟩
def mTry (i : Nat) (exm : String → Option Bool) (su : Nat → MS) (b : MS) : MS := fun r h => match b r h with
  | .exc c d r1 h1 => (match exm c with
    | some true => (match d with
      | some j => if i < r1.length then (match su j r1 h1 with
        | .rt w h2 => .rt w h2
        | _ => .bad) else .bad
      | none => .bad)
    | some false => .exc c d r1 h1
    | none => .bad)
  | y => y
section
variable {T : Tx} {X : Cx} {x n : Str} {c : Value} {body suite : List Stmt} {b0 : Stmt} {np pos pos' : Pos} {bM : MS} {sM : Addr → Nat → MS} {su : Nat → MS} {exm : String → Option Bool} {okc : Value → Prop}
theorem ss_try (i : Nat) (hN : X.N.Nodup) (hc : Names X x c) (hexm : ∀ v b, exm v = some b → PySem.W.exmOne X.K (T.cv v) c = some b) (hokc : ∀ v, exm v = some true → okc (T.cv v))
    (hb : ∀ (pn : List (Addr × Obj)) (xe : Value → Shared → Prop), SSs T (X.tr pn xe) body bM)
    (hsu : ∀ (a : Addr) (oe : Obj) (cls : Value) (dd : Addr) (pn : List (Addr × Obj)) (j : Nat), okc cls → Zc cls (some dd) oe → (∃ vs, oe.data = .fields vs) → SSs (T.known j dd) (X.suite a ((a, oe) :: pn)) (b0 :: suite) (sM a j))
    (hind : ∀ a j r h w h2, i < r.length → su j r h = .rt w h2 → sM a j (r.set i (some (.fix a))) h = .rt w h2)
    (hs : X.stack = X.env :: X.outer := by rfl) (hf : X.env.frame = some X.env.locals := by rfl) (hi : X.N[i]? = some n := by rfl) (hln : X.env.kindOf n = some .local := by rfl) :
    SS T X (.Try body [.ExceptHandler (some (.Name x np)) (some n) (b0 :: suite) pos'] [] [] pos) (mTry i exm su bM) := fun E cn => by
  let ts : Addr → Value → Option Addr → TS := fun a cls d D s H => okc cls ∧ ∃ j dd, d = some dd ∧ tS (T.known j dd) No (sM a j) D s H
  have base : PS X (.Try body [.ExceptHandler (some (.Name x np)) (some n) (b0 :: suite) pos'] [] [] pos) (fun D s H => tS T (wAs X.K c i ts E D) bM D s H) := ps_try_as (tb := fun W => tS T W bM) (ts := ts) hs hf hN hi hln hc cn.tk (fun W pn xe tk po => hb pn xe W ⟨tk, po⟩) fun a oe cls d pn hz hd => ⟨fun pins s σ H D I h => by
    obtain ⟨hk, j, dd, rfl, h⟩ := h
    exact ((hsu a oe cls dd pn j hk hz hd) No ⟨takes0, PassesOwn.never⟩).run pins s σ H D I h⟩
  refine ⟨fun pins s σ H D I h => base.run pins s σ H D I ?_⟩
  obtain ⟨ps, r, hv, es, vw, gd⟩ := h
  refine ⟨ps, r, hv, es, vw, ?_⟩
  unfold mTry at gd
  cases q : bM r hv with
  | nx r1 h1 => rw [q] at gd; exact gd
  | rt r1 h1 => rw [q] at gd; exact gd
  | bk r1 h1 => rw [q] at gd; exact gd
  | ct r1 h1 => rw [q] at gd; exact gd
  | bad => rw [q] at gd; exact gd
  | exc cv d r1 h1 =>
    rw [q] at gd
    intro qs H' s' e st vw' es' dv
    dsimp only at gd
    cases ex : exm cv with
    | none => rw [ex] at gd; exact gd.elim
    | some b =>
      rw [ex] at gd
      cases b with
      | false => exact ⟨false, hexm _ _ ex, (fun z => by cases z), fun _ => gd qs H' s' e st vw' es' dv⟩
      | true =>
        cases d with
        | none => exact gd.elim
        | some j =>
          obtain ⟨dd, ej, rfl⟩ := dv
          refine ⟨true, hexm _ _ ex, fun _ a ha => ?_, (fun z => by cases z)⟩
          dsimp only at gd
          split at gd
          · rename_i hl
            cases z : su j r1 h1 with
            | nx _ _ => rw [z] at gd; exact gd.elim
            | bk _ _ => rw [z] at gd; exact gd.elim
            | ct _ _ => rw [z] at gd; exact gd.elim
            | exc _ _ _ _ => rw [z] at gd; exact gd.elim
            | bad => rw [z] at gd; exact gd.elim
            | rt w h2 =>
              rw [z] at gd
              refine ⟨hokc _ ex, j, dd, rfl, qs, r1.set i (some (.fix a)), h1, es'.set i rfl, vw'.known ej, ?_⟩
              rw [hind a j r1 h1 _ _ hl z]
              exact fun rs H2 v st2 vw2 wv => gd rs H2 v (st.trans st2) vw2.less wv
          · exact gd.elim
end

/-! ### the caught error's field -/
def mXf (j : Nat) (f : Str) : Ws → Hv → Res W := fun _ h => match h[j]? with
  | some (.xd fs) => ofO (fs.lookup f) h
  | _ => .bad
def mXfA (i : Nat) (a : Addr) (j : Nat) (f : Str) : Ws → Hv → Res W := fun r h => match r[i]? with
  | some (some (.fix b)) => if b = a then mXf j f r h else .bad
  | _ => .bad
theorem paired_lookup {ps : List Addr} {f : Str} : ∀ {fs : List (Str × W)} {vs : List (Str × V)} {w : W}, Paired (PW2 ps) fs vs → fs.lookup f = some w → ∃ v, vs.lookup f = some v ∧ WV ps w v
  | [], _, _, .nil, e => by cases e
  | (k, u) :: fs, (k', u') :: vs, w, .cons r t, e => by
    obtain ⟨rfl, r⟩ := r
    rw [List.lookup_cons] at e ⊢
    cases q : f == k with
    | true => rw [q] at e; cases e; exact ⟨u', by simp, r⟩
    | false =>
      rw [q] at e
      obtain ⟨v, h1, h2⟩ := paired_lookup t e
      exact ⟨v, by simpa [q] using h1, h2⟩
section
variable {T : Tx} {X : Cx}
theorem se_xf (i : Nat) {a dd C : Addr} {oe : Obj} {cls : Value} {pn : List (Addr × Obj)} {j : Nat} {n f : Str} {p pos : Pos} (Z : XfC X.K C) (hno : PySem.W.findIn X.K (.ref C) f = some none) (hz : Zc cls (some dd) oe) (hf : ∃ vs, oe.data = .fields vs) (hcls : cls = .ref C)
    (hN : X.N[i]? = some n := by rfl) (hv : Vis X.env.scope n := by first | exact Or.inl rfl | exact Or.inr (Or.inl rfl) | exact Or.inr (Or.inr rfl)) (hd : (n == ("__debug__" : Str)) = false := by decide) (hcd : (n == ("__classdict__" : Str)) = false := by decide)
    (hb : attributeBase (.Name n p) f X.env (eval (.Name n p) X.env) = eval (.Name n p) X.env := by rfl) :
    SE (T.known j dd) (X.suite a ((a, oe) :: pn)) (.Attribute (.Name n p) f pos) (mXfA i a j f) := fun E cn => PEi (pe_xf Z hno hz hf (pe_var (X := X.suite a ((a, oe) :: pn)) (i := i) hN hv hd hcd) hb) fun s H Q ⟨ps, r, hv, es, vw, gd⟩ => by
  unfold mXfA at gd
  split at gd
  · rename_i b eb
    split at gd
    · rename_i hba
      subst hba
      obtain ⟨v, e1, e2⟩ := es.2 i _ eb
      cases e2
      unfold mXf at gd
      split at gd
      · rename_i fs ej
        obtain ⟨w, ew, g⟩ := ofO_of gd
        have ed : ps[j]? = some dd := vw.fact.2
        obtain ⟨vs, rr, eH⟩ := vw.ob _ dd _ ed ej
        obtain ⟨v, ev, wv⟩ := paired_lookup rr ew
        exact ⟨_, e1, rfl, hcls, dd, vs, v, rfl, eH, ev, Good.now g vw wv⟩
      · exact gd.elim
    · exact gd.elim
  · exact gd.elim
end

/-! ### a def -/
def startW (N : List Str) (ws : List W) : Ws := ws.map some ++ List.replicate (N.length - ws.length) none
def mDef (N : List Str) (b : MS) : MFn := fun ws h => match b (startW N ws) h with
  | .rt w h1 => .val w h1
  | .nx _ h1 => .val .non h1
  | .exc c d _ h1 => .exc c d h1
  | _ => .bad
theorem es_start {N : List Str} {ps : List Addr} {ws : List W} {vs : List V} (h : Paired (WV ps) ws vs) : ES ps (startW N ws) (L2.start N vs) := by
  have hl : ws.length = vs.length := h.length
  refine ⟨by simp [startW, L2.start, hl], fun i w e => ?_⟩
  unfold startW at e
  unfold L2.start
  by_cases hi : i < ws.length
  · rw [List.getElem?_append_left (by simpa using hi)] at e
    rw [List.getElem?_append_left (by simpa [← hl] using hi)]
    rw [List.getElem?_map] at e ⊢
    cases q : ws[i]? with
    | none => simp [q] at e
    | some w' =>
      rw [q] at e
      cases e
      obtain ⟨v, ev, wv⟩ := paired_get h q
      exact ⟨v, by rw [ev]; rfl, wv⟩
  · rw [List.getElem?_append_right (by simpa using Nat.le_of_not_lt hi)] at e
    rw [List.getElem?_replicate] at e
    split at e
    · cases e
    · cases e
section
variable {P : Program} {w : World} {K : PySem.W.Frag} {mg : Str → Option Value} {base : Heap} {T : Tx} {N qs : List Str} {x qual : Str} {st : Stmt} {f : Addr} {fd : FuncData} {k : Nat} {b : MS}
theorem def_read {vs : List V} {H : Hp} {Q : VK} {E : XK} (h : spV T qs.length (mDef N b) vs H Q E) : tS T (fun c d _ H' => E c d H') b { nx := fun _ H' => Q .non H', rt := Q } (L2.start N vs) H := by
  obtain ⟨hl, ps, hv, ws, vw, wv, gd⟩ := h
  refine ⟨ps, startW N ws, hv, es_start wv, vw, ?_⟩
  unfold mDef at gd
  cases q : b (startW N ws) hv with
  | nx r1 h1 => rw [q] at gd; exact fun rs H' s st vw' es => gd rs H' .non st vw' rfl
  | rt w1 h1 => rw [q] at gd; exact gd
  | bk _ _ => rw [q] at gd; exact gd.elim
  | ct _ _ => rw [q] at gd; exact gd.elim
  | exc c d r1 h1 => rw [q] at gd; exact fun rs H' s e st vw' es dv => gd rs H' e st vw' dv
  | bad => rw [q] at gd; exact gd.elim
/-- THE RULE for a def -/
theorem fn_def (F : Fun K x qual st f fd) (S : FnScope N qs (defScope st))
    (hb : ∀ (cdv : Value) (A : Around) (outer : List Env) (s : Shared) (H : Hp) (E : XK), Room k (A.deeper (envOfC qual (defScope st) s.heap.objs.size f cdv)) → SSs T (cxOf (L2.CX P w) P w K mg base N qual (defScope st) f cdv A outer s H E) (defBody st) b) :
    FnOk P w K mg base (L2.CX P w) (k + 1) f fd qs (spV T qs.length (mDef N b)) :=
  F.okX S (fun vs H Q E h => h.1) fun cdv A outer s H vs Q E hr h => ⟨_, hb cdv A outer s H E hr _ ⟨takes_of rfl rfl rfl rfl, passes_of rfl⟩, def_read h⟩
end
end VL
end
section
namespace VL
open PySem L2 PySem.Spec PyProof.Rows

/-! ### defs that are called while no repr runs -/
structure FnG (P : Program) (w : World) (K : PySem.W.Frag) (mg : Str → Option Value) (base : Heap) (T : Tx) (k : Nat) (f : Addr) (n : Nat) (m : MFn) : Prop where
  run : ∀ (A : Around) (outer : List Env) (s : Shared) (H : Hp) (us : List Value) (vs : List V) (Q : VK) (E : XK), Room k A → A.guards = some [] → Env0 P w K mg base A outer s H → Vals vs us → spV T n m vs H Q E →
    codeAny (model P w) A (.call (.ref f) ⟨us, []⟩) (CR (L2.CX P w) outer P w H s Q E) s
theorem can_G {T : Tx} {X : Cx} {k : Nat} {f : Addr} {n : Nat} {m : MFn} (F : FnG X.prog X.w X.K X.mg X.base T k f n m) (hr : Room k X.A) (hg : X.A.guards = some []) : Can T X f n m := fun pins s σ H us vs Q E I r h => F.run X.A X.stack s H us vs Q E hr hg I.env0 r h
section
variable {P : Program} {w : World} {K : PySem.W.Frag} {mg : Str → Option Value} {base : Heap} {T : Tx} {N qs : List Str} {x qual : Str} {st : Stmt} {f : Addr} {fd : FuncData} {k : Nat} {b : MS}
/-- the def st stands at f, its code object is cdv -/
structure FunC (K : PySem.W.Frag) (x qual : Str) (st : Stmt) (f : Addr) (fd : FuncData) (cdv : Value) : Prop where
  ex : ∃ (oc : Value) (od : Option Addr) (kV doc pm : Value) (an : Option Addr) (ct : Value) (osl : Array (Option Value)),
    fd = PySem.W.fnOf x qual (defArgs st) (defBody st) (defScope st)
      .none kV doc pm an cdv ct ∧ K.lookup f = some ⟨oc, od, .func fd, osl⟩ ∧ PySem.W.codeIn K cdv qual = true
  kp : PySem.W.keepIn K (Value.ref f) = true
theorem Fun.code (F : Fun K x qual st f fd) : ∃ cdv, FunC K x qual st f fd cdv := by
  obtain ⟨oc, od, kV, doc, pm, an, cdv, ct, osl, e, l, c⟩ := F.ex
  exact ⟨cdv, ⟨oc, od, kV, doc, pm, an, ct, osl, e, l, c⟩, F.kp⟩
theorem fn_defC {cdv : Value} (F : FunC K x qual st f fd cdv) (S : FnScope N qs (defScope st)) (hbd : Binds K fd qs [])
    (hb : ∀ (A : Around) (outer : List Env) (s : Shared) (H : Hp) (E : XK), Room k (A.deeper (envOfC qual (defScope st) s.heap.objs.size f cdv)) → A.guards = some [] → SSs T (cxOf (L2.CX P w) P w K mg base N qual (defScope st) f cdv A outer s H E) (defBody st) b) :
    FnG P w K mg base T (k + 1) f qs.length (mDef N b) := ⟨fun A outer s H us vs Q E hr hg e0 r h => by
  obtain ⟨oc, od, kV, doc, pm, an, ct, osl, rfl, lk, hcd⟩ := F.ex
  have hl : vs.length = qs.length := h.1
  have kin : K.In s.heap := e0.mod.kin.keeps fun b o e => (e0.bs b o e).1
  have bt := hbd s us kin (by rw [List.append_nil, ← r.length]; exact hl)
  rw [List.append_nil] at bt
  exact LamX.run_ofS (N := N) (ps := qs) lk hcd S hr e0 bt r hl fun hr' => ⟨_, hb A outer s H E hr' hg _ ⟨takes_of rfl rfl rfl rfl, passes_of rfl⟩, def_read h⟩⟩
theorem fn_defG (F : Fun K x qual st f fd) (S : FnScope N qs (defScope st)) (hbd : Binds K fd qs [])
    (hb : ∀ (cdv : Value) (A : Around) (outer : List Env) (s : Shared) (H : Hp) (E : XK), Room k (A.deeper (envOfC qual (defScope st) s.heap.objs.size f cdv)) → A.guards = some [] → SSs T (cxOf (L2.CX P w) P w K mg base N qual (defScope st) f cdv A outer s H E) (defBody st) b) :
    FnG P w K mg base T (k + 1) f qs.length (mDef N b) := by
  obtain ⟨cdv, C⟩ := Fun.code F
  exact fn_defC C S hbd (hb cdv)
end

/-! ### heard(lambda: e): try: return call() / except x as n: a suite that returns -/
def mHeard (exm : String → Option Bool) (su : Nat → MS) (fb : Ws → Hv → Res W) : Ws → Hv → Res W := fun r h => match fb r h with
  | .val w h1 => .val w h1
  | .exc c (some j) h1 => (match exm c with
    | some true => (match su j [none, none] h1 with
      | .rt w h2 => .val w h2
      | _ => .bad)
    | _ => .bad)
  | _ => .bad
section
variable {X : Cx} {T : Tx} {sM : Addr → Nat → MS} {su : Nat → MS} {exm : String → Option Bool} {okc : Value → Prop} {cx : Value}
/-- what the suite is to do with an error of the class cls whose own dict is at d -/
def tSuite (T : Tx) (okc : Value → Prop) (sM : Addr → Nat → MS) : Addr → Value → Option Addr → TS := fun a cls d D s H => okc cls ∧ ∃ j dd, d = some dd ∧ tS (T.known j dd) No (sM a j) D s H
def wHeard (K : PySem.W.Frag) (T : Tx) (cx : Value) (okc : Value → Prop) (sM : Addr → Nat → MS) (Q : VK) : XK := fun cls d H => ∃ b, PySem.W.exmOne K cls cx = some b ∧
  (b = true → ∀ (D : Ends) (s : L2.St) (a : Addr), D.rt = Q → s.length = 2 → H a = none → tSuite T okc sM a cls d D (s.set 1 (some (.ref a))) H) ∧ (b = false → False)
def TTh (K : PySem.W.Frag) (T : Tx) (cx : Value) (okc : Value → Prop) (sM : Addr → Nat → MS) : (XK → Hp → VK → Prop) → Hp → VK → Prop := fun tl H Q => tl (wHeard K T cx okc sM Q) H Q
/-- the context in which heard's body runs -/
abbrev hCx (X : Cx) (Ng : List Str) (x : Str) (sg : Scope) (g : Addr) (cdg : Value) (s : Shared) (H : Hp) : Cx := (cxOf C8.CX0 X.prog X.w X.K X.mg X.base Ng x sg g cdg X.A X.stack s H C8.E0).nox
theorem heard_gives {x a n e q : Str} {sg : Scope} {g : Addr} {cdg : Value} {b0 : Stmt} {suite : List Stmt} {p1 p2 p3 p4 p7 p8 : Pos} (hnd : ([a, n] : List Str).Nodup)
    (hc : ∀ s H, Names (hCx X [a, n] x sg g cdg s H) e cx)
    (hsu : ∀ (s : Shared) (H : Hp) (ad : Addr) (oe : Obj) (cls : Value) (dd : Addr) (pn : List (Addr × Obj)) (j : Nat), okc cls → Zc cls (some dd) oe → (∃ vs, oe.data = .fields vs) → SSs (T.known j dd) ((hCx X [a, n] x sg g cdg s H).suite ad ((ad, oe) :: pn)) (b0 :: suite) (sM ad j))
    (hkn : sg.names.lookup n = some .local) :
    LamX.GivesTo X [a, n] x sg g cdg [.Try [.Return (some (.Call (.Name a p1) [] [] p2)) p3] [.ExceptHandler (some (.Name e p4)) (some n) (b0 :: suite) p7] [] [] p8] a q (TTh X.K T cx okc sM) := by
  intro f c' s H Q tl act hco h
  refine ⟨_, pss_one (ps_try_as (X := hCx X [a, n] x sg g cdg s H) (i := 1) (ts := tSuite T okc sM) (Wout := No)
    (tb := fun Wx D s' H' => ∃ Ec : XK, (∀ cls d (s2 : L2.St) H2, s2.length = 2 → Ec cls d H2 → Wx cls d s2 H2) ∧ s'[0]? = some (some (.ref f)) ∧ H' c' = some (LamX.CodeO c' q) ∧ tl Ec H' D.rt) rfl rfl hnd rfl hkn (hc s H) takes0 (fun Wx pn xe tk _ => ⟨fun pins s1 σ1 H1 D I h1 => ?_⟩)
    fun ad oe cls d pn hz hf => ⟨fun pins s1 σ1 H1 D I h1 => ?_⟩), ?_⟩
  · obtain ⟨Ec, hW, hs, h2, h3⟩ := h1
    have tk2 : Takes ((cxOf C8.CX0 X.prog X.w X.K X.mg X.base [a, n] x sg g cdg X.A X.stack s H C8.E0).tr pn xe) (fun cls d s2 H2 => s2.length = 2 → Wx cls d s2 H2) := fun u s' xx => by
      obtain ⟨ad, B, sI, pins', s3, H3, cls, d, e1, J, e2, e3, e4, e5, e6, e7, wz⟩ := xx
      exact tk u s' ⟨ad, B, sI, pins', s3, H3, cls, d, e1, J, e2, e3, e4, e5, e6, e7, wz J.len⟩
    have hp := act _ pn xe Ec p1 p2 tk2 fun cls d s2 H2 hh hl => hW cls d s2 H2 hl hh
    exact (pss_one (ps_ret (pos := p3) hp)).run pins s1 σ1 H1 D I ⟨hs, h2, h3⟩
  · obtain ⟨hk, j, dd, rfl, h2⟩ := h1
    exact ((hsu s H ad oe cls dd pn j hk hz hf) No ⟨takes0, PassesOwn.never⟩).run pins s1 σ1 H1 D I h2
  · refine ⟨wHeard X.K T cx okc sM Q, fun cls d s2 H2 hl hw => ?_, rfl, hco, h⟩
    obtain ⟨b, e1, e2, e3⟩ := hw
    exact ⟨b, e1, fun hb ad ha => e2 hb _ s2 ad rfl hl ha, fun hb => (e3 hb).elim⟩
theorem View.ext {ps : List Addr} {h : Hv} {H H1 : Hp} (v : View T ps h H) (e : LamX.ExtN H H1) (t : LamX.Tabs T.tb H1) : View T ps h H1 ∧ Step ps H ps H1 := by
  refine ⟨⟨v.len, v.nd, fun i a o h1 h2 => ?_, t, v.fact⟩, ⟨List.prefix_refl _, fun _ _ h n _ => absurd h n, fun a o h1 h2 _ => e a o h1 h2⟩⟩
  have q := v.ob i a o h1 h2
  obtain ⟨u, hu, ht, _⟩ := q.there
  exact q.put fun u' hu' => by
    rw [hu] at hu'
    cases hu'
    exact e a u hu ht
theorem heard_read {E : WX} {s : L2.St} {H : Hp} {Q : VK} {fb : Ws → Hv → Res W} (hexm : ∀ v b, exm v = some b → PySem.W.exmOne X.K (T.cv v) cx = some b) (hokc : ∀ v, exm v = some true → okc (T.cv v)) (hind : ∀ a j r h w h2, 1 < r.length → su j r h = .rt w h2 → sM a j (r.set 1 (some (.fix a))) h = .rt w h2)
    (h : tE T E (mHeard exm su fb) s H Q) : LamX.tLam T.tb (TTh X.K T cx okc sM) (fun E' => tE T (fun c d _ H' => E' c d H') fb) s H Q := by
  obtain ⟨ps, r, hv, es, vw, gd⟩ := h
  refine ⟨vw.tab, fun H1 eN tN => ?_⟩
  obtain ⟨vw1, st1⟩ := vw.ext eN tN
  have gd := Good.step gd st1
  refine ⟨ps, r, hv, es, vw1, ?_⟩
  unfold mHeard at gd
  cases q : fb r hv with
  | bad => rw [q] at gd; exact gd.elim
  | val w h1 => rw [q] at gd; exact gd
  | exc c d h1 =>
    rw [q] at gd
    cases d with
    | none => exact gd.elim
    | some j =>
      dsimp only at gd
      intro qs H' e st vw' dv
      obtain ⟨dd, ej, rfl⟩ := dv
      cases ex : exm c with
      | none => rw [ex] at gd; exact gd.elim
      | some b =>
        rw [ex] at gd
        cases b with
        | false => exact gd.elim
        | true =>
          dsimp only at gd
          cases z : su j [none, none] h1 with
          | nx _ _ => rw [z] at gd; exact gd.elim
          | bk _ _ => rw [z] at gd; exact gd.elim
          | ct _ _ => rw [z] at gd; exact gd.elim
          | exc _ _ _ _ => rw [z] at gd; exact gd.elim
          | bad => rw [z] at gd; exact gd.elim
          | rt w h2 =>
            rw [z] at gd
            refine ⟨true, hexm _ _ ex, fun _ D s2 a hD hl ha => ⟨hokc _ ex, j, dd, rfl, qs, [none, none].set 1 (some (.fix a)), h1, ?_, vw'.known ej, ?_⟩, fun z => by cases z⟩
            · have e0 : ES qs [none, none] s2 := ⟨by rw [hl]; rfl, fun i w e => by
                match i, e with
                | 0, e => cases e
                | 1, e => cases e
                | i + 2, e => simp at e⟩
              exact e0.set 1 rfl
            · rw [hind a j [none, none] h1 _ _ (by decide) z]
              intro rs H2 v st2 vw2 wv
              rw [hD]
              exact gd rs H2 v (st.trans st2) vw2.less wv
/-- heard(lambda: e) -/
theorem se_heard {k : Nat} {x a n e : Str} {g c P : Addr} {pg : Arguments} {sg : Scope} {dV kV doc pm cdv ct oc : Value} {an od : Option Addr} {osl : Array (Option Value)} {b0 : Stmt} {suite : List Stmt} {p1 p2 p3 p4 p7 p8 : Pos}
    {params : Arguments} {body : Expr} {scope : Scope} {fb : Ws → Hv → Res W} {p lpos pos : Pos}
    (hexm : ∀ v b, exm v = some b → PySem.W.exmOne X.K (T.cv v) cx = some b) (hokc : ∀ v, exm v = some true → okc (T.cv v)) (hind : ∀ a j r h w h2, 1 < r.length → su j r h = .rt w h2 → sM a j (r.set 1 (some (.fix a))) h = .rt w h2)
    (hm : X.mg x = some (.ref g)) (hk : PySem.W.keepIn X.K (.ref g) = true)
    (lk : X.K.lookup g = some ⟨oc, od, .func (PySem.W.fnOf x x pg [.Try [.Return (some (.Call (.Name a p1) [] [] p2)) p3] [.ExceptHandler (some (.Name e p4)) (some n) (b0 :: suite) p7] [] [] p8] sg dV kV doc pm an cdv ct), osl⟩) (hcg : PySem.W.codeIn X.K cdv x = true)
    (hb : L2.Binds X.K (PySem.W.fnOf x x pg [.Try [.Return (some (.Call (.Name a p1) [] [] p2)) p3] [.ExceptHandler (some (.Name e p4)) (some n) (b0 :: suite) p7] [] [] p8] sg dV kV doc pm an cdv ct) [a] []) (Sg : FnScope [a, n] [a] sg) (hva : Vis sg a)
    (hc : ∀ s H, Names (hCx X [a, n] x sg g cdv s H) e cx)
    (hsu : ∀ (s : Shared) (H : Hp) (ad : Addr) (oe : Obj) (cls : Value) (dd : Addr) (pn : List (Addr × Obj)) (j : Nat), okc cls → Zc cls (some dd) oe → (∃ vs, oe.data = .fields vs) → SSs (T.known j dd) ((hCx X [a, n] x sg g cdv s H).suite ad ((ad, oe) :: pn)) (b0 :: suite) (sM ad j))
    (hkn : sg.names.lookup n = some .local)
    (TB : LamX.TabB X.base X.mg c P) (hcode : X.env.code = .ref c) (hmT : (P, X.env.qual ++ "<lambda>") ∈ T.tb) (hu : ∀ p ∈ T.tb, p.1 = P → p.2 = X.env.qual ++ "<lambda>") (hr : Room (k + 2) X.A) (L : LamX.LamS X.env.scope scope) (hdef : defaultsOf params X.env = ([], [])) (hbind : ∀ (q : Str) (cl : List (Str × Addr)) (pm cv ctv : Value), bindArgs (PySem.W.kla_fn "<lambda>" q params body scope cl pm cv ctv) ⟨[], []⟩ = pure [])
    (hbody : ∀ (A : Around) (outer : List Env) (s : Shared) (H : Hp) (E : XK) (f c' : Addr), Room k (A.deeper (LamX.lamEnv X scope s.heap.objs.size f c')) → SE T (LamX.lamCx X A outer s H E scope f c') body fb)
    (hg : Gl X x := by rfl) (hdb : (x == ("__debug__" : Str)) = false := by decide) (hd : (a == ("__debug__" : Str)) = false := by decide) (hcd : (a == ("__classdict__" : Str)) = false := by decide) :
    SE T X (.Call (.Name x p) [.Lambda params body scope lpos] [] pos) (mHeard exm su fb) := fun E cn => by
  refine PEi (LamX.pe_lamcall (T := T.tb) (TT := TTh X.K T cx okc sM) (t := fun E' => tE T (fun c d _ H' => E' c d H') fb) hg hm hk lk hcg hb Sg rfl hva (heard_gives Sg.nd hc hsu hkn) TB hcode hmT hu hr L hdef hbind
    (fun A outer s H E' f c' hr' => hbody A outer s H E' f c' hr' _ ⟨takes_of rfl rfl rfl rfl, passes_of rfl⟩) hdb hd hcd) fun s H Q h => heard_read hexm hokc hind h
end
end VL
end
section
namespace VL
open PySem L2 PySem.Spec PyProof.Rows

/-! ### the end of a law -/
section
variable {P : Program} {w : World} {K : PySem.W.Frag} {mg mb : Str → Option Value} {k : Nat} {fa a : Addr} {cs : List (Addr × Addr)} {s1 : Shared} {vs : List Value} {ns : List Int} {T : Tx} {m : MFn}
theorem mem_lookup2 {l : List (Addr × Obj)} {b : Addr} {o : Obj} (h : l.lookup b = some o) : (b, o) ∈ l := by
  induction l with
  | nil => cases h
  | cons p r ih =>
    obtain ⟨c, u⟩ := p
    rw [List.lookup_cons] at h
    by_cases e : b = c
    · subst e
      simp at h
      rw [h]
      exact List.mem_cons_self
    · have e2 : (b == c) = false := by simpa using e
      rw [e2] at h
      exact .tail _ (ih h)
theorem paired_ints {ps : List Addr} : ∀ l : List Int, Paired (WV ps) (l.map W.int) (l.map V.int)
  | [] => .nil
  | _ :: r => .cons rfl (paired_ints r)
/-- the abstract heap at the law's entry: the script, and the tables of code objects -/
def entryH (a : Addr) (o : Obj) (xs : List V) (ts : List Addr) : Hp := fun b => if b = a then some (.frz o (.lst xs)) else if b ∈ ts then some (.tbl #[]) else none
theorem entry_a {o : Obj} {xs : List V} {ts : List Addr} : entryH a o xs ts a = some (.frz o (.lst xs)) := if_pos rfl
theorem entry_t {o : Obj} {xs : List V} {ts : List Addr} {b : Addr} (hb : b ∈ ts) (hn : b ≠ a) : entryH a o xs ts b = some (.tbl #[]) := (if_neg hn).trans (if_pos hb)
theorem entry_n {o : Obj} {xs : List V} {ts : List Addr} {b : Addr} (hb : b ∉ ts) (hn : b ≠ a) : entryH a o xs ts b = none := (if_neg hn).trans (if_neg hb)
theorem entry_some {o : Obj} {xs : List V} {ts : List Addr} {b : Addr} {u : HO} (h : entryH a o xs ts b = some u) : (b = a ∧ u = .frz o (.lst xs)) ∨ (b ≠ a ∧ b ∈ ts ∧ u = .tbl #[]) := by
  by_cases hb : b = a
  · left
    subst hb
    rw [entry_a] at h
    exact ⟨rfl, (Option.some.inj h).symm⟩
  · right
    by_cases ht : b ∈ ts
    · rw [entry_t ht hb] at h
      exact ⟨hb, ht, (Option.some.inj h).symm⟩
    · rw [entry_n ht hb] at h
      cases h
abbrev scrO (vs : List Value) : Obj := { cls := .type "list", data := .seq vs.toArray }
abbrev tabO : Obj := { cls := .none, data := .fields #[] }
theorem law_callV (KX : K.In s1.heap) (gl : s1.heap.Ns mainGlobals mg) (bl : s1.heap.Ns builtinsNs mb) (blb : ∀ x : Str, x ≠ "__name__" → mb x = bootBuiltins x) (lim : s1.heap.NoLimit) (hgens : s1.gens = #[])
    (tabs : ∀ p ∈ cs, s1.heap.get? p.2 = some tabO) (noK : ∀ p ∈ cs, K.lookup p.2 = none) (heads : ∀ p ∈ cs, PySem.W.CodeHd s1.heap p.1 p.2)
    (bmod : ∃ (bm : Addr) (ob : Obj), mg "__builtins__" = some (.ref bm) ∧ bm ≠ builtinsNs ∧ s1.heap.get? bm = some ob ∧ ob.cls = .type "module" ∧ ob.dict = some builtinsNs ∧ ob.data = .plain)
    (scr : s1.heap.get? a = some (scrO vs)) (nis : IntsAre vs ns) (len : ns.length ≤ sizeLine) (room : Room k callerA) (Kl : K.all (fun p => !(p.2.cls == .type "list")) = true)
    (inT : ∀ p ∈ T.tb, p.1 ∈ cs.map (·.2)) (fact : T.C [a]) (F : ∀ base : Heap, K.In base → base.Ns mainGlobals mg → (∀ p ∈ cs, LamX.TabB base mg p.1 p.2) → FnG P w K mg base T k fa 1 m)
    (mir : ∃ h', m [.ref 0] [.rol (ns.map W.int)] = .val (.bl true) h') :
    codeAny (model P w) callerA (.call (.ref fa) ⟨[.ref a], []⟩) (fun r s' => r = .ok (.ret (.bool true)) ∧ OldK s1.heap s'.heap ∧ s'.os = s1.os ∧ AllBare s'.gens) s1 := by
  have rel := vals_ints nis
  have tabAt : ∀ b ∈ cs.map (·.2), s1.heap.get? b = some tabO := fun b hb => by
    obtain ⟨p, hp, rfl⟩ := List.mem_map.mp hb
    exact tabs p hp
  have neT : ∀ b ∈ cs.map (·.2), b ≠ a := fun b hb z => by
    have q := tabAt b hb
    rw [z, scr] at q
    have q2 := congrArg Obj.data (Option.some.inj q)
    cases q2
  have noKa : K.lookup a = none := by
    cases e : K.lookup a with
    | none => rfl
    | some o =>
      have q := KX a o e
      rw [scr] at q
      have mem := mem_lookup2 e
      have z := List.all_eq_true.mp Kl _ mem
      have c : o.cls = .type "list" := by rw [← Option.some.inj q]
      simp [c] at z
  let H : Hp := entryH a (scrO vs) (ns.map V.int) (cs.map (·.2))
  have hok : HOk P w H s1.heap := fun b u e => by
    rcases entry_some e with ⟨rfl, rfl⟩ | ⟨_, ht, rfl⟩
    · exact ⟨scr, by rw [List.length_map]; exact len, vs, _, rel, scr⟩
    · exact tabAt b ht
  -- what is not the script and no table is not tracked
  have free : ∀ {b : Addr} {o : Obj}, s1.heap.get? b = some o → (∀ z n, o.data ≠ .seq z n) → o.data ≠ .fields #[] → H b = none := fun {b o} e n1 n2 => by
    by_cases hb : b = a
    · subst hb
      rw [scr] at e
      cases e
      exact absurd rfl (n1 vs.toArray _)
    · by_cases ht : b ∈ cs.map (·.2)
      · rw [tabAt b ht] at e
        cases e
        exact absurd rfl n2
      · exact entry_n ht hb
  have nsFree : ∀ {b : Addr} {f : Str → Option Value}, s1.heap.Ns b f → (hidT s1.heap H).Ns b f := fun {b f} ⟨o, es, ep, e, d, r⟩ => by
    refine ⟨o, es, ep, hidT_get e (free e (fun z n q => ?_) fun q => ?_), d, r⟩
    · rw [d] at q; cases q
    · rw [d] at q; cases q
  have KB : K.In (hidT s1.heap H) := fun b o e => by
    have nb : b ≠ a := fun z => by rw [z, noKa] at e; cases e
    have nt : b ∉ cs.map (·.2) := fun z => by
      obtain ⟨p, hp, rfl⟩ := List.mem_map.mp z
      rw [noK p hp] at e; cases e
    exact hidT_get (KX b o e) (entry_n nt nb)
  have MD : L2.Mod K mg (hidT s1.heap H) := by
    obtain ⟨mc, l1, l2⟩ := lim
    exact ⟨KB, nsFree gl, ⟨mb, nsFree bl, blb⟩, mc, nsFree l1, l2⟩
  have TB : ∀ p ∈ cs, LamX.TabB (hidT s1.heap H) mg p.1 p.2 := fun p hp => by
    obtain ⟨og, eg, epg, hg0, dg, rg⟩ := id gl
    have tp := tabs p hp
    refine ⟨?_, ?_, fun z => ?_⟩
    · obtain ⟨o, us, file, tf, flags, tg, inF, text, tt, e1, q1, q2, q3, q4, q5, q6, q7, q8, hne⟩ := heads p hp
      refine ⟨o, us, file, tf, flags, tg, inF, text, tt, hidT_get e1 (free e1 (fun z n q => ?_) fun q => ?_), q1, q2, q3, q4, q5, q6, q7, q8, hne⟩
      · rw [q2] at q; cases q
      · rw [q2] at q; cases q; simp at q3
    · obtain ⟨bm, ob, e1, e2, e3, e4, e5, e6⟩ := bmod
      refine ⟨bm, ob, e1, e2, fun z => ?_, fun z => ?_, hidT_get e3 (free e3 (fun z n q => ?_) fun q => ?_), e4, e5, e6⟩
      · rw [z, hg0] at e3; cases e3; rw [dg] at e6; cases e6
      · rw [z, tp] at e3; cases e3; cases e6
      · rw [e6] at q; cases q
      · rw [e6] at q; cases q
    · rw [z, tp] at hg0; cases hg0; cases dg
  have E0 : Env0 P w K mg (hidT s1.heap H) callerA [] s1 H := ⟨rfl, MD, fun b o e => of_hidT e, Nat.le_of_eq (hidT_size _ _), trivial, (fun b hb => by cases hb), hok, .of_eq hgens⟩
  -- the view at the entry
  have view : View T [a] [.rol (ns.map W.int)] H := by
    refine ⟨rfl, by simp, fun i b o e1 e2 => ?_, fun p hp => ?_, fact⟩
    · match i, e1, e2 with
      | 0, e1, e2 =>
        cases e1; cases e2
        refine ⟨ns.map V.int, scrO vs, ?_, entry_a⟩
        exact paired_ints ns
      | i + 1, e1, e2 => simp at e1
    · exact LamX.TabS.nil (entry_t (inT p hp) (neT _ (inT p hp)))
  obtain ⟨h', em⟩ := mir
  have prom : spV T 1 m [.ref a] H (fun v _ => v = .bl true) (fun _ _ _ => False) := ⟨rfl, [a], _, [.ref 0], view, .cons ⟨a, rfl, rfl⟩ .nil, by
    rw [em]
    exact fun qs H' v _ _ wv => wv⟩
  refine codeAny_mono ((F _ KB (nsFree gl) TB).run callerA [] s1 H [.ref a] [.ref a] _ _ room rfl E0 (.cons rfl .nil) prom) fun fin s' hq => ?_
  match fin, hq with
  | .error e, hq =>
    obtain ⟨_, _, _, _, _, _, _, _, _, _, _, _, z⟩ := hq
    exact z.elim
  | .ok .next, hq => exact hq.elim
  | .ok .brk, hq => exact hq.elim
  | .ok .cont, hq => exact hq.elim
  | .ok (.ret u), hq =>
    obtain ⟨v, H2, e1, e2, un, hok2, rv, q⟩ := hq
    cases q
    cases rv
    have kept : ∀ b o, b ∉ cs.map (·.2) → s1.heap.get? b = some o → s'.heap.get? b = some o := fun b o nt e => by
      by_cases hb : b = a
      · subst hb
        have z2 := hok2 b _ (un.frzs b _ _ entry_a)
        rw [scr] at e
        cases e
        exact z2.1
      · exact un.keep b o e (entry_n nt hb) (fun z => by cases z) (fun z => by cases z)
    have grown : ∀ c ∈ cs, ∃ ys : Array Value, s'.heap.get? c.2 = some { cls := .none, data := .fields ys } := fun c hc => by
      have mc : c.2 ∈ cs.map (·.2) := List.mem_map.mpr ⟨c, hc, rfl⟩
      obtain ⟨ys, z⟩ := un.tbls c.2 #[] (entry_t mc (neT _ mc))
      exact ⟨_, hok2 c.2 _ z⟩
    have part : ∀ b, (∃ c, c ∈ cs ∧ c.2 = b) ∨ b ∉ cs.map (·.2) := fun b => (Classical.em (b ∈ cs.map (·.2))).imp List.mem_map.mp id
    refine ⟨rfl, ⟨fun b o e => ?_, fun b o e => ?_⟩, e1, e2⟩
    · rcases part b with ⟨c, hc, rfl⟩ | nb
      · obtain ⟨ys, hy⟩ := grown c hc
        rw [tabs c hc] at e; cases e
        exact .inr (.inl ⟨((heads c hc).tab (tabs c hc)).isCodeTable, rfl, #[], ys, rfl, by rw [Array.empty_append]; exact hy⟩)
      · exact .inl (kept b o nb e)
    · rcases part b with ⟨c, hc, rfl⟩ | nb
      · obtain ⟨ys, hy⟩ := grown c hc; exact ⟨_, hy⟩
      · exact ⟨o, kept b o nb e⟩
end
end VL
end
section
namespace VL
open PySem L2 PySem.Spec PyProof.Rows

/-! ### {} -/
section
variable {T : Tx} {X : Cx} {pos : Pos}
theorem se_dict0 : SE T X (.Dict [] [] pos) (fun _ h => mNew (.dic []) h) := fun E cn => PEi pe_dnewK fun s H Q ⟨ps, r, h, es, vw, gd⟩ p hp => good_new vw gd (fun H' p' e => ⟨[], .nil, e⟩) hp
/-! ### repr, {} too -/
def mReprE : MFn := fun ws h => match ws with
  | [.ref p] => (match h[p]? with
    | some (.dic []) => .val (.str ("{}" : Str)) h
    | _ => mRepr ws h)
  | _ => mRepr ws h
def rReprE (K : PySem.W.Frag) : List V → Hp → VK → Prop := fun xs H Q => (∃ a, xs = [.ref a] ∧ H a = some (.dK []) ∧ Q (.str ("{}" : Str)) H) ∨ rRepr K xs H Q
theorem rc_reprE : RC T (rReprE X.K) mReprE := by
  intro ps h H ws vs Q E vw wv gd
  unfold mReprE at gd
  split at gd
  · split at gd
    · rename_i e1
      obtain ⟨v, rfl, a, ea, rfl⟩ := one_of wv
      obtain ⟨kv, rr, eH⟩ := vw.ob _ a _ ea e1
      cases rr
      exact .inl ⟨a, rfl, eH, Good.now gd vw rfl⟩
    · exact .inr (rc_repr ps h H _ vs Q E vw wv gd)
  · exact .inr (rc_repr ps h H _ vs Q E vw wv gd)
theorem call_reprE (hg : X.A.guards = some []) (hu : X.A.units + 64 < cLine) : CallR X (.builtin "repr") (rReprE X.K) := by
  intro pins s σ H xs us Q I r h; rcases h with ⟨a, rfl, ea, q⟩ | h
  · obtain ⟨u, rfl, ru⟩ := vals1 r
    cases ru
    have hob : ObjOk X.prog X.w H s.heap a (.dK []) := I.hok a _ ea
    obtain ⟨_, hsm, kv, rkv, o, es, ep, h1, h2, h3, h4, h5, _⟩ := hob
    cases rkv
    have e0 : es.toList = [] := by
      cases q : es.toList with
      | nil => rfl
      | cons a b => rw [q] at h5; cases h5
    have rd : Reads s.heap (.ref a) (.dict []) ([a] ++ [] ++ []) := .dict (kvs := []) h1 h2.1 h3 (by rw [e0]; exact .nil) (by rw [e0]; exact .nil)
    have ns : sysModules ∉ ([a] ++ [] ++ [] : List Addr) := by
      have z : ¬ a = sysModules := by simpa using hsm
      simpa using fun q => z q.symm
    have sh : (PyData.dict []).shown = ("{}" : Str) := by decide +kernel
    have dp : (PyData.dict []).depth ≤ 60 := by decide +kernel
    have un : X.A.units + ((PyData.dict []).depth + 1) < cLine := by omega
    refine repr_of_reads' rd (by decide +kernel) (fun _ => ns) hg un (fun _ _ e => e) (fun h' u tk hk => ?_) (by rw [sh]; decide)
    rw [sh]
    exact ⟨.str _, H, I.kept hk, ⟨_, rfl⟩, q⟩
  · exact call_reprD hg hu pins s σ H xs us Q I r h
end

/-! ### a suite that returns an expression -/
theorem hind_ret {i : Nat} {fA : Addr → Nat → Ws → Hv → Res W} {f : Nat → Ws → Hv → Res W} (hf : ∀ a j r h, i < r.length → fA a j (r.set i (some (.fix a))) h = f j r h) (a : Addr) (j : Nat) (r : Ws) (h : Hv) (w : W) (h2 : Hv) (hl : i < r.length)
    (e : mRet (f j) r h = .rt w h2) : mRet (fA a j) (r.set i (some (.fix a))) h = .rt w h2 := by
  unfold mRet at e ⊢
  rw [hf a j r h hl]
  cases q : f j r h with
  | val w1 h1 => rw [q] at e; exact e
  | exc c d h1 => rw [q] at e; cases e
  | bad => rw [q] at e; cases e
theorem mXfA_at {i : Nat} {a : Addr} {j : Nat} {f : Str} {r : Ws} {h : Hv} (hl : i < r.length) : mXfA i a j f (r.set i (some (.fix a))) h = mXf j f r h := by
  unfold mXfA
  rw [List.getElem?_set_self hl]
  simp [mXf]
/-- the errors of these classes are taken -/
def exmC (cs : List String) : String → Option Bool := fun n => if cs.contains n then some true else none
theorem exmC_ok {K : PySem.W.Frag} {T : Tx} {n : String} {v : Value} (h : PySem.W.exmOne K (T.cv n) v = some true) : ∀ m b, exmC [n] m = some b → PySem.W.exmOne K (T.cv m) v = some b := fun m b e => by
  unfold exmC at e
  split at e
  · rename_i z
    have z2 : m = n := by simpa using z
    subst z2
    cases e
    exact h
  · cases e
theorem exmC_c {n m : String} (e : exmC [n] m = some true) : m = n := by
  unfold exmC at e
  split at e
  · rename_i z
    simpa using z
  · cases e
/-! ### a call that needs nothing of the view, and hands back a plain value -/
def plainW : W → Bool
  | .ref _ => false
  | _ => true
def mFresh (m : MFn) : Ws → Hv → Res W := fun _ h => match m [] [] with
  | .val w _ => if plainW w then .val w h else .bad
  | _ => .bad
theorem plainW_any {w : W} (hp : plainW w = true) {ps qs : List Addr} {v : V} (h : WV ps w v) : WV qs w v := by
  cases w with
  | ref i => cases hp
  | non => exact h
  | bl b => exact h
  | int b => exact h
  | str b => exact h
  | fix b => exact h
  | ty b => exact h
theorem View.nil {T : Tx} {ps : List Addr} {h : Hv} {H : Hp} (v : View T ps h H) (hC : T.C []) : View T [] [] H := ⟨rfl, List.nodup_nil, fun i a o e _ => by simp at e, v.tab, hC⟩
theorem View.over {T : Tx} {ps qs : List Addr} {h h' : Hv} {H H1 : Hp} (v : View T ps h H) (s : Step [] H qs H1) (v1 : View T qs h' H1) : View T ps h H1 ∧ Step ps H ps H1 := by
  have keep : ∀ a o, H a = some o → (∀ z, o ≠ .tbl z) → H1 a = some o := fun a o e ht => s.fr a o e ht (by simp)
  refine ⟨⟨v.len, v.nd, fun i a o e1 e2 => ?_, v1.tab, v.fact⟩, ⟨List.prefix_refl _, fun _ _ h n _ => absurd h n, fun a o e ht _ => keep a o e ht⟩⟩
  have q := v.ob i a o e1 e2
  obtain ⟨u, hu, ht, _⟩ := q.there
  exact q.put fun u' hu' => by
    rw [hu] at hu'
    cases hu'
    exact keep a u hu ht
section
variable {T : Tx} {X : Cx} {f : Addr} {m : MFn} {x : Str} {p pos : Pos}
theorem se_fresh (C : Can T X f 0 m) (hC : T.C []) (hg : Gl X x) (hm : X.mg x = some (.ref f)) (hk : PySem.W.keepIn X.K (.ref f) = true) (hdb : (x == ("__debug__" : Str)) = false := by decide) : SE T X (.Call (.Name x p) [] [] pos) (mFresh m) := fun E cn => ⟨fun pins s σ H Q I h => by
  refine wpAny_Call_Name_kw (ld_glob (X := X) I hg hm ?_ hdb)
  obtain ⟨ps, r, hv, es, vw, gd⟩ := h
  refine PySem.W.callWith_K0 I.kIn hk (C.wp (us := []) cn I .nil ⟨rfl, [], [], [], vw.nil hC, .nil, ?_⟩)
  unfold mFresh at gd
  cases q : m [] [] with
  | bad => rw [q] at gd; exact gd.elim
  | exc c d h1 => rw [q] at gd; exact gd.elim
  | val w h1 =>
    rw [q] at gd
    dsimp only at gd
    split at gd
    · rename_i hp
      intro qs H' v st vw' wv
      obtain ⟨v2, s2⟩ := vw.over st vw'
      exact gd ps H' v s2 v2 (plainW_any hp wv)
    · exact gd.elim⟩
end

/-! ### the walk -/
/-- what is known of the law at the head's heap h -/
def LawV (l : PySem.W.OpenLaw) (w : World) (K : PySem.W.Frag) (k n : Nat) (mg : Str → Option Value) (fa : Addr) (h : Heap) : Prop :=
  ∃ (cs : List (Addr × Addr)) (T : Tx) (m : MFn), (∀ p ∈ cs, h.get? p.2 = some tabO) ∧ (∀ p ∈ cs, K.lookup p.2 = none) ∧ (∀ p ∈ cs, PySem.W.CodeHd h p.1 p.2) ∧ K.all (fun p => !(p.2.cls == .type "list")) = true ∧ (∀ p ∈ T.tb, p.1 ∈ cs.map (·.2)) ∧ (∀ a, T.C [a]) ∧
    (∀ base : Heap, K.In base → base.Ns mainGlobals mg → (∀ p ∈ cs, LamX.TabB base mg p.1 p.2) → FnG l.prog w K mg base T k fa 1 m) ∧
    ∀ ns : List Int, ns.length ≤ n → (∀ z ∈ ns, Builtin.Int.intBits z ≤ 1048576) → ∃ h', m [.ref 0] [.rol (ns.map W.int)] = .val (.bl true) h'
theorem walk_V {l : PySem.W.OpenLaw} {n k : Nat} {q : Program} {loose : List Str} {XP : (Str → Option Value) → Heap → Prop} {YP : World → Heap → Prop} {d : DefRec} {K : Params → PySem.W.Frag} (hn : l.most = some n) (hn2 : n ≤ sizeLine) (hdf : d.params.defaults = []) (hr : Room k callerA)
    (hY : ∀ (w : World) (h : Heap), YP w h → (K w.params).In h) (F : ∀ (w : World) (mg : Str → Option Value) (fa : Addr) (h : Heap), YP w h → (K w.params).In h → h.Ns mainGlobals mg → mg d.name = some (.ref fa) → LawV l w (K w.params) k n mg fa h) :
    PySem.W.WalkO q loose XP YP l.row.toRowW d [] (fun f vs => PySem.call f vs) := Att.attach_callB hn hdf fun w s0 s1 mg mb fa o pm cd doc a vs ns G Y ho hd hcd hmg hobj hints hlen hbits hg => by
  have KX := hY w _ Y
  obtain ⟨cs, T, m, h1, h2, h3, h4, h5, h6, h7, h8⟩ := F w mg fa _ Y KX G.T.g hmg
  exact law_callV KX G.T.g G.T.b G.T.builtins G.T.nolimit hg h1 h2 h3 G.T.bmain hobj hints (Nat.le_trans hlen hn2) hr h4 h5 (h6 a) h7 (h8 ns hlen hbits)
end VL
end
section
namespace VL
open PySem L2
/-! ### the mirrors' operations on known values -/
section
variable {i j : Int} {h : Hv}
@[simp] theorem mAdd_int : mAdd (.int i) (.int j) h = .val (.int (i + j)) h := rfl
@[simp] theorem mSub_int : mSub (.int i) (.int j) h = .val (.int (i - j)) h := rfl
theorem mMul_int (hb : i.natAbs.log2 + j.natAbs.log2 < 1000000) : mMul (.int i) (.int j) h = .val (.int (i * j)) h := by
  simp [mMul, mulB, hb]
theorem mDiv_int (h1 : j ≠ 0) (h2 : j.natAbs.log2 < 9000) : mDiv (.int i) (.int j) h = .val (.int (i.fdiv j)) h := by
  simp [mDiv, mI, divB, h1, h2]
theorem mMod_int (h1 : j ≠ 0) : mMod (.int i) (.int j) h = .val (.int (i.fmod j)) h := by
  simp [mMod, mI, h1]
theorem mPow_int (h1 : 0 ≤ j) (h2 : j ≤ 1000000) (h3 : i.natAbs < 2 ^ 64) : mPow (.int i) (.int j) h = .val (.int (i ^ j.toNat)) h := by
  have e : powB i j = true := by
    simp only [powB, Bool.and_eq_true, decide_eq_true_eq]
    exact ⟨h1, h2, h3⟩
  simp [mPow, mI, e]
@[simp] theorem mLt_int : mLt (.int i) (.int j) h = .val (.bl (decide (i < j))) h := rfl
@[simp] theorem mLe_int : mLe (.int i) (.int j) h = .val (.bl (decide (i ≤ j))) h := rfl
@[simp] theorem mGt_int : mGt (.int i) (.int j) h = .val (.bl (decide (j < i))) h := rfl
@[simp] theorem mGe_int : mGe (.int i) (.int j) h = .val (.bl (decide (j ≤ i))) h := rfl
@[simp] theorem mNeg_int : mNeg (.int i) h = .val (.int (-i)) h := rfl
@[simp] theorem mAbs_int : mAbs [.int i] h = .val (.int (i.natAbs : Int)) h := by
  have e : (if i < 0 then -i else i) = (i.natAbs : Int) := by split <;> omega
  simp [mAbs, e]
@[simp] theorem mMax_int : mMax [.int i, .int j] h = .val (.int (max i j)) h := by
  have e : (if j > i then j else i) = max i j := by split <;> omega
  simp [mMax, e]
@[simp] theorem mInt_int : mInt [.int i] h = .val (.int i) h := rfl
@[simp] theorem mInt_bl {b : Bool} : mInt [.bl b] h = .val (.int (if b then 1 else 0)) h := rfl
theorem shaped_int (i : Int) : SeqAt.shaped (.int i) = true := by
  simp [SeqAt.shaped, PyData.canLay0, PyData.depth]
theorem shaped_bool (b : Bool) : SeqAt.shaped (.bool b) = true := by
  simp [SeqAt.shaped, PyData.canLay0, PyData.depth]
@[simp] theorem mEq_int : mEq false (.int i) (.int j) h = .val (.bl (decide (i = j))) h := by
  have e1 : toD dF h (.int i) = some (.int i) := rfl
  have e2 : toD dF h (.int j) = some (.int j) := rfl
  simp [mEq, e1, e2, shaped_int, PyData.eqv, Bool.beq_eq_decide_eq]
@[simp] theorem mNe_int : mEq true (.int i) (.int j) h = .val (.bl (decide (i ≠ j))) h := by
  have e1 : toD dF h (.int i) = some (.int i) := rfl
  have e2 : toD dF h (.int j) = some (.int j) := rfl
  simp [mEq, e1, e2, shaped_int, PyData.eqv, Bool.beq_eq_decide_eq]
@[simp] theorem mNe_bl {a b : Bool} : mEq true (.bl a) (.bl b) h = .val (.bl (decide (a ≠ b))) h := by
  have e1 : toD dF h (.bl a) = some (.bool a) := rfl
  have e2 : toD dF h (.bl b) = some (.bool b) := rfl
  cases a <;> cases b <;> simp [mEq, e1, e2, shaped_bool, PyData.eqv]
end
/-! ### and of the pieces -/
section
variable {α β : Type} {a : α} {h : Hv} {k : α → Hv → Res β} {ks : α → Hv → ResS} {r : Ws} {c : String} {d : Option Nat}
@[simp] theorem bind_val : (Res.val a h).bind k = k a h := rfl
@[simp] theorem bind_exc : (Res.exc c d h : Res α).bind k = .exc c d h := rfl
@[simp] theorem andS_val : (Res.val a h).andS r ks = ks a h := rfl
@[simp] theorem andS_exc : (Res.exc c d h : Res α).andS r ks = .exc c d r h := rfl
@[simp] theorem asB_bl {b : Bool} : asB (.bl b) h = .val b h := rfl
@[simp] theorem mC_eq {w : W} : mC w r h = .val w h := rfl
@[simp] theorem mNil_eq : mNil r h = .val [] h := rfl
@[simp] theorem mNext_eq : mNext r h = .nx r h := rfl
@[simp] theorem m2_eq {g : MOp} {fa fb : Ws → Hv → Res W} : m2 g fa fb r h = (fa r h).bind fun x h1 => (fb r h1).bind fun y h2 => g x y h2 := rfl
@[simp] theorem m1_eq {g : W → Hv → Res W} {fa : Ws → Hv → Res W} : m1 g fa r h = (fa r h).bind g := rfl
@[simp] theorem mCons_eq {f : Ws → Hv → Res W} {g : Ws → Hv → Res (List W)} : mCons f g r h = (f r h).bind fun w h1 => (g r h1).bind fun ws h2 => .val (w :: ws) h2 := rfl
@[simp] theorem mB_eq {m : MFn} {g : Ws → Hv → Res (List W)} : mB m g r h = (g r h).bind m := rfl
@[simp] theorem mT_eq {f : Ws → Hv → Res W} : mT f r h = (f r h).bind asB := rfl
@[simp] theorem mNotT_eq {t : Ws → Hv → Res Bool} : mNotT t r h = (t r h).bind fun b h1 => .val (!b) h1 := rfl
@[simp] theorem mAndT_eq {t u : Ws → Hv → Res Bool} : mAndT t u r h = (t r h).bind fun b h1 => if b then u r h1 else .val false h1 := rfl
@[simp] theorem mOrT_eq {t u : Ws → Hv → Res Bool} : mOrT t u r h = (t r h).bind fun b h1 => if b then .val true h1 else u r h1 := rfl
@[simp] theorem mNotV_eq {f : Ws → Hv → Res W} : mNotV f r h = (mT f r h).bind fun b h1 => .val (.bl (!b)) h1 := rfl
@[simp] theorem mAndV_eq {f g : Ws → Hv → Res W} : mAndV f g r h = (mT f r h).bind fun b h1 => if b then g r h1 else .val (.bl false) h1 := rfl
@[simp] theorem mOrV_eq {f g : Ws → Hv → Res W} : mOrV f g r h = (mT f r h).bind fun b h1 => if b then .val (.bl true) h1 else g r h1 := rfl
@[simp] theorem mIf_eq {t : Ws → Hv → Res Bool} {f g : Ws → Hv → Res W} : mIf t f g r h = (t r h).bind fun b h1 => if b then f r h1 else g r h1 := rfl
@[simp] theorem mExpr_eq {f : Ws → Hv → Res W} : mExpr f r h = (f r h).andS r fun _ h1 => .nx r h1 := rfl
@[simp] theorem mRet_eq {f : Ws → Hv → Res W} : mRet f r h = (f r h).andS r fun w h1 => .rt w h1 := rfl
@[simp] theorem mSet_eq {i : Nat} {f : Ws → Hv → Res W} : mSet i f r h = (f r h).andS r fun w h1 => .nx (r.set i (some w)) h1 := rfl
@[simp] theorem mIfS_eq {t : Ws → Hv → Res Bool} {f g : MS} : mIfS t f g r h = (t r h).andS r fun b h1 => if b then f r h1 else g r h1 := rfl
@[simp] theorem mTup_eq {g : Ws → Hv → Res (List W)} : mTup g r h = (g r h).bind fun ws h1 => if ws.length ≤ 100000 then mNew (.tup ws) h1 else .bad := rfl
@[simp] theorem mLst_eq {g : Ws → Hv → Res (List W)} : mLst g r h = (g r h).bind fun ws h1 => if ws.length ≤ 100000 then mNew (.lst ws) h1 else .bad := rfl
@[simp] theorem mCall_eq {n : Nat} {m : MFn} {g : Ws → Hv → Res (List W)} : mCall n m g r h = (g r h).bind fun ws h1 => if ws.length = n then m ws h1 else .bad := rfl
@[simp] theorem mNew_eq {o : O} : mNew o h = .val (.ref h.length) (h ++ [o]) := rfl
@[simp] theorem mGn_eq {i : Nat} {w : W} : mGn i w r h = .nx (r.set i (some w)) h := rfl
/-- one statement behind another -/
def thenS (x : ResS) (g : MS) : ResS := match x with
  | .nx r1 h1 => g r1 h1
  | y => y
@[simp] theorem mSeq_eq {f g : MS} : mSeq f g r h = thenS (f r h) g := rfl
@[simp] theorem thenS_nx {g : MS} : thenS (.nx r h) g = g r h := rfl
@[simp] theorem thenS_rt {g : MS} {w : W} : thenS (.rt w h) g = .rt w h := rfl
@[simp] theorem thenS_exc {g : MS} : thenS (.exc c d r h) g = .exc c d r h := rfl
/-- a def's end -/
def endS (x : ResS) : Res W := match x with
  | .rt w h1 => .val w h1
  | .nx _ h1 => .val .non h1
  | .exc c d _ h1 => .exc c d h1
  | _ => .bad
theorem mDef_eq {N : List Str} {b : MS} {ws : List W} : mDef N b ws h = endS (b (startW N ws) h) := by
  unfold mDef endS
  rfl
@[simp] theorem endS_rt {w : W} : endS (.rt w h) = .val w h := rfl
@[simp] theorem endS_nx : endS (.nx r h) = .val .non h := rfl
@[simp] theorem endS_exc : endS (.exc c d r h) = .exc c d h := rfl
end
@[simp] theorem mVar0 {w : W} {r : Ws} {h : Hv} : mVar 0 (some w :: r) h = .val w h := rfl
@[simp] theorem mVarS {i : Nat} {x : Option W} {r : Ws} {h : Hv} : mVar (i + 1) (x :: r) h = mVar i r h := rfl
/-! ### items -/
theorem mIx_tup {p : Nat} {h : Hv} {xs : List W} {i : Int} {w : W} (e : h[p]? = some (.tup xs)) (ei : atI xs i = some w) : mIx (.ref p) (.int i) h = .val w h := by
  simp [mIx, e, ei, ofO]
theorem mIx_lst {p : Nat} {h : Hv} {xs : List W} {i : Int} {w : W} (e : h[p]? = some (.lst xs)) (ei : atI xs i = some w) : mIx (.ref p) (.int i) h = .val w h := by
  simp [mIx, e, ei, ofO]
@[simp] theorem atI0 {α : Type} {x : α} {xs : List α} : atI (x :: xs) 0 = some x := atI_nat (j := 0) rfl
@[simp] theorem atI1 {α : Type} {x y : α} {xs : List α} : atI (x :: y :: xs) 1 = some y := atI_nat (j := 1) rfl
theorem get_last {h : Hv} {o : O} : (h ++ [o])[h.length]? = some o := by simp
theorem get_old {h : Hv} {t : Hv} {p : Nat} {o : O} (e : h[p]? = some o) : (h ++ t)[p]? = some o := by
  rw [List.getElem?_append_left (List.getElem?_eq_some_iff.mp e).1]
  exact e
end VL
end
section
/-! ### isinstance of a caught error that bears fields -/
namespace VX
open PySem PySem.W PySem.Spec PySem.Calls PyProof.Rows
variable {prog : Program} {w : World} {A : Around} {E : Value → Shared → Prop} {s : Shared} {K : Frag} {x D : Addr} {ox : Obj} {od : Option Obj}
theorem found_cls (Z : L2.ExcC K D) : findObj K D od "__class__" = some (.bind (.builtin "getset_descriptor.__get__") (.builtin "object.__class__")) := by
  obtain ⟨cd, hc, _⟩ := any_some Z.hd
  simp only [findObj, hc, Z.ha, Z.hn, Z.ht, Option.bind_some]
theorem cls_of {Q : Option Value → Shared → Prop} (Z : L2.ExcC K D) (X : K.In s.heap) (I : W.InstAt s.heap x ox D od) (h : Q (some (.ref D)) { s with toks := s.toks + 1 }) : wpAny (model prog w) A (getAttr? (.ref x) "__class__") Q E s := by
  obtain ⟨hp, g, d, t, os⟩ := s
  have T0 := I.type (M := model prog w)
  have T1 := looks_findIn (M := model prog w) X Z.hg
  have T2 := looks_findIn (M := model prog w) X Z.hk
  have T3 := looks_find (M := model prog w) X I (found_cls (od := od) Z)
  have sb : Looks (model prog w) hp (isInstance (.ref x) (.type "BaseException")) true := T0.andThen (looks_subIn X Z.hs)
  have n0 : (false && onTheHeap (Value.builtin "BaseException.__getattribute__")) = false := rfl
  have n2 : (Value.builtin "BaseException.__getattribute__" == Value.builtin "object.__getattribute__") = false := by decide +kernel
  have n1 : (onTheHeap (Value.ref D) && Value.builtin "BaseException.__getattribute__" == Value.builtin "object.__getattribute__") = false := by rw [n2, Bool.and_false]
  unfold getAttr? getAttrBy? getAttrBy; refine wpAny_bind (wpAny_mkText (wpAny_bind (wpAny_attempt (wpAny_holding (wpAny_bind (T0.at (wpAny_bind (T1.at ?_))))))))
  show wpAny _ _ (if (onTheHeap (Value.ref D) && Value.builtin "BaseException.__getattribute__" == Value.builtin "object.__getattribute__") = true then _ else _) _ _ _; rw [n1, if_neg Bool.false_ne_true]
  unfold getAttrByItsOwn hookBefore; refine wpAny_bind ?_
  rw [if_pos (show onTheHeap (Value.ref D) = true from rfl)]; refine T2.at (wpAny_bind (wpAny_attempt (wpAny_holding ?_)))
  unfold callGetattribute; rw [n0, if_neg Bool.false_ne_true]
  unfold boundAndCalled; rw [PySem.F.excAttr_ValueError.ga.bind (.ref x)]
  refine wpAny_bind (wpAny_pure ?_); show wpAny _ _ (call (.builtin "BaseException.__getattribute__") [.ref x, .str "__class__" t]) _ _ _
  refine wpAny_call (codeAny_call_builtin PySem.F.excAttr_ValueError.ga.plain PySem.F.entry_bexc_ga ?_); refine @check_slot (model prog w) _ _ ⟨hp, g, d, t + 1, os⟩ "BaseException.__getattribute__" "BaseException" "__getattribute__" (.ref x) [.str "__class__" t] [] _ (by decide +kernel) (by decide +kernel) sb (PySem.F.args_bexc_ga (.ref x) (.str "__class__" t)) ?_
  unfold Builtin.«object.__getattribute__»; refine wpAny_bind (wpAny_of_eq (a := ((Value.ref x : Value), [Value.str "__class__" t])) (by first | rfl | (simp only [slotArgs]; rfl)) ?_)
  refine wpAny_bind (wpAny_pure (wpAny_bind (T0.at (wpAny_bind (T3.at ?_))))); show wpAny _ _ (holding [Value.builtin "object.__class__"] (call (.builtin "getset_descriptor.__get__") [.builtin "object.__class__", .ref x, .ref D]) >>= ret) _ _ _
  refine wpAny_bind (wpAny_holding (wpAny_call (class_get (s := ⟨hp, g, d, t + 1, os⟩) (ox := ox) (od := od) X I Z.hm ?_))); refine wpAny_pure ?_
  show wpAny _ _ (handedOut (.ref D)) _ _ _; rw [handedOut_of (v := .ref D) rfl]
  first | exact wpAny_pure (wpAny_pure h) | exact wpAny_pure h | exact wpAny_pure (wpAny_bind (wpAny_pure (wpAny_pure h)))
theorem kit_of (Z : L2.ExcC K D) : KitX K (.ref x) (.ref D) (fun h => ∃ od, W.InstAt h x ox D od) where
  ty := fun _ _ _ ⟨_, I⟩ => I.type
  it := fun M h X _ => by
    obtain ⟨cd, hc, _⟩ := any_some Z.hd
    unfold clsIn at hc; split at hc
    · rename_i c1 d1 cd1 sl1 ho; intro A1 Q1 E1 s1 k q; unfold isType loadHead; exact wpAny_bind (wpAny_loadPart (k _ _ (X _ _ ho)) (wpAny_pure q))
    · cases hc
  ne := fun h tp dd its n sl X htp => (W.handS_kitx_exc (x := x) (ox := ox) Z.hg Z.hk Z.hs Z.hd Z.ha Z.hn Z.ht Z.hm).ne h tp dd its n sl X htp
  ca := fun X ⟨od, I⟩ k => cls_of Z X I k
end VX
namespace VL
open PySem L2 PySem.Spec PyProof.Rows
/-- isinstance(e, c), e the caught error, its fields at dd -/
def rIsF (K : PySem.W.Frag) (D a dd : Addr) : List V → Hp → VK → Prop := fun xs H Q => ∃ (c : V) (cv : Value) (b : Bool) (fs : List (Str × V)), xs = [.ref a, c] ∧ (∀ u, RelV c u → u = cv) ∧ PySem.W.kitOne K (.ref D) cv = some b ∧ H dd = some (.xd fs) ∧ Q (.bl b) H
theorem call_isF {X : Cx} {a D dd : Addr} {oe : Obj} {pn : List (Addr × Obj)} (Z : ExcC X.K D) (hz : Zc (.ref D) (some dd) oe) (hf : ∃ vs, oe.data = .fields vs) : CallR (X.suite a ((a, oe) :: pn)) (.builtin "isinstance") (rIsF X.K D a dd) := by
  intro pins s σ H xs us Q I r h; obtain ⟨c, cv, b, fs, rfl, hcv, e, ea, q⟩ := h
  cases r with
  | cons rx rr => cases rr with
    | cons rt rr =>
      cases rr; cases rx; obtain rfl := hcv _ rt
      obtain ⟨hget, _⟩ := I.pin (a, oe) (List.mem_append_left _ List.mem_cons_self)
      obtain ⟨vs, hv⟩ := hf
      have hx : ObjOk X.prog X.w H s.heap dd (.xd fs) := I.hok dd _ ea
      obtain ⟨mA, hns, hr⟩ := hx
      obtain ⟨od, ho, hl⟩ := lookIn_ns hns; have J : PySem.W.InstAt s.heap a oe D (some od) := ⟨hget, hz.1, (by unfold PySem.W.notCls; rw [hv] <;> rfl), (by rw [hz.2]; exact ho)⟩
      exact PySem.W.kia_one (VX.kit_of (x := a) (ox := oe) Z) I.kIn ⟨_, J⟩ e (fun z => nomatch z) fun tk => ⟨.bl b, H, I.kept (t' := tk) fun _ _ z => z, rfl, q⟩
def mIsx (j : Nat) (b : Bool) : Ws → Hv → Res W := fun _ h => match h[j]? with
  | some (.xd _) => .val (.bl b) h
  | _ => .bad
def mIsxA (i : Nat) (a : Addr) (j : Nat) (b : Bool) : Ws → Hv → Res W := fun r h => match r[i]? with
  | some (some (.fix c)) => if c = a then mIsx j b r h else .bad
  | _ => .bad
section
variable {T : Tx} {X : Cx}
theorem mIsxA_at {i : Nat} {a : Addr} {j : Nat} {b : Bool} {r : Ws} {h : Hv} (hl : i < r.length) : mIsxA i a j b (r.set i (some (.fix a))) h = mIsx j b r h := by
  unfold mIsxA
  rw [List.getElem?_set_self hl]
  simp [mIsx]
theorem se_isx (i : Nat) {a dd C : Addr} {oe : Obj} {cls : Value} {pn : List (Addr × Obj)} {j : Nat} {b : Bool} {n : Str} {p pn1 pos : Pos} {ec : Expr} {c : V} {cv : Value} (Z : ExcC X.K C) (hz : Zc cls (some dd) oe) (hf : ∃ vs, oe.data = .fields vs) (hcls : cls = .ref C)
    (hgi : Gl (X.suite a ((a, oe) :: pn)) "isinstance") (hmi : X.mg "isinstance" = none) (hc : PE (X.suite a ((a, oe) :: pn)) ec (tC c)) (hcv : ∀ u, RelV c u → u = cv) (hk : PySem.W.kitOne X.K (.ref C) cv = some b)
    (hN : X.N[i]? = some n := by rfl) (hv : Vis X.env.scope n := by first | exact Or.inl rfl | exact Or.inr (Or.inl rfl) | exact Or.inr (Or.inr rfl)) (hd : (n == ("__debug__" : Str)) = false := by decide) (hcd : (n == ("__classdict__" : Str)) = false := by decide)
    (hs1 : starEach [.Name n pn1, ec] X.env = (false, eval (.Name n pn1) X.env) :: starEach [ec] X.env := by rfl) (hs2 : starEach [ec] X.env = (false, eval ec X.env) :: starEach [] X.env := by rfl) (hpl : (backTo pos (starEach [ec] X.env)).any (·.1) = false := by rfl) :
    SE (T.known j dd) (X.suite a ((a, oe) :: pn)) (.Call (.Name "isinstance" p) [.Name n pn1, ec] [] pos) (mIsxA i a j b) := fun E cn =>
  PEi (pe_callB (call_isF (pn := pn) (dd := dd) Z (hcls ▸ hz) hf) hgi hmi (by decide +kernel) (pa_cons (pe_var (X := X.suite a ((a, oe) :: pn)) (i := i) hN hv hd hcd) (pa_cons hc pa_nil hs2) hs1) (by decide) (by decide) hs1 hpl) fun s H Q ⟨ps, r, hv, es, vw, gd⟩ => by
    unfold mIsxA at gd
    split at gd
    · rename_i b2 eb
      split at gd
      · rename_i hba
        subst hba
        obtain ⟨v, e1, e2⟩ := es.2 i _ eb
        cases e2
        unfold mIsx at gd
        split at gd
        · rename_i fs ej
          have ed : ps[j]? = some dd := vw.fact.2
          obtain ⟨vs, rr, eH⟩ := vw.ob _ dd _ ed ej
          exact ⟨_, e1, c, cv, b, vs, rfl, hcv, hk, eH, Good.now gd vw rfl⟩
        · exact gd.elim
      · exact gd.elim
    · exact gd.elim
end
/-! ### xs[::-1] -/
def mRevO (w : W) (h : Hv) : Res W := match w with
  | .ref p => (match h[p]? with
    | some (.lst xs) => mNew (.lst xs.reverse) h
    | some (.rol xs) => mNew (.lst xs.reverse) h
    | _ => .bad)
  | _ => .bad
def mRev (f : Ws → Hv → Res W) : Ws → Hv → Res W := fun r h => (f r h).bind mRevO
section
variable {T : Tx} {X : Cx} {e : Expr} {f : Ws → Hv → Res W}
theorem paired_rev {ps : List Addr} : ∀ {xs : List W} {ys : List V}, Paired (WV ps) xs ys → Paired (WV ps) xs.reverse ys.reverse
  | _, _, .nil => .nil
  | _, _, .cons r t => by
    simp only [List.reverse_cons]
    exact paired_app (paired_rev t) (.cons r .nil)
theorem se_rev {k : Nat} {p1 p2 p3 pos : Pos} (he : SE T X e f) : SE T X (.Subscript e (.Slice none none (some (.UnaryOp .USub (.Constant (.int 1) k p1) p2)) p3) pos) (mRev f) := fun E cn => PEi (pe_revL (he E cn)) fun s H Q ⟨ps, r, hv, es, vw, gd⟩ => by
  refine ⟨ps, r, hv, es, vw, (Good.bind (R := WV) (S := WV) gd).imp (fun v H1 q => ?_) fun _ _ _ z => z⟩
  obtain ⟨qs, w, h1, st, vw1, wv, g1⟩ := q
  unfold mRevO at g1
  split at g1
  · obtain ⟨a, ea, rfl⟩ := wv
    split at g1
    · rename_i xs e1
      obtain ⟨vs, rr, eH⟩ := vw1.ob _ a _ ea e1
      exact ⟨a, vs, rfl, SqL.of eH, fun p hp => good_new vw1 g1 (fun H' p' e => ⟨_, paired_rev rr, e⟩) hp⟩
    · rename_i xs e1
      obtain ⟨vs, ob, rr, eH⟩ := vw1.ob _ a _ ea e1
      exact ⟨a, vs, rfl, .inl (.inr ⟨ob, eH⟩), fun p hp => good_new vw1 g1 (fun H' p' e => ⟨_, paired_rev rr, e⟩) hp⟩
    · exact g1.elim
  · exact g1.elim
/-! ### str of a whole number -/
def mStrI : MFn := fun ws h => match ws with
  | [.int i] => if i.natAbs.log2 < 1920 then .val (.str (Str.ofString (toString i))) h else .bad
  | _ => .bad
theorem rc_strI : RC T (fun xs H Q => ∃ i, xs = [.int i] ∧ i.natAbs.log2 < 1920 ∧ Q (.str (toString i)) H) mStrI := by
  intro ps h H ws vs Q E vw wv gd
  unfold mStrI at gd
  split at gd
  · split at gd
    · rename_i hc
      obtain ⟨v, rfl, e⟩ := one_of wv
      cases e
      exact ⟨_, rfl, hc, Good.now gd vw rfl⟩
    · exact gd.elim
  · exact gd.elim
end
end VL
end
section
namespace VL
open PySem L2 PySem.Spec PyProof.Rows
/-! ### own error classes over any of Python's errors -/
structure OexG (K : PySem.W.Frag) (C : Addr) : Prop where
  wh : ∃ (B newId initId : String) (bmB : List Value), ExcBaseFacts B newId initId bmB ∧ StoreFacts B bmB "object.__setattr__" "object" ∧ ∃ nm q N bs bm sn sub ab col dd k0 k1 k2 k3 k5,
    K.lookup C = some (excClassObj nm q C N bs bm true sn sub ab col dd k0 k1 k2 k3 k5 newId) ∧ PySem.W.excTail bmB bm = true
  st : PySem.W.findIn K (.ref C) "__setattr__" = some (some (.builtin "object.__setattr__"))
  be : PySem.W.subIn K (.ref C) (.type "BaseException") = some true
  ty : PySem.W.typeIn K (.ref C) = some (.type "type")
  kp : PySem.W.keepIn K (Value.ref C) = true
section
open Builtin Builtin.ObjectAttr PySem.HandSPX
variable {prog : Program} {w : World} {A : Around} {R : Result → Shared → Prop} {hp : Heap} {g : Array GenState} {dr : Drawn} {t : Nat} {os : OsState} {K : PySem.W.Frag}
/-- the first field of an error -/
theorem osaG {name : Str} {tk : Tok} {v : Value} {x C : Addr} {fv : Array Value} {cd : ClassData} {B : String} {bmB : List Value} (SF : StoreFacts B bmB "object.__setattr__" "object") (X : K.In hp) (hx : hp.get? x = some { cls := .ref C, data := .fields fv })
    (hcd : PySem.W.clsIn K C = some cd) (hov : PySem.W.excOver K C bmB = true) (hd : cd.hasDict = true) (hn : PySem.W.findIn K (.ref C) name = some none)
    (hq : ∀ h2 t2 dx, (∀ b o, b ≠ x → hp.get? b = some o → h2.get? b = some o) → hp.objs.size ≤ dx → dx ≠ x → h2.get? x = some { cls := .ref C, dict := some dx, data := .fields fv } → h2.Ns1 dx (fun y => if y = name then some v else none) → R (.ok (.ret .none)) ⟨h2, g, dr, t2, os⟩) :
    codeAny (model prog w) A (.call (.builtin "object.__setattr__") ⟨[.ref x, .str name tk, v], []⟩) R ⟨hp, g, dr, t, os⟩ := by
  refine PySem.W.osa_openX SF X (od := none) (r := none) ⟨hx, rfl, rfl, trivial⟩ hov (by unfold PySem.W.takerIn; rw [hn]; rfl) fun b => ?_
  have xs : x ≠ hp.objs.size := Nat.ne_of_lt (Heap.lt_size hx)
  have lc : PySem.W.Looks (model prog w) hp (classData C) cd := PySem.W.looks_clsIn X hcd
  obtain ⟨nm, bs, mro, ns, qn, hd', sn, sb, ab, col, del⟩ := cd
  obtain rfl : hd' = true := hd
  dsimp only; unfold storeInOwnDict ownDictForStores
  repeat (first | with_reducible refine store_in_new ?_ ?_ | with_reducible refine wpAny_loadPart_at hx ?_ | with_reducible refine lc.at ?_ | wp_step)
  · exact ⟨_, #[], _, (Heap.get?_update_ne _ _ _ _ xs.symm).trans (Heap.get?_push_at rfl rfl), rfl, fun e he => absurd he (by simp), fun _ => rfl⟩
  · intro h2 t2 n2 sb2
    have px : (hp.push { cls := .type "dict", data := .dict #[] }).get? x = some { cls := .ref C, data := .fields fv } := Heap.get?_push_of_some _ hx
    exact hq h2 t2 hp.objs.size (fun b o nb ob => (sb2.2 b (Nat.ne_of_lt (Heap.lt_size ob))).trans ((Heap.get?_update_ne _ _ _ _ nb).trans (Heap.get?_push_of_some _ ob))) (Nat.le_refl _) xs.symm ((sb2.2 x xs).trans (Heap.get?_update_self _ px rfl)) n2
end
section
variable {X : Cx} {pins : List (Addr × Obj)} {z : L2.St} {H : Hp} {s : Shared} {a C : Addr} {f : Str} {y : V} {u : Value} {Q : Unit → Shared → Prop} {E : Value → Shared → Prop} {A : Around}
theorem ostG (T : OexG X.K C) (I : Inv X pins z H s) (e : H a = some (exo a C none)) (hno : PySem.W.findIn X.K (.ref C) f = some none) (ry : RelV y u)
    (k : ∀ dx s2, H dx = none → dx ≠ a → Inv X pins z (upd (upd H dx (exd dx [(f, y)])) a (exo a C (some dx))) s2 → Q () s2) : wpAny (model X.prog X.w) A (setAttr (.ref a) f u) Q E s := by
  obtain ⟨B, newId, initId, bmB, FB, SF, nm, q, N, bs, bm, sn, sub, ab, col, dd, k0, k1, k2, k3, k5, hC, hbm⟩ := T.wh
  have hcl : PySem.W.clsIn X.K C = some ⟨nm, bs, .ref C :: bm, N, q, true, sn, sub, ab, col, false⟩ := by
    unfold PySem.W.clsIn
    rw [hC] <;> rfl
  have hov : PySem.W.excOver X.K C bmB = true := by
    unfold PySem.W.excOver
    rw [hcl]
    simp [hbm]
  obtain ⟨t1, ho⟩ := exo_at I.hok e; obtain ⟨hp, g, d, t, os⟩ := s
  refine PySem.W.set_plain I.kIn (ox := { cls := .ref C, dict := none, data := .fields #[.ref t1, .none, .none, .none, .bool false, .none] }) (od := none) ⟨ho, rfl, rfl, trivial⟩ T.st (osaG SF I.kIn ho hcl hov rfl hno fun h2 t2 dx kk dn dne hx hn => ?_)
  have fr : H dx = none := I.hok.fresh dn
  have nd : ∀ b o, hp.get? b = some o → b ≠ dx := fun b o r => Nat.ne_of_lt (Nat.lt_of_lt_of_le (Heap.lt_size r) dn)
  have na : ∀ b, H b = none → b ≠ a := fun b r c => by rw [c, e] at r; cases r
  have ch : ∀ b o, H b = some o → b ≠ dx := fun b o r c => by rw [c, fr] at r; cases r
  refine k dx _ fr dne (I.un (t' := t2) ⟨fun b o r n _ _ => kk b o (na b n) r, fun b o r n _ _ => ⟨o.slots, kk b o (na b n) r⟩, fun b o r n _ => ?_, fun b o r _ => ?_, fun b xs r => ?_, fun b o v r => ?_, fun b ps r => ⟨#[], ?_⟩⟩ fun b o r => ?_)
  · rw [upd_ne (na b n), upd_ne (nd b o r), n]
  · by_cases c : b = a
    · subst c; exact ⟨_, hx⟩
    · exact ⟨o, kk b o c r⟩
  · rw [upd_ne (at_ne e r exo_tup), upd_ne (ch b _ r), r]
  · rw [upd_ne (at_ne e r exo_frz), upd_ne (ch b _ r), r]
  · rw [upd_ne (at_ne e r exo_tbl), upd_ne (ch b _ r), r]; simp
  · by_cases c : b = a
    · subst c
      rw [upd_same] at r
      cases r
      exact exo_ok hx
    · rw [upd_ne c] at r
      by_cases c2 : b = dx
      · subst c2
        rw [upd_same] at r
        cases r
        exact exd_ok hn (relO_put (fs := []) ry fun _ => trivial)
      · rw [upd_ne c2] at r
        refine (I.hok b o r).stay (fun m v hm z2 => kk m v ?_ z2) (fun m hm => ?_) fun m xs hm => ?_
        · rcases hm with hm | hm
          · exact hm ▸ c
          · exact at_ne e hm exo_own
        · rw [upd_ne (at_ne e hm exo_own), upd_ne (ch m _ hm), hm]
        · rw [upd_ne (at_ne e hm exo_tup), upd_ne (ch m _ hm), hm]
end
/-- self.f = e, of an error that has no field yet -/
def tOstG (K : PySem.W.Frag) (f : Str) (to te : TE) : TS := fun D z H => te z H fun y H1 => to z H1 fun x H2 => ∃ a C : Addr, x = .ref a ∧ OexG K C ∧ PySem.W.findIn K (.ref C) f = some none ∧ H2 a = some (exo a C none) ∧ ∀ dx, H2 dx = none → dx ≠ a → D.nx z (upd (upd H2 dx (exd dx [(f, y)])) a (exo a C (some dx)))
section
variable {X : Cx} {o e : Expr} {es : List Expr} {to te : TE} {ta : TA} {f : Str} {p p' pos : Pos}
theorem ps_ostG (ho : PE X o to) (he : PE X e te) (hs : swapsWith e (some (.Attribute o f p')) pos.line X.env = pure false := by rfl) : PS X (.Assign [.Attribute o f p'] e pos) (tOstG X.K f to te) :=
  ⟨fun pins s z H D I h => plainObj_wpAny_Assign_Attribute (thn (he.run pins s z H _ I h) fun v s1 ⟨y, H1, I1, r1, q1⟩ => thn (ho.run pins s1 z H1 _ I1 q1) fun u s2 ⟨x, H2, I2, r2, a, C, ex, T, hno, ea, q⟩ => by
    subst ex; obtain rfl : u = Value.ref a := r2
    exact ostG T I2 ea hno r1 fun dx s3 n ne J => ⟨z, _, J, q dx n ne⟩) hs⟩
theorem pmk_oexG {CX : CXT} {x : Str} {C fI : Addr} {k : Nat} {fd : FuncData} {ps : List Str} {sp : Sp} {ds : List Value} {dvs : List V} (T : OexG X.K C) (iC : PySem.W.findIn X.K (.ref C) "__init__" = some (some (.ref fI))) (tI : PySem.W.typeIn X.K (.ref fI) = some (.type "function"))
    (hr : Room (k + 1) X.A) (F1 : FnOk X.prog X.w X.K X.mg X.base CX k fI fd ps sp) (hb : Binds X.K fd ps ds) (hd : Vals dvs ds) (hx : Passes CX X (fun _ _ _ => False)) (hg : Gl X x) (hm : X.mg x = some (.ref C)) (ha : PA X (e :: es) ta)
    (hdb : (x == ("__debug__" : Str)) = false := by decide) (he : starEach (e :: es) X.env = (false, eval e X.env) :: starEach es X.env := by rfl) (hpl : (backTo pos (starEach es X.env)).any (·.1) = false := by rfl) : PMk X (.Call (.Name x p) (e :: es) [] pos) (tMkO C sp dvs ta) := fun pins s z H Q I h => by
  obtain ⟨B, newId, initId, bmB, FB, SF, nm, q, N, bs, bm, sn, sub, ab, col, dd, k0, k1, k2, k3, k5, hC, hbm⟩ := T.wh
  refine wpAny_Call_Name_kw (ld_glob I hg hm (PySem.W.callWith_K (h₀ := X.base) I.ok.mod.kin T.kp (thn (ha.run pos pins s z H _ I h) fun us s1 ⟨vs, H1, I1, r1, hz, q1⟩ => ⟨I1.kIn, ?_⟩) he hpl) hdb)
  show wpAny _ _ (call (.ref C) us) _ _ _; obtain ⟨hp, g, dr, tk, os⟩ := s1
  let b := hp.objs.size + 1
  let h2 := (hp.push (PySem.W.kdv_tup us)).push (PySem.HandSPX.excO C hp.objs.size)
  have le : hp.objs.size ≤ b := Nat.le_succ _
  have hq := q1 b (I1.hok.fresh le)
  have kk : ∀ c o, hp.get? c = some o → h2.get? c = some o := fun c o r => Heap.get?_push_of_some _ (Heap.get?_push_of_some _ r)
  have gb : h2.get? b = some (PySem.HandSPX.excO C hp.objs.size) := by
    show ((hp.push (PySem.W.kdv_tup us)).push (PySem.HandSPX.excO C hp.objs.size)).get? (hp.objs.size + 1) = _
    heap_get
  have I2 : Inv X pins z (upd H1 b (exo b C none)) ⟨h2, g, dr, tk, os⟩ := I1.laid (t' := tk) (a := b) (h' := h2) kk le (exo_ok gb)
  have r2 : Vals (V.ref b :: (vs ++ dvs)) (Value.ref b :: (us ++ ds)) := .cons rfl (r1.append hd)
  have ln : (Value.ref b :: us ++ ds).length = ps.length := r2.length.symm.trans (F1.len _ _ _ _ hq)
  have lu : us.length ≤ sizeLine := by rw [← Paired.length r1, sizeLine_eq]; omega
  refine wpAny_call (PySem.HandSPX.call_own FB (fun Y => PySem.W.excTail_contains Y bm hbm) (I1.kIn _ _ hC) (PySem.W.looks_findIn I1.kIn iC) (fun self => PySem.W.bind_fn I1.kIn self tI) lu (codeAny_mono (F1.run _ X.stack _ _ ⟨Value.ref b :: us, []⟩ (Value.ref b :: (us ++ ds)) _ _ (fun _ _ _ => False) (hr.make C us []) (I2.env0.make C us []) (hb _ (Value.ref b :: us) I2.kIn ln) r2 hq) fun r s2 hq2 => ?_))
  cases r with
  | error er => exact hx pins z _ _ er s2 I2 hq2
  | ok fl => cases fl with
    | ret u =>
      obtain ⟨v, H2, o2, br, un2, hok2, rv, ev, d, fs, ea, ed, hd1, q2⟩ := hq2
      subst ev; obtain ⟨h3, g2, d2, t2, o3⟩ := s2
      exact ⟨rv, mk_end (raises_own T.be T.ty) I1 le kk un2 hok2 o2 br ea ed hd1 q2⟩
    | next => exact hq2.elim
    | brk => exact hq2.elim
    | cont => exact hq2.elim
end
/-- what the text says of the error's class -/
structure ErrG (P : Program) (w : World) (K : PySem.W.Frag) (mg : Str → Option Value) (base : Heap) (x f : Str) (C : Addr) : Prop where
  oex : OexG K C
  mgC : mg x = some (.ref C)
  ini : ∃ fI fd, PySem.W.findIn K (.ref C) "__init__" = some (some (.ref fI)) ∧ PySem.W.typeIn K (.ref fI) = some (.type "function") ∧ FnOk P w K mg base CX0 1 fI fd ["self", f] (spInit K C f) ∧ Binds K fd ["self", f] []
section
variable {T : Tx} {X : Cx} {C : Addr} {cn9 : String} {x f : Str} {e : Expr} {g : Ws → Hv → Res (List W)} {p pos pos' : Pos}
theorem ss_raiseG (Z : ErrG X.prog X.w X.K X.mg X.base x f C) (hcv : T.cv cn9 = .ref C) (hr : Room 2 X.A) (hg : Gl X x) (ha : SA T X [e] g) (hc : X.calm = true := by rfl) (hdb : (x == ("__debug__" : Str)) = false := by decide)
    (he : starEach [e] X.env = (false, eval e X.env) :: starEach [] X.env := by rfl) (hpl : (backTo pos' (starEach [] X.env)).any (·.1) = false := by rfl) : SS T X (.Raise (some (.Call (.Name x p) [e] [] pos')) none pos) (mRaise cn9 f g) := fun E cn => by
  obtain ⟨fI, fd, h1, h2, h3, h4⟩ := Z.ini
  refine PSi (ps_raise hc cn.tk (pmk_oexG Z.oex h1 h2 hr h3 h4 .nil pass0 hg Z.mgC (ha E cn) hdb he hpl)) fun D s H ⟨ps, r, hv, es, vw, gd⟩ => ?_
  refine ⟨ps, r, hv, es, vw, (good_andS (R := WVs) es gd).imp (fun vs H1 q => ?_) fun _ _ _ z => z⟩
  obtain ⟨qs, ws, hh, st, vw1, wv, es1, g1⟩ := q
  split at g1
  · rename_i w
    obtain ⟨v, rfl, wv1⟩ := one_of wv
    refine ⟨by simp, fun a na => ⟨a, v, rfl, upd_same, fun dx hd ne => ⟨rfl, dx, [(f, v)], upd_same, by rw [upd_ne ne, upd_same], ?_, ?_⟩⟩⟩
    · rw [upd_ne ne] at hd
      exact hd
    · rw [upd_ne ne] at hd
      have eqH : upd (del (upd (upd (upd H1 a (exo a C none)) dx (exd dx [(f, v)])) a (exo a C (some dx))) a) dx (.xd [(f, v)]) = upd H1 dx (.xd [(f, v)]) := by
        funext b
        by_cases hb : b = dx
        · rw [hb, upd_same, upd_same]
        · rw [upd_ne hb, upd_ne hb]
          by_cases ha : b = a
          · rw [ha, del_same, na]
          · rw [del_ne ha, upd_ne ha, upd_ne hb, upd_ne ha]
      rw [eqH]
      obtain ⟨vw2, st2, e2⟩ := vw1.alloc hd (o := .xd [(f, w)]) (u := .xd [(f, v)]) ⟨_, .cons ⟨rfl, wv1⟩ .nil, upd_same⟩
      rw [← hcv]
      exact g1 _ _ s (some dx) st2 vw2 (es1.mono st2.pre) ⟨dx, e2, rfl⟩
  · exact g1.elim
end
end VL
end
section
namespace VL
open PySem L2 PySem.Spec PyProof.Rows
/-! ### several clauses 'except x as n' -/
abbrev Tsu := Addr → Value → Option Addr → TS
/-- the ends of a suite in which slot i is the error's name -/
abbrev offI (i : Nat) (D : Ends) : Ends := { nx := fun z H => D.nx (z.set i none) H, rt := D.rt, bk := fun z H => D.bk (z.set i none) H, ct := fun z H => D.ct (z.set i none) H }
def wAsM (K : PySem.W.Frag) (i : Nat) (Wo : WX) (D : Ends) : List (Value × Tsu) → WX
  | [] => Wo
  | (c, ts) :: r => fun cls d z H => ∃ b, PySem.W.exmOne K cls c = some b ∧ (b = true → ∀ a, H a = none → ts a cls d (offI i D) (z.set i (some (.ref a))) H) ∧ (b = false → wAsM K i Wo D r cls d z H)
inductive HdA (X : Cx) (n : Str) : List ExceptHandler → List (Value × Tsu) → Prop
  | nil : HdA X n [] []
  | cons {x : Str} {c : Value} {ts : Tsu} {b0 : Stmt} {su : List Stmt} {np p2 : Pos} {hds : List ExceptHandler} {l : List (Value × Tsu)} (hc : Names X x c)
      (hsu : ∀ (a : Addr) (oe : Obj) (cls : Value) (d : Option Addr) (pn : List (Addr × Obj)), Zc cls d oe → (∃ vs, oe.data = .fields vs) → PSs (X.suite a ((a, oe) :: pn)) (b0 :: su) (ts a cls d)) (r : HdA X n hds l) : HdA X n (.ExceptHandler (some (.Name x np)) (some n) (b0 :: su) p2 :: hds) ((c, ts) :: l)
section
variable {X : Cx} {n : Str} {i : Nat} {body : List Stmt} {h0 : ExceptHandler} {hds : List ExceptHandler} {l : List (Value × Tsu)} {pos : Pos} {tb : WX → TS} {Wo : WX}
theorem ps_try_asM (hs : X.stack = X.env :: X.outer) (hf : X.env.frame = some X.env.locals) (hN : X.N.Nodup) (hi : X.N[i]? = some n) (hln : X.env.kindOf n = some .local) (tk : Takes X Wo)
    (hb : ∀ (W : WX) (pn : List (Addr × Obj)) (xe : Value → Shared → Prop), Takes (X.tr pn xe) W → PassesOwn (model X.prog X.w) X.A X.env xe → PSs (X.tr pn xe) body (tb W)) (hh : HdA X n (h0 :: hds) l) :
    PS X (.Try body (h0 :: hds) [] [] pos) (fun D z H => tb (wAsM X.K i Wo D l) D z H) := ⟨fun pins s z H D I h => by
  have ok := I.ok
  have frm : X.A.frames = some (X.env :: X.outer) := ok.frames.trans (by rw [hs])
  refine wpAny_Try_except (wpAny_mono ((hb (wAsM X.K i Wo D l) (X.pn ++ pins) (fun e t1 => wpAny (model X.prog X.w) X.A (noteFrame e X.env) (fun _ t2 => wpAny (model X.prog X.w) X.A (setFlight e none) (fun _ t3 =>
    wpAny (model X.prog X.w) X.A (handleBy e X.env (h0 :: hds)) (SP X pins D) X.xe t3) X.xe t2) X.xe t1) (fun u s' xx => ?_) PassesOwn.looking).run [] s z H D (I.toTry _) h) (fun f s1 hsp => ?_) fun _ _ he => he)
  · obtain ⟨a, B, sI, pins', z', H', cls, d, rfl, J', nb, up, sky, na, os, ag, w⟩ := xx
    have J : Inv X pins z' H' sI := J'.ofTry ok; show wpAny (model X.prog X.w) X.A (noteFrame (.ref a) X.env) _ _ _
    refine Sky.land Zc.steady frm hf (show Sky B (X.env :: X.outer) a (Zc cls d) X.env.locals s'.heap from hs ▸ sky) fun h3 fl3 up3 => ?_
    have J3 : Inv X pins z' H' { s' with heap := h3 } := J.landed nb fl3.1 (up.trans up3) os ag
    obtain ⟨o3, w3, x3, y3, u3⟩ := fl3.there
    have nfr : a ∉ frs (X.env :: X.outer) := fun hm => by
      obtain ⟨_, o', e', hnf⟩ := fl3.2.2.1.mem hm
      cases x3.symm.trans e'; exact hnf _ u3
    have nL : a ≠ X.env.locals := fun c => nfr (List.mem_filterMap.mpr ⟨X.env, List.mem_cons_self, hf.trans (by rw [c])⟩)
    have nF : a ∉ X.fs := fun hm => by obtain ⟨e, he, q⟩ := List.mem_filterMap.mp hm; exact nfr (List.mem_filterMap.mpr ⟨e, List.mem_cons_of_mem _ he, q⟩)
    have S3 := J3.suite x3 u3 na nL nF
    have lt : PySem.W.Looks (model X.prog X.w) h3 (typeOf (.ref a)) cls := fun A Q E s k q => wpAny_typeOf_ref (k _ _ x3) (by rw [y3.1]; exact q)
    have go : ∀ {hs' : List ExceptHandler} {l' : List (Value × Tsu)}, HdA X n hs' l' → wAsM X.K i Wo D l' cls d z' H' → wpAny (model X.prog X.w) X.A (handleBy (.ref a) X.env hs') (SP X pins D) X.xe { s' with heap := h3 } := fun hk => by
      induction hk with
      | nil =>
        intro w
        refine wpAny_handleBy_nil ?_
        obtain ⟨_, _, _, oe, vs, T, oT, ts', he, hz, hd, h1, hr⟩ := id fl3
        have fin : wpAny (model X.prog X.w) X.A (setFlight (.ref a) X.env.frame) (fun _ s4 => wpAny (model X.prog X.w) X.A (throw (.ref a) : Sem Flow) (SP X pins D) X.xe s4) X.xe { s' with heap := h3 } :=
          hf.symm ▸ HandSPX.setFlight_upZ fl3 fun h4 hh4 up4 => wpAny_throw (tk _ _ ⟨a, B, sI, pins, z', H', cls, d, rfl, J, nb, (up.trans up3).trans up4, .inr (.inr (hs.symm ▸ hh4)), na, os, ag, w⟩)
        unfold PySem.passOn; refine wpAny_bind (wpAny_field he hd h1 ?_)
        rw [if_neg (show ¬ (Value.ref T == Value.none) = true from by simp)]
        first | exact wpAny_bind (wpAny_pure (wpAny_bind fin)) | exact wpAny_bind fin
      | @cons x c ts b0 su np p2 hds2 l2 hc hsu r ih =>
        rintro ⟨b, hb1, hyes, hno⟩
        have lm := PySem.W.exm_one (M := model X.prog X.w) J3.kIn lt hb1
        have test : ∀ {Q : Value → Shared → Prop} {E : Value → Shared → Prop}, Q c { s' with heap := h3 } → wpAny (model X.prog X.w) (X.A.mark (some (.ref a))) (eval (.Name x np) X.env) Q E { s' with heap := h3 } := fun q => by
          rcases hc with ⟨hg, hdbg, hm | ⟨hm, hv, hnn⟩⟩
          · exact ld_glob (X := X.suite a ((a, o3) :: (X.pn ++ pins))) S3 hg hm q hdbg
          · exact ld_blt (X := X.suite a ((a, o3) :: (X.pn ++ pins))) S3 hg hm hv q hnn hdbg
        refine wpAny_handleBy_cons (codeAny_handlers_test (test (lm.here ?_))) (fun q => by cases q)
        cases b with
        | true =>
          refine codeAny_handlers_suite_as (HandSPX.lands_againZ fl3 fun h4 fl4 up4 => ?_)
          have J4 : Inv X pins z' H' { s' with heap := h4 } := J.landed nb fl4.1 ((up.trans up3).trans up4) os ag
          obtain ⟨o4, w4, x4, y4, u4⟩ := fl4.there
          refine store_ok (X := X.suite a ((a, o4) :: (X.pn ++ pins))) (v := .ref a) (J4.suite x4 u4 na nL nF) hN hi (.inl hln) rfl (fun s5 S5 => wpAny_mono ((hsu a o4 cls d (X.pn ++ pins) y4 ⟨_, u4⟩).run [] s5 _ H' _ S5 (hyes rfl a na)) (fun f s6 hsp => ?_) fun _ _ q => q.elim) (.inr hln)
          have bye : ∀ {z6 : L2.St} {H6 : Hp} {Q : Shared → Prop}, Inv (X.suite a ((a, o4) :: (X.pn ++ pins))) [] z6 H6 s6 → (∀ s7, Inv X pins (z6.set i none) H6 s7 → Q s7) → wpAny (model X.prog X.w) X.A (do bindName X.env n .none; unbindBehindTheSuite X.env n p2) (fun _ s7 => Q s7) X.xe s6 := fun {z6 H6 Q} S6 hq => gone_ok (S6.unsuite ok) hN hi hln hq
          cases f with
          | ret u =>
            obtain ⟨v6, z6, H6, S6, r6, q6⟩ := hsp; exact bye S6 fun s7 J7 => ⟨_, _, _, J7, r6, q6⟩
          | next =>
            obtain ⟨z6, H6, S6, q6⟩ := hsp; exact bye S6 fun s7 J7 => ⟨_, _, J7, q6⟩
          | brk =>
            obtain ⟨z6, H6, S6, q6⟩ := hsp; exact bye S6 fun s7 J7 => ⟨_, _, J7, q6⟩
          | cont =>
            obtain ⟨z6, H6, S6, q6⟩ := hsp; exact bye S6 fun s7 J7 => ⟨_, _, J7, q6⟩
        | false =>
          show wpAny _ X.A (handleBy (.ref a) X.env hds2) _ _ _; exact ih (hno rfl)
    exact go hh w
  · cases f with
    | ret u => obtain ⟨v, z', H', J', r, q⟩ := hsp; exact ⟨v, z', H', J'.ofTry ok, r, q⟩
    | next => obtain ⟨z', H', J', q⟩ := hsp; exact wpAny_execs_nil ⟨z', H', J'.ofTry ok, q⟩
    | brk => obtain ⟨z', H', J', q⟩ := hsp; exact ⟨z', H', J'.ofTry ok, q⟩
    | cont => obtain ⟨z', H', J', q⟩ := hsp; exact ⟨z', H', J'.ofTry ok, q⟩⟩
end
end VL
end
section
namespace VL
open PySem L2 PySem.Spec PyProof.Rows
/-! ### heard(lambda: e) with several clauses -/
def mHeardM (sel : String → Option (Nat → MS)) (fb : Ws → Hv → Res W) : Ws → Hv → Res W := fun r h => match fb r h with
  | .val w h1 => .val w h1
  | .exc c (some j) h1 => (match sel c with
    | some su => (match su j [none, none] h1 with
      | .rt w h2 => .val w h2
      | _ => .bad)
    | none => .bad)
  | _ => .bad
/-- a clause: its class, the classes it takes, its suite -/
structure Cl where
  cx : Value
  ok : Value → Prop
  sM : Addr → Nat → MS
def Cl.ts (T : Tx) (c : Cl) : Value × Tsu := (c.cx, tSuite T c.ok c.sM)
def wHM (K : PySem.W.Frag) (T : Tx) : List Cl → VK → XK
  | [], _ => fun _ _ _ => False
  | c :: r, Q => fun cls d H => ∃ b, PySem.W.exmOne K cls c.cx = some b ∧ (b = true → ∀ (D : Ends) (s : L2.St) (a : Addr), D.rt = Q → s.length = 2 → H a = none → tSuite T c.ok c.sM a cls d D (s.set 1 (some (.ref a))) H) ∧ (b = false → wHM K T r Q cls d H)
theorem wHM_as {K : PySem.W.Frag} {T : Tx} {D : Ends} : ∀ {l : List Cl} {cls : Value} {d : Option Addr} {s : L2.St} {H : Hp}, s.length = 2 → wHM K T l D.rt cls d H → wAsM K 1 No D (l.map (Cl.ts T)) cls d s H
  | [], _, _, _, _, _, h => h.elim
  | c :: r, cls, d, s, H, hl, ⟨b, e1, e2, e3⟩ => ⟨b, e1, fun hb a ha => e2 hb _ s a rfl hl ha, fun hb => wHM_as hl (e3 hb)⟩
theorem wHM_mem {K : PySem.W.Frag} {T : Tx} {Q : VK} {c : Cl} {post : List Cl} {cls : Value} {d : Option Addr} {H : Hp} (h1 : PySem.W.exmOne K cls c.cx = some true) (h2 : ∀ (D : Ends) (s : L2.St) (a : Addr), D.rt = Q → s.length = 2 → H a = none → tSuite T c.ok c.sM a cls d D (s.set 1 (some (.ref a))) H) :
    ∀ {pre : List Cl}, (∀ p ∈ pre, PySem.W.exmOne K cls p.cx = some false) → wHM K T (pre ++ c :: post) Q cls d H
  | [], _ => ⟨true, h1, fun _ => h2, fun z => by cases z⟩
  | p :: pre, hp => ⟨false, hp p List.mem_cons_self, (fun z => by cases z), fun _ => wHM_mem h1 h2 fun q hq => hp q (List.mem_cons_of_mem _ hq)⟩
section
variable {X : Cx} {T : Tx} {l : List Cl}
abbrev TTm (K : PySem.W.Frag) (T : Tx) (l : List Cl) : (XK → Hp → VK → Prop) → Hp → VK → Prop := fun tl H Q => tl (wHM K T l Q) H Q
theorem hdA_cons {n x : Str} {c : Cl} {b0 : Stmt} {su : List Stmt} {np p2 : Pos} {hds : List ExceptHandler} (hc : Names X x c.cx)
    (hsu : ∀ (ad : Addr) (oe : Obj) (cls : Value) (dd : Addr) (pn : List (Addr × Obj)) (j : Nat), c.ok cls → Zc cls (some dd) oe → (∃ vs, oe.data = .fields vs) → SSs (T.known j dd) (X.suite ad ((ad, oe) :: pn)) (b0 :: su) (c.sM ad j)) (r : HdA X n hds (l.map (Cl.ts T))) :
    HdA X n (.ExceptHandler (some (.Name x np)) (some n) (b0 :: su) p2 :: hds) ((c :: l).map (Cl.ts T)) :=
  .cons hc (fun ad oe cls d pn hz hf => ⟨fun pins s1 z1 H1 D I h1 => by
    obtain ⟨hk, j, dd, rfl, h2⟩ := h1
    exact ((hsu ad oe cls dd pn j hk hz hf) No ⟨takes0, PassesOwn.never⟩).run pins s1 z1 H1 D I h2⟩) r
theorem heard_givesM {x a n q : Str} {sg : Scope} {g : Addr} {cdg : Value} {h0 : ExceptHandler} {hds : List ExceptHandler} {p1 p2 p3 p8 : Pos} (hnd : ([a, n] : List Str).Nodup)
    (hh : ∀ s H, HdA (hCx X [a, n] x sg g cdg s H) n (h0 :: hds) (l.map (Cl.ts T))) (hkn : sg.names.lookup n = some .local) :
    LamX.GivesTo X [a, n] x sg g cdg [.Try [.Return (some (.Call (.Name a p1) [] [] p2)) p3] (h0 :: hds) [] [] p8] a q (TTm X.K T l) := by
  intro f c' s H Q tl act hco h
  refine ⟨_, pss_one (ps_try_asM (X := hCx X [a, n] x sg g cdg s H) (i := 1) (Wo := No)
    (tb := fun Wx D s' H' => ∃ Ec : XK, (∀ cls d (s2 : L2.St) H2, s2.length = 2 → Ec cls d H2 → Wx cls d s2 H2) ∧ s'[0]? = some (some (.ref f)) ∧ H' c' = some (LamX.CodeO c' q) ∧ tl Ec H' D.rt) rfl rfl hnd rfl hkn takes0 (fun Wx pn xe tk _ => ⟨fun pins s1 z1 H1 D I h1 => ?_⟩) (hh s H)), ?_⟩
  · obtain ⟨Ec, hW, hs, h2, h3⟩ := h1
    have tk2 : Takes ((cxOf C8.CX0 X.prog X.w X.K X.mg X.base [a, n] x sg g cdg X.A X.stack s H C8.E0).tr pn xe) (fun cls d s2 H2 => s2.length = 2 → Wx cls d s2 H2) := fun u s' xx => by
      obtain ⟨ad, B, sI, pins', s3, H3, cls, d, e1, J, e2, e3, e4, e5, e6, e7, wz⟩ := xx
      exact tk u s' ⟨ad, B, sI, pins', s3, H3, cls, d, e1, J, e2, e3, e4, e5, e6, e7, wz J.len⟩
    have hp := act _ pn xe Ec p1 p2 tk2 fun cls d s2 H2 hh hl => hW cls d s2 H2 hl hh
    exact (pss_one (ps_ret (pos := p3) hp)).run pins s1 z1 H1 D I ⟨hs, h2, h3⟩
  · exact ⟨wHM X.K T l Q, fun cls d s2 H2 hl hw => wHM_as hl hw, rfl, hco, h⟩
/-- which clause takes the errors of the class c -/
def Sels (K : PySem.W.Frag) (T : Tx) (l : List Cl) (sel : String → Option (Nat → MS)) : Prop := ∀ c su, sel c = some su → ∃ pre cl post, l = pre ++ cl :: post ∧ (∀ p ∈ pre, PySem.W.exmOne K (T.cv c) p.cx = some false) ∧ PySem.W.exmOne K (T.cv c) cl.cx = some true ∧ cl.ok (T.cv c) ∧
  ∀ a j r h w h2, 1 < r.length → su j r h = .rt w h2 → cl.sM a j (r.set 1 (some (.fix a))) h = .rt w h2
theorem heard_readM {sel : String → Option (Nat → MS)} {E : WX} {s : L2.St} {H : Hp} {Q : VK} {fb : Ws → Hv → Res W} (hsel : Sels X.K T l sel)
    (h : tE T E (mHeardM sel fb) s H Q) : LamX.tLam T.tb (TTm X.K T l) (fun E' => tE T (fun c d _ H' => E' c d H') fb) s H Q := by
  obtain ⟨ps, r, hv, es, vw, gd⟩ := h
  refine ⟨vw.tab, fun H1 eN tN => ?_⟩
  obtain ⟨vw1, st1⟩ := vw.ext eN tN
  have gd := Good.step gd st1
  refine ⟨ps, r, hv, es, vw1, ?_⟩
  unfold mHeardM at gd
  cases q : fb r hv with
  | bad => rw [q] at gd; exact gd.elim
  | val w h1 => rw [q] at gd; exact gd
  | exc c d h1 =>
    rw [q] at gd
    cases d with
    | none => exact gd.elim
    | some j =>
      dsimp only at gd
      intro qs H' e st vw' dv
      obtain ⟨dd, ej, rfl⟩ := dv
      cases ex : sel c with
      | none => rw [ex] at gd; exact gd.elim
      | some su =>
        rw [ex] at gd
        dsimp only at gd
        obtain ⟨pre, cl, post, rfl, hp, ht, hok, hind⟩ := hsel c su ex
        cases z : su j [none, none] h1 with
        | nx _ _ => rw [z] at gd; exact gd.elim
        | bk _ _ => rw [z] at gd; exact gd.elim
        | ct _ _ => rw [z] at gd; exact gd.elim
        | exc _ _ _ _ => rw [z] at gd; exact gd.elim
        | bad => rw [z] at gd; exact gd.elim
        | rt w h2 =>
          rw [z] at gd
          refine wHM_mem ht (fun D s2 a hD hl ha => ⟨hok, j, dd, rfl, qs, [none, none].set 1 (some (.fix a)), h1, ?_, vw'.known ej, ?_⟩) hp
          · have e0 : ES qs [none, none] s2 := ⟨by rw [hl]; rfl, fun i w e => by
              match i, e with
              | 0, e => cases e
              | 1, e => cases e
              | i + 2, e => simp at e⟩
            exact e0.set 1 rfl
          · rw [hind a j [none, none] h1 _ _ (by decide) z]
            intro rs H2 v st2 vw2 wv
            rw [hD]
            exact gd rs H2 v (st.trans st2) vw2.less wv
theorem se_heardM {sel : String → Option (Nat → MS)} {k : Nat} {x a n : Str} {g c P : Addr} {pg : Arguments} {sg : Scope} {dV kV doc pm cdv ct oc : Value} {an od : Option Addr} {osl : Array (Option Value)} {h0 : ExceptHandler} {hds : List ExceptHandler} {p1 p2 p3 p8 : Pos}
    {params : Arguments} {body : Expr} {scope : Scope} {fb : Ws → Hv → Res W} {p lpos pos : Pos}
    (hsel : Sels X.K T l sel) (hm : X.mg x = some (.ref g)) (hk : PySem.W.keepIn X.K (.ref g) = true)
    (lk : X.K.lookup g = some ⟨oc, od, .func (PySem.W.fnOf x x pg [.Try [.Return (some (.Call (.Name a p1) [] [] p2)) p3] (h0 :: hds) [] [] p8] sg dV kV doc pm an cdv ct), osl⟩) (hcg : PySem.W.codeIn X.K cdv x = true)
    (hb : L2.Binds X.K (PySem.W.fnOf x x pg [.Try [.Return (some (.Call (.Name a p1) [] [] p2)) p3] (h0 :: hds) [] [] p8] sg dV kV doc pm an cdv ct) [a] []) (Sg : FnScope [a, n] [a] sg) (hva : Vis sg a)
    (hh : ∀ s H, HdA (hCx X [a, n] x sg g cdv s H) n (h0 :: hds) (l.map (Cl.ts T))) (hkn : sg.names.lookup n = some .local)
    (TB : LamX.TabB X.base X.mg c P) (hcode : X.env.code = .ref c) (hmT : (P, X.env.qual ++ "<lambda>") ∈ T.tb) (hu : ∀ p ∈ T.tb, p.1 = P → p.2 = X.env.qual ++ "<lambda>") (hr : Room (k + 2) X.A) (L : LamX.LamS X.env.scope scope) (hdef : defaultsOf params X.env = ([], [])) (hbind : ∀ (q : Str) (cl : List (Str × Addr)) (pm cv ctv : Value), bindArgs (PySem.W.kla_fn "<lambda>" q params body scope cl pm cv ctv) ⟨[], []⟩ = pure [])
    (hbody : ∀ (A : Around) (outer : List Env) (s : Shared) (H : Hp) (E : XK) (f c' : Addr), Room k (A.deeper (LamX.lamEnv X scope s.heap.objs.size f c')) → SE T (LamX.lamCx X A outer s H E scope f c') body fb)
    (hg : Gl X x := by rfl) (hdb : (x == ("__debug__" : Str)) = false := by decide) (hd : (a == ("__debug__" : Str)) = false := by decide) (hcd : (a == ("__classdict__" : Str)) = false := by decide) :
    SE T X (.Call (.Name x p) [.Lambda params body scope lpos] [] pos) (mHeardM sel fb) := fun E cn => by
  refine PEi (LamX.pe_lamcall (T := T.tb) (TT := TTm X.K T l) (t := fun E' => tE T (fun c d _ H' => E' c d H') fb) hg hm hk lk hcg hb Sg rfl hva (heard_givesM Sg.nd hh hkn) TB hcode hmT hu hr L hdef hbind
    (fun A outer s H E' f c' hr' => hbody A outer s H E' f c' hr' _ ⟨takes_of rfl rfl rfl rfl, passes_of rfl⟩) hdb hd hcd) fun s H Q h => heard_readM hsel h
end
end VL
end
section
namespace VL
open PySem L2
/-! ### a, b, .. = a tuple or a list -/
def mGs (n : Nat) (k : List W → MS) : MG := fun w r h => match w with
  | .ref p => match h[p]? with
    | some (.tup ws) => if ws.length = n then k ws r h else .bad
    | some (.lst ws) => if ws.length = n then k ws r h else .bad
    | _ => .bad
  | _ => .bad
section
variable {T : Tx} {X : Cx} {es : List Expr} {k : List W → MS} {pos : Pos}
theorem PG_or {e : Expr} {t u : TG} (a : PG X e t) (b : PG X e u) : PG X e (fun v s H Q => t v s H Q ∨ u v s H Q) := ⟨fun pins s z H v w Q I r h => h.elim (a.run pins s z H v w Q I r) (b.run pins s z H v w Q I r)⟩
theorem sg_seq {kk n : Nat} (h : SGs T X es k) (hc : X.calm = true := by rfl) (hn : (assignEach es X.env).length = n := by rfl) (hst : (assignEach es X.env).findIdx? (·.1) = none := by rfl) : SG T X (.Tuple es kk pos) (mGs n k) := fun E cn =>
  PGi (PG_or (pg_tup hc (h E cn) hn hst) (pg_lst hc (h E cn) hn hst)) fun v s H Q ⟨ps, r, h, w, es, vw, wv, gd⟩ => by
    unfold mGs at gd
    split at gd
    · rename_i p
      obtain ⟨a, ea, rfl⟩ := wv
      split at gd
      · rename_i ws e1
        split at gd
        · rename_i hl
          obtain ⟨vs, rr, eH⟩ := vw.ob _ a _ ea e1
          have l1 : ws.length = vs.length := rr.length
          exact .inl ⟨a, vs, rfl, SqT.of eH, by rw [← l1]; exact hl, ps, r, h, ws, es, vw, rr, gd⟩
        · exact gd.elim
      · rename_i ws e1
        split at gd
        · rename_i hl
          obtain ⟨vs, rr, eH⟩ := vw.ob _ a _ ea e1
          have l1 : ws.length = vs.length := rr.length
          exact .inr ⟨a, vs, rfl, SqL.of eH, by rw [← l1]; exact hl, ps, r, h, ws, es, vw, rr, gd⟩
        · exact gd.elim
      · exact gd.elim
    · exact gd.elim
end
/-! ### sorted of whole numbers -/
def insI (a : Int) : List Int → List Int
  | [] => [a]
  | b :: l => if a ≤ b then a :: b :: l else b :: insI a l
def sortI : List Int → List Int
  | [] => []
  | a :: l => insI a (sortI l)
theorem insI_perm (a : Int) : ∀ l, (insI a l).Perm (a :: l)
  | [] => List.Perm.refl _
  | b :: l => by
    unfold insI
    split
    · exact List.Perm.refl _
    · exact ((insI_perm a l).cons b).trans (List.Perm.swap a b l)
theorem sortI_perm : ∀ l, (sortI l).Perm l
  | [] => List.Perm.refl _
  | a :: l => (insI_perm a (sortI l)).trans ((sortI_perm l).cons a)
theorem insI_sorted (a : Int) : ∀ l : List Int, l.Pairwise (· ≤ ·) → (insI a l).Pairwise (· ≤ ·)
  | [], _ => List.pairwise_singleton _ _
  | b :: l, h => by
    unfold insI
    obtain ⟨hb1, h2⟩ := List.pairwise_cons.mp h; have h1 := hb1
    split
    · rename_i ab
      refine List.pairwise_cons.mpr ⟨fun c hc => ?_, h⟩
      rcases List.mem_cons.mp hc with rfl | q
      · exact ab
      · exact Int.le_trans ab (h1 c q)
    · rename_i ab
      refine List.pairwise_cons.mpr ⟨fun c hc => ?_, insI_sorted a l h2⟩
      rcases List.mem_cons.mp ((insI_perm a l).mem_iff.mp hc) with rfl | q
      · omega
      · exact h1 c q
theorem sortI_sorted : ∀ l : List Int, (sortI l).Pairwise (· ≤ ·)
  | [] => List.Pairwise.nil
  | a :: l => insI_sorted a _ (sortI_sorted l)
theorem sorted_one : ∀ (l m : List Int), l.Perm m → l.Pairwise (· ≤ ·) → m.Pairwise (· ≤ ·) → l = m
  | [], m, p, _, _ => p.nil_eq
  | a :: l, [], p, _, _ => by have := p.length_eq; simp at this
  | a :: l, b :: m, p, hl, hm => by
    obtain ⟨l1, l2⟩ := List.pairwise_cons.mp hl
    obtain ⟨m1, m2⟩ := List.pairwise_cons.mp hm
    have ha : a ∈ b :: m := p.mem_iff.mp List.mem_cons_self
    have hb : b ∈ a :: l := p.mem_iff.mpr List.mem_cons_self
    have e : a = b := by
      rcases List.mem_cons.mp ha with q | q
      · exact q
      · rcases List.mem_cons.mp hb with q2 | q2
        · exact q2.symm
        · have := l1 b q2
          have := m1 a q
          omega
    subst e
    rw [sorted_one l m (List.Perm.cons_inv p) l2 m2]
def intsOf : List W → Option (List Int)
  | [] => some []
  | .int i :: l => (intsOf l).map (i :: ·)
  | _ => none
theorem intsOf_eq : ∀ {l : List W} {ns : List Int}, intsOf l = some ns → l = ns.map W.int
  | [], ns, e => by cases e; rfl
  | .int i :: l, ns, e => by
    unfold intsOf at e
    cases q : intsOf l with
    | none => rw [q] at e; exact nomatch e
    | some ms =>
      rw [q] at e
      cases e
      rw [List.map_cons, ← intsOf_eq q]
  | .non :: l, ns, e => by cases e
  | .bl _ :: l, ns, e => by cases e
  | .str _ :: l, ns, e => by cases e
  | .ref _ :: l, ns, e => by cases e
  | .fix _ :: l, ns, e => by cases e
  | .ty _ :: l, ns, e => by cases e
def mSorted : MFn := fun ws h => match ws with
  | [.ref p] => match h[p]? with
    | some (.lst xs) => match intsOf xs with
      | some ns => if ns.length < 64 then mNew (.lst ((sortI ns).map W.int)) h else .bad
      | none => .bad
    | _ => .bad
  | _ => .bad
theorem pair_ints {ps : List Addr} : ∀ {ns : List Int} {vs : List V}, Paired (WV ps) (ns.map W.int) vs → vs = ns.map V.int
  | [], _, .nil => rfl
  | i :: ns, _, .cons r t => by
    cases r
    rw [List.map_cons, pair_ints t]
theorem ints_pair {ps : List Addr} : ∀ {ns : List Int}, Paired (WV ps) (ns.map W.int) (ns.map V.int)
  | [] => .nil
  | i :: ns => .cons rfl ints_pair
section
variable {T : Tx} {X : Cx}
theorem rc_sorted : RC T (rSorted X.K) mSorted := by
  intro ps h H ws vs Q E vw wv gd
  unfold mSorted at gd
  split at gd
  · obtain ⟨v, rfl, a, ea, rfl⟩ := one_of wv
    split at gd
    · rename_i xs e1
      split at gd
      · rename_i ns en
        split at gd
        · rename_i hl
          obtain ⟨us, rr, eH⟩ := vw.ob _ a _ ea e1
          have el := intsOf_eq en
          subst el
          have eu := pair_ints rr
          subst eu
          refine ⟨a, ns, rfl, SqL.of eH, hl, fun ms p pm st hp => ?_⟩
          have em : ms = sortI ns := sorted_one _ _ (pm.trans (sortI_perm ns).symm) st (sortI_sorted ns)
          subst em
          exact good_new vw gd (fun H' p' e => ⟨_, ints_pair, e⟩) hp
        · exact gd.elim
      · exact gd.elim
    · exact gd.elim
  · exact gd.elim
end
end VL
end
section
namespace K04
open PySem L2 VL
def top (i : Nat) : Stmt := PySem.Challenge.pw_whatiftimes_k04_order_of_lines.main.body.getD i (.Pass ⟨0, 0, 0, 0⟩)
structure Cs where
  InvalidNumber : Addr
  InvalidRange : Addr
def fuel_common_divisor : Ws → Hv → Nat := fun r _ => match r[1]? with
  | some (some (VL.W.int i)) => i.natAbs + 1
  | _ => 1
def fuel__law_fraction : Ws → Hv → Nat := fun r _ => match r[2]? with
  | some (some (VL.W.int i)) => i.natAbs + 1
  | _ => 1
abbrev s_is_whole : Stmt := top 5
theorem sc_is_whole : FnScope ["value"] ["value"] (defScope s_is_whole) := ⟨rfl, rfl, rfl, by decide +kernel, rfl, by decide +kernel, by decide +kernel⟩
def m_is_whole : MFn := mDef ["value"] ((mRet (mAndV (mB mIsi (mCons (mVar 0) (mCons (mC (.ty "int")) mNil))) (mNotV (mB mIsi (mCons (mVar 0) (mCons (mC (.ty "bool")) mNil)))))))
abbrev s_is_whole_pair : Stmt := top 6
theorem sc_is_whole_pair : FnScope ["value"] ["value"] (defScope s_is_whole_pair) := ⟨rfl, rfl, rfl, by decide +kernel, rfl, by decide +kernel, by decide +kernel⟩
def m_is_whole_pair : MFn := mDef ["value"] ((mSeq (mIfS (mOrT (mNotT (mT (mB mIsi (mCons (mVar 0) (mCons (mC (.ty "tuple")) mNil))))) (mT (m2 (mEq true) (mB mLen (mCons (mVar 0) mNil)) (mC (.int 2))))) (mRet (mC (.bl false))) mNext)
    (mRet (mAndV (mCall 1 m_is_whole (mCons (m2 mIx (mVar 0) (mC (.int 0))) mNil)) (mCall 1 m_is_whole (mCons (m2 mIx (mVar 0) (mC (.int 1))) mNil))))))
abbrev s_sign_of : Stmt := top 7
theorem sc_sign_of : FnScope ["number"] ["number"] (defScope s_sign_of) := ⟨rfl, rfl, rfl, by decide +kernel, rfl, by decide +kernel, by decide +kernel⟩
def m_sign_of : MFn := mDef ["number"] ((mSeq (mIfS (mT (m2 mLt (mVar 0) (mC (.int 0)))) (mRet (m1 mNeg (mC (.int 1)))) mNext)
    (mSeq (mIfS (mT (m2 mGt (mVar 0) (mC (.int 0)))) (mRet (mC (.int 1))) mNext)
    (mRet (mC (.int 0))))))
abbrev s_common_divisor : Stmt := top 8
theorem sc_common_divisor : FnScope ["one", "other"] ["one", "other"] (defScope s_common_divisor) := ⟨rfl, rfl, rfl, by decide +kernel, rfl, by decide +kernel, by decide +kernel⟩
def m_common_divisor : MFn := mDef ["one", "other"] ((mSeq (mWhile fuel_common_divisor (mT (m2 (mEq true) (mVar 1) (mC (.int 0)))) (mPar 0 1 (mCons (mVar 1) (mCons (m2 mMod (mVar 0) (mVar 1)) mNil))))
    (mRet (mB mAbs (mCons (mVar 0) mNil)))))
abbrev s_is_fraction : Stmt := top 10
theorem sc_is_fraction : FnScope ["value"] ["value"] (defScope s_is_fraction) := ⟨rfl, rfl, rfl, by decide +kernel, rfl, by decide +kernel, by decide +kernel⟩
def m_is_fraction : MFn := mDef ["value"] ((mRet (mAndV (mCall 1 m_is_whole_pair (mCons (mVar 0) mNil)) (mAndV (m2 mGe (m2 mIx (mVar 0) (mC (.int 1))) (mC (.int 1))) (m2 (mEq false) (mCall 2 m_common_divisor (mCons (m2 mIx (mVar 0) (mC (.int 0))) (mCons (m2 mIx (mVar 0) (mC (.int 1))) mNil))) (mC (.int 1)))))))
abbrev s_require_fraction : Stmt := top 11
theorem sc_require_fraction : FnScope ["value"] ["value"] (defScope s_require_fraction) := ⟨rfl, rfl, rfl, by decide +kernel, rfl, by decide +kernel, by decide +kernel⟩
def m_require_fraction : MFn := mDef ["value"] ((mIfS (mNotT (mT (mCall 1 m_is_fraction (mCons (mVar 0) mNil)))) (mRaise "InvalidNumber" "value" (mCons (mVar 0) mNil)) mNext))
abbrev s_fraction : Stmt := top 12
theorem sc_fraction : FnScope ["number", "divisor", "common"] ["number", "divisor"] (defScope s_fraction) := ⟨rfl, rfl, rfl, by decide +kernel, rfl, by decide +kernel, by decide +kernel⟩
def m_fraction : MFn := mDef ["number", "divisor", "common"] ((mSeq (mIfS (mNotT (mT (mCall 1 m_is_whole (mCons (mVar 0) mNil)))) (mRaise "InvalidNumber" "value" (mCons (mVar 0) mNil)) mNext)
    (mSeq (mIfS (mOrT (mNotT (mT (mCall 1 m_is_whole (mCons (mVar 1) mNil)))) (mT (m2 (mEq false) (mVar 1) (mC (.int 0))))) (mRaise "InvalidNumber" "value" (mCons (mVar 1) mNil)) mNext)
    (mSeq (mSet 2 (mCall 2 m_common_divisor (mCons (mVar 0) (mCons (mVar 1) mNil))))
    (mSeq (mIfS (mT (m2 mLt (mVar 1) (mC (.int 0)))) (mSet 2 (m1 mNeg (mVar 2))) mNext)
    (mRet (mTup (mCons (m2 mDiv (mVar 0) (mVar 2)) (mCons (m2 mDiv (mVar 1) (mVar 2)) mNil)))))))))
abbrev s_order_of : Stmt := top 14
theorem sc_order_of : FnScope ["one", "other"] ["one", "other"] (defScope s_order_of) := ⟨rfl, rfl, rfl, by decide +kernel, rfl, by decide +kernel, by decide +kernel⟩
def m_order_of : MFn := mDef ["one", "other"] ((mRet (mCall 1 m_sign_of (mCons (m2 mSub (m2 mMul (m2 mIx (mVar 0) (mC (.int 0))) (m2 mIx (mVar 1) (mC (.int 1)))) (m2 mMul (m2 mIx (mVar 1) (mC (.int 0))) (m2 mIx (mVar 0) (mC (.int 1))))) mNil))))
abbrev s_compared : Stmt := top 13
theorem sc_compared : FnScope ["one", "other"] ["one", "other"] (defScope s_compared) := ⟨rfl, rfl, rfl, by decide +kernel, rfl, by decide +kernel, by decide +kernel⟩
def m_compared : MFn := mDef ["one", "other"] ((mSeq (mExpr (mCall 1 m_require_fraction (mCons (mVar 0) mNil)))
    (mSeq (mExpr (mCall 1 m_require_fraction (mCons (mVar 1) mNil)))
    (mRet (mCall 2 m_order_of (mCons (mVar 0) (mCons (mVar 1) mNil)))))))
abbrev s_is_line : Stmt := top 16
theorem sc_is_line : FnScope ["value"] ["value"] (defScope s_is_line) := ⟨rfl, rfl, rfl, by decide +kernel, rfl, by decide +kernel, by decide +kernel⟩
def m_is_line : MFn := mDef ["value"] ((mRet (mCall 1 m_is_whole_pair (mCons (mVar 0) mNil))))
abbrev s_require_line : Stmt := top 17
theorem sc_require_line : FnScope ["value"] ["value"] (defScope s_require_line) := ⟨rfl, rfl, rfl, by decide +kernel, rfl, by decide +kernel, by decide +kernel⟩
def m_require_line : MFn := mDef ["value"] ((mIfS (mNotT (mT (mCall 1 m_is_line (mCons (mVar 0) mNil)))) (mRaise "InvalidNumber" "value" (mCons (mVar 0) mNil)) mNext))
abbrev s_value_at : Stmt := top 18
theorem sc_value_at : FnScope ["line", "x"] ["line", "x"] (defScope s_value_at) := ⟨rfl, rfl, rfl, by decide +kernel, rfl, by decide +kernel, by decide +kernel⟩
def m_value_at : MFn := mDef ["line", "x"] ((mSeq (mExpr (mCall 1 m_require_line (mCons (mVar 0) mNil)))
    (mSeq (mExpr (mCall 1 m_require_fraction (mCons (mVar 1) mNil)))
    (mRet (mCall 2 m_fraction (mCons (m2 mAdd (m2 mMul (m2 mIx (mVar 0) (mC (.int 0))) (m2 mIx (mVar 1) (mC (.int 0)))) (m2 mMul (m2 mIx (mVar 0) (mC (.int 1))) (m2 mIx (mVar 1) (mC (.int 1))))) (mCons (m2 mIx (mVar 1) (mC (.int 1))) mNil)))))))
abbrev s_sign_at : Stmt := top 20
theorem sc_sign_at : FnScope ["line", "x"] ["line", "x"] (defScope s_sign_at) := ⟨rfl, rfl, rfl, by decide +kernel, rfl, by decide +kernel, by decide +kernel⟩
def m_sign_at : MFn := mDef ["line", "x"] ((mRet (mCall 1 m_sign_of (mCons (m2 mIx (mCall 2 m_value_at (mCons (mVar 0) (mCons (mVar 1) mNil))) (mC (.int 0))) mNil))))
abbrev s_sign_towards : Stmt := top 21
theorem sc_sign_towards : FnScope ["line", "high"] ["line", "high"] (defScope s_sign_towards) := ⟨rfl, rfl, rfl, by decide +kernel, rfl, by decide +kernel, by decide +kernel⟩
def m_sign_towards : MFn := mDef ["line", "high"] ((mSeq (mIfS (mT (m2 (mIs false) (mVar 1) (mC .non))) (mRet (mCall 1 m_sign_of (mCons (m2 mIx (mVar 0) (mC (.int 0))) mNil))) mNext)
    (mRet (mCall 2 m_sign_at (mCons (mVar 0) (mCons (mVar 1) mNil))))))
abbrev s_order_within : Stmt := top 19
theorem sc_order_within : FnScope ["one", "other", "low", "high", "difference", "first", "last"] ["one", "other", "low", "high"] (defScope s_order_within) := ⟨rfl, rfl, rfl, by decide +kernel, rfl, by decide +kernel, by decide +kernel⟩
def m_order_within : MFn := mDef ["one", "other", "low", "high", "difference", "first", "last"] ((mSeq (mExpr (mCall 1 m_require_line (mCons (mVar 0) mNil)))
    (mSeq (mExpr (mCall 1 m_require_line (mCons (mVar 1) mNil)))
    (mSeq (mExpr (mCall 1 m_require_fraction (mCons (mVar 2) mNil)))
    (mSeq (mIfS (mT (m2 (mIs true) (mVar 3) (mC .non))) (mSeq (mExpr (mCall 1 m_require_fraction (mCons (mVar 3) mNil)))
    (mIfS (mT (m2 mGe (mCall 2 m_compared (mCons (mVar 2) (mCons (mVar 3) mNil))) (mC (.int 0)))) (mRaise "InvalidRange" "value" (mCons (mTup (mCons (mVar 2) (mCons (mVar 3) mNil))) mNil)) mNext)) mNext)
    (mSeq (mSet 4 (mTup (mCons (m2 mSub (m2 mIx (mVar 0) (mC (.int 0))) (m2 mIx (mVar 1) (mC (.int 0)))) (mCons (m2 mSub (m2 mIx (mVar 0) (mC (.int 1))) (m2 mIx (mVar 1) (mC (.int 1)))) mNil))))
    (mSeq (mSet 5 (mCall 2 m_sign_at (mCons (mVar 4) (mCons (mVar 2) mNil))))
    (mSeq (mSet 6 (mCall 2 m_sign_towards (mCons (mVar 4) (mCons (mVar 3) mNil))))
    (mSeq (mIfS (mT (m2 mLt (m2 mMul (mVar 5) (mVar 6)) (mC (.int 0)))) (mRet (mC .non)) mNext)
    (mRet (mCall 1 m_sign_of (mCons (m2 mAdd (mVar 5) (mVar 6)) mNil))))))))))))
abbrev s__law_numbers : Stmt := top 23
theorem sc__law_numbers : FnScope ["_law_cell", "_law_salt", "_law_sizes", "_law_whole", "_law_left", "_law_result", "_law_k", "_law_one"] ["_law_cell", "_law_salt", "_law_sizes"] (defScope s__law_numbers) := ⟨rfl, rfl, rfl, by decide +kernel, rfl, by decide +kernel, by decide +kernel⟩
def m__law_numbers : MFn := mDef ["_law_cell", "_law_salt", "_law_sizes", "_law_whole", "_law_left", "_law_result", "_law_k", "_law_one"] ((mSeq (mSet 3 (mB mMax (mCons (mVar 0) (mCons (m2 mSub (m1 mNeg (mC (.int 1))) (mVar 0)) mNil))))
    (mSeq (mSet 4 (mVar 3))
    (mSeq (mSet 5 (mLst mNil))
    (mSeq (mFor (mRng (mCons (mB mLen (mCons (mVar 2) mNil)) mNil)) (mGn 6) (mIfS (mAndT (mT (m2 mGe (mVar 3) (m2 mPow (mC (.int 10)) (mC (.int 18))))) (mT (m2 mGt (mVar 4) (mC (.int 0))))) (mSeq (mExpr (mApp (mVar 5) (m2 mMod (mVar 4) (m2 mIx (mVar 2) (mVar 6)))))
    (mSet 4 (m2 mDiv (mVar 4) (m2 mIx (mVar 2) (mVar 6))))) (mSeq (mSet 7 (m2 mMod (m2 mPow (m2 mAdd (m2 mAdd (m2 mMod (mVar 3) (mC (.int 2147483629))) (m2 mMul (mC (.int 7919)) (mVar 1))) (mC (.int 1))) (mC (.int 3))) (mC (.int 2147483647))))
    (mSeq (mSet 7 (m2 mMod (m2 mMul (m2 mAdd (mVar 7) (m2 mMul (mC (.int 104729)) (m2 mAdd (mVar 6) (mC (.int 1))))) (m2 mAdd (mVar 6) (mC (.int 3)))) (mC (.int 2147483629))))
    (mSeq (mSet 7 (m2 mMod (m2 mMul (m2 mMod (m2 mPow (mVar 7) (mC (.int 5))) (mC (.int 2147483647))) (mC (.int 48271))) (mC (.int 2147483629))))
    (mExpr (mApp (mVar 5) (m2 mMod (m2 mDiv (mVar 7) (mC (.int 16))) (m2 mIx (mVar 2) (mVar 6))))))))))
    (mRet (mVar 5)))))))
abbrev s__law_draw : Stmt := top 24
theorem sc__law_draw : FnScope ["_law_state", "_law_many", "_law_at"] ["_law_state", "_law_many"] (defScope s__law_draw) := ⟨rfl, rfl, rfl, by decide +kernel, rfl, by decide +kernel, by decide +kernel⟩
def m__law_draw : MFn := mDef ["_law_state", "_law_many", "_law_at"] ((mSeq (mSet 2 (m2 mIx (mVar 0) (mC (.int 1))))
    (mSeq (mAsg (m2 mAdd (mVar 2) (mC (.int 1))) (mSub1 (mVar 0) (mC (.int 1))))
    (mRet (mIf (mT (m2 mLt (mVar 2) (mB mLen (mCons (m2 mIx (mVar 0) (mC (.int 0))) mNil)))) (m2 mMod (mB mInt (mCons (m2 mIx (m2 mIx (mVar 0) (mC (.int 0))) (mVar 2)) mNil)) (mVar 1)) (mC (.int 0)))))))
abbrev s__law_fraction : Stmt := top 25
theorem sc__law_fraction : FnScope ["_law_number", "_law_divisor", "_law_one", "_law_other"] ["_law_number", "_law_divisor"] (defScope s__law_fraction) := ⟨rfl, rfl, rfl, by decide +kernel, rfl, by decide +kernel, by decide +kernel⟩
def m__law_fraction : MFn := mDef ["_law_number", "_law_divisor", "_law_one", "_law_other"] ((mSeq (mPar 2 3 (mCons (mB mMax (mCons (mVar 0) (mCons (m1 mNeg (mVar 0)) mNil))) (mCons (mVar 1) mNil)))
    (mSeq (mWhile fuel__law_fraction (mT (m2 mGt (mVar 2) (mC (.int 0)))) (mPar 2 3 (mCons (m2 mMod (mVar 3) (mVar 2)) (mCons (mVar 2) mNil))))
    (mRet (mTup (mCons (m2 mDiv (mVar 0) (mVar 3)) (mCons (m2 mDiv (mVar 1) (mVar 3)) mNil)))))))
abbrev s__law_small : Stmt := top 26
theorem sc__law_small : FnScope ["_law_state", "_law_some"] ["_law_state"] (defScope s__law_small) := ⟨rfl, rfl, rfl, by decide +kernel, rfl, by decide +kernel, by decide +kernel⟩
def m__law_small : MFn := mDef ["_law_state", "_law_some"] ((mSeq (mSet 1 (mLst (mCons (mC (.int 0)) (mCons (mC (.int 1)) (mCons (mC (.int 2)) (mCons (mCall 2 m__law_draw (mCons (mVar 0) (mCons (mC (.int 9)) mNil))) (mCons (m2 mAdd (m2 mPow (mC (.int 10)) (mC (.int 25))) (mCall 2 m__law_draw (mCons (mVar 0) (mCons (mC (.int 9)) mNil)))) mNil)))))))
    (mRet (m2 mMul (m2 mIx (mVar 1) (mCall 2 m__law_draw (mCons (mVar 0) (mCons (mC (.int 5)) mNil)))) (m2 mIx (mLst (mCons (mC (.int 1)) (mCons (m1 mNeg (mC (.int 1))) mNil))) (mCall 2 m__law_draw (mCons (mVar 0) (mCons (mC (.int 2)) mNil))))))))
abbrev s__law_sign : Stmt := top 27
theorem sc__law_sign : FnScope ["_law_line", "_law_x", "_law_value"] ["_law_line", "_law_x"] (defScope s__law_sign) := ⟨rfl, rfl, rfl, by decide +kernel, rfl, by decide +kernel, by decide +kernel⟩
def m__law_sign : MFn := mDef ["_law_line", "_law_x", "_law_value"] ((mSeq (mSet 2 (m2 mAdd (m2 mMul (m2 mIx (mVar 0) (mC (.int 0))) (m2 mIx (mVar 1) (mC (.int 0)))) (m2 mMul (m2 mIx (mVar 0) (mC (.int 1))) (m2 mIx (mVar 1) (mC (.int 1))))))
    (mRet (m2 mSub (mB mInt (mCons (m2 mGt (mVar 2) (mC (.int 0))) mNil)) (mB mInt (mCons (m2 mLt (mVar 2) (mC (.int 0))) mNil))))))
abbrev s__law_due : Stmt := top 28
theorem sc__law_due : FnScope ["_law_one", "_law_other", "_law_low", "_law_high", "_law_gap", "_law_far", "_law_last", "_law_signs"] ["_law_one", "_law_other", "_law_low", "_law_high"] (defScope s__law_due) := ⟨rfl, rfl, rfl, by decide +kernel, rfl, by decide +kernel, by decide +kernel⟩
def m__law_due : MFn := mDef ["_law_one", "_law_other", "_law_low", "_law_high", "_law_gap", "_law_far", "_law_last", "_law_signs"] ((mSeq (mSet 4 (mTup (mCons (m2 mSub (m2 mIx (mVar 0) (mC (.int 0))) (m2 mIx (mVar 1) (mC (.int 0)))) (mCons (m2 mSub (m2 mIx (mVar 0) (mC (.int 1))) (m2 mIx (mVar 1) (mC (.int 1)))) mNil))))
    (mSeq (mSet 5 (mIf (mT (m2 (mIs false) (mVar 3) (mC .non))) (mVar 4) (mVar 3)))
    (mSeq (mSet 6 (mIf (mT (m2 (mIs true) (mVar 3) (mC .non))) (mCall 2 m__law_sign (mCons (mVar 4) (mCons (mVar 3) mNil))) (mCall 2 m__law_sign (mCons (mTup (mCons (mC (.int 0)) (mCons (mIf (mT (m2 (mEq true) (m2 mIx (mVar 5) (mC (.int 0))) (mC (.int 0)))) (m2 mIx (mVar 5) (mC (.int 0))) (m2 mIx (mVar 5) (mC (.int 1)))) mNil))) (mCons (mTup (mCons (mC (.int 0)) (mCons (mC (.int 1)) mNil))) mNil)))))
    (mSeq (mSet 7 (mLst (mCons (mCall 2 m__law_sign (mCons (mVar 4) (mCons (mVar 2) mNil))) (mCons (mVar 6) mNil))))
    (mRet (mIf (mT (m2 (mEq false) (mB mSorted (mCons (mVar 7) mNil)) (mLst (mCons (m1 mNeg (mC (.int 1))) (mCons (mC (.int 1)) mNil))))) (mC .non) (m2 mIx (m2 mAdd (mVar 7) (mLst (mCons (mC (.int 0)) mNil))) (mB mInt (mCons (m2 (mEq false) (m2 mIx (mVar 7) (mC (.int 0))) (mC (.int 0))) mNil))))))))))
abbrev s__law_range : Stmt := top 29
theorem sc__law_range : FnScope ["_law_state", "_law_low", "_law_more", "_law_high"] ["_law_state"] (defScope s__law_range) := ⟨rfl, rfl, rfl, by decide +kernel, rfl, by decide +kernel, by decide +kernel⟩
def m__law_range : MFn := mDef ["_law_state", "_law_low", "_law_more", "_law_high"] ((mSeq (mSet 1 (mCall 2 m__law_fraction (mCons (mCall 1 m__law_small (mCons (mVar 0) mNil)) (mCons (m2 mAdd (mC (.int 1)) (mCall 2 m__law_draw (mCons (mVar 0) (mCons (mC (.int 12)) mNil)))) mNil))))
    (mSeq (mSet 2 (mCall 2 m__law_fraction (mCons (m2 mAdd (mC (.int 1)) (mCall 2 m__law_draw (mCons (mVar 0) (mCons (mC (.int 30)) mNil)))) (mCons (m2 mAdd (mC (.int 1)) (mCall 2 m__law_draw (mCons (mVar 0) (mCons (mC (.int 12)) mNil)))) mNil))))
    (mSeq (mSet 3 (mCall 2 m__law_fraction (mCons (m2 mAdd (m2 mMul (m2 mIx (mVar 1) (mC (.int 0))) (m2 mIx (mVar 2) (mC (.int 1)))) (m2 mMul (m2 mIx (mVar 2) (mC (.int 0))) (m2 mIx (mVar 1) (mC (.int 1))))) (mCons (m2 mMul (m2 mIx (mVar 1) (mC (.int 1))) (m2 mIx (mVar 2) (mC (.int 1)))) mNil))))
    (mRet (mLst (mCons (mVar 1) (mCons (mIf (mT (m2 mGt (mCall 2 m__law_draw (mCons (mVar 0) (mCons (mC (.int 4)) mNil))) (mC (.int 0)))) (mVar 3) (mC .non)) mNil))))))))
abbrev s__law_inner : Stmt := top 30
theorem sc__law_inner : FnScope ["_law_low", "_law_high"] ["_law_low", "_law_high"] (defScope s__law_inner) := ⟨rfl, rfl, rfl, by decide +kernel, rfl, by decide +kernel, by decide +kernel⟩
def m__law_inner : MFn := mDef ["_law_low", "_law_high"] ((mSeq (mIfS (mT (m2 (mIs false) (mVar 1) (mC .non))) (mRet (mLst (mCons (mTup (mCons (m2 mAdd (m2 mIx (mVar 0) (mC (.int 0))) (m2 mIx (mVar 0) (mC (.int 1)))) (mCons (m2 mIx (mVar 0) (mC (.int 1))) mNil))) (mCons (mTup (mCons (m2 mAdd (m2 mMul (m2 mIx (mVar 0) (mC (.int 0))) (mC (.int 2))) (m2 mPow (mC (.int 10)) (mC (.int 45)))) (mCons (m2 mMul (mC (.int 2)) (m2 mIx (mVar 0) (mC (.int 1)))) mNil))) mNil)))) mNext)
    (mRet (mLst (mCons (mTup (mCons (m2 mAdd (m2 mMul (m2 mIx (mVar 0) (mC (.int 0))) (m2 mIx (mVar 1) (mC (.int 1)))) (m2 mMul (m2 mIx (mVar 1) (mC (.int 0))) (m2 mIx (mVar 0) (mC (.int 1))))) (mCons (m2 mMul (m2 mMul (mC (.int 2)) (m2 mIx (mVar 0) (mC (.int 1)))) (m2 mIx (mVar 1) (mC (.int 1)))) mNil))) mNil)))))
abbrev s__law_heard : Stmt := top 32
def suA_heard0 (ad : Addr) (j : Nat) : Ws → Hv → Res W := (mLst (mCons (mC (.str ("number" : Str))) (mCons (mB mReprE (mCons (mXfA 1 ad j "value") mNil)) mNil)))
def su0_heard0 (j : Nat) : Ws → Hv → Res W := (mLst (mCons (mC (.str ("number" : Str))) (mCons (mB mReprE (mCons (mXf j "value") mNil)) mNil)))
def su_heard0 (j : Nat) : MS := mRet (su0_heard0 j)
def cl_heard0 (c : Cs) : Cl := ⟨.ref c.InvalidNumber, fun v => v = .ref c.InvalidNumber, fun ad j => mRet (suA_heard0 ad j)⟩
def suA_heard1 (ad : Addr) (j : Nat) : Ws → Hv → Res W := (mLst (mCons (mC (.str ("range" : Str))) (mCons (mXfA 1 ad j "value") (mCons (mIsxA 1 ad j true) mNil))))
def su0_heard1 (j : Nat) : Ws → Hv → Res W := (mLst (mCons (mC (.str ("range" : Str))) (mCons (mXf j "value") (mCons (mIsx j true) mNil))))
def su_heard1 (j : Nat) : MS := mRet (su0_heard1 j)
def cl_heard1 (c : Cs) : Cl := ⟨.ref c.InvalidRange, fun v => v = .ref c.InvalidRange, fun ad j => mRet (suA_heard1 ad j)⟩
theorem sc__law_heard : FnScope ["_law_call", "e"] ["_law_call"] (defScope s__law_heard) := ⟨rfl, rfl, rfl, by decide +kernel, rfl, by decide +kernel, by decide +kernel⟩
def sel_heard : String → Option (Nat → MS) := fun c => if c = "InvalidNumber" then some su_heard0 else if c = "InvalidRange" then some su_heard1 else none
abbrev s__law_right : Stmt := top 31
theorem sc__law_right : FnScope ["_law_state", "_law_one", "_law_low", "_law_high", "_law_slope", "_law_gap", "_law_crossing", "_law_other", "_law_due_here", "_law_told", "_law_turned", "_law_x"] ["_law_state"] (defScope s__law_right) := ⟨rfl, rfl, rfl, by decide +kernel, rfl, by decide +kernel, by decide +kernel⟩
def m__law_right : MFn := mDef ["_law_state", "_law_one", "_law_low", "_law_high", "_law_slope", "_law_gap", "_law_crossing", "_law_other", "_law_due_here", "_law_told", "_law_turned", "_law_x"] ((mSeq (mAsg (mTup (mCons (mTup (mCons (mCall 1 m__law_small (mCons (mVar 0) mNil)) (mCons (mCall 1 m__law_small (mCons (mVar 0) mNil)) mNil))) (mCons (mCall 1 m__law_range (mCons (mVar 0) mNil)) mNil))) (mGs 2 (mGcons (mGn 1) (mGcons (mGs 2 (mGcons (mGn 2) (mGcons (mGn 3) mGnil))) mGnil))))
    (mSeq (mSet 4 (mCall 1 m__law_small (mCons (mVar 0) mNil)))
    (mSeq (mSet 5 (m2 mSub (m2 mAdd (m2 mMul (m2 mIx (mVar 1) (mC (.int 0))) (m2 mIx (mVar 2) (mC (.int 0)))) (m2 mMul (m2 mIx (mVar 1) (mC (.int 1))) (m2 mIx (mVar 2) (mC (.int 1))))) (m2 mMul (mVar 4) (m2 mIx (mVar 2) (mC (.int 0))))))
    (mSeq (mSet 6 (mTup (mCons (mVar 4) (mCons (mB mInt (mCons (m2 mDiv (mVar 5) (m2 mIx (mVar 2) (mC (.int 1)))) mNil)) mNil))))
    (mSeq (mFor (mSrc (mLst (mCons (mTup (mCons (mCall 1 m__law_small (mCons (mVar 0) mNil)) (mCons (mCall 1 m__law_small (mCons (mVar 0) mNil)) mNil))) (mCons (mVar 6) (mCons (mVar 1) (mCons (mTup (mCons (m2 mIx (mVar 1) (mC (.int 0))) (mCons (m2 mAdd (m2 mIx (mVar 1) (mC (.int 1))) (mC (.int 1))) mNil))) (mCons (mTup (mCons (m2 mAdd (m2 mIx (mVar 1) (mC (.int 0))) (mC (.int 1))) (mCons (m2 mIx (mVar 1) (mC (.int 1))) mNil))) mNil))))))) (mGn 7) (mSeq (mPar 8 9 (mCons (mCall 4 m__law_due (mCons (mVar 1) (mCons (mVar 7) (mCons (mVar 2) (mCons (mVar 3) mNil))))) (mCons (mCall 4 m_order_within (mCons (mVar 1) (mCons (mVar 7) (mCons (mVar 2) (mCons (mVar 3) mNil))))) mNil)))
    (mSeq (mSet 10 (mCall 4 m_order_within (mCons (mVar 7) (mCons (mVar 1) (mCons (mVar 2) (mCons (mVar 3) mNil))))))
    (mSeq (mIfS (mOrT (mT (m2 (mEq true) (mB mReprE (mCons (mVar 9) mNil)) (mB mReprE (mCons (mVar 8) mNil)))) (mT (m2 (mEq true) (mVar 10) (mIf (mT (m2 (mIs false) (mVar 8) (mC .non))) (mC .non) (m1 mNeg (mVar 8)))))) (mRet (mC (.bl false))) mNext)
    (mFor (mSrc (mCall 2 m__law_inner (mCons (mVar 2) (mCons (mVar 3) mNil)))) (mGn 11) (mIfS (mAndT (mT (m2 (mIs true) (mVar 8) (mC .non))) (mT (m2 (mEq true) (mCall 2 m__law_sign (mCons (mTup (mCons (m2 mSub (m2 mIx (mVar 1) (mC (.int 0))) (m2 mIx (mVar 7) (mC (.int 0)))) (mCons (m2 mSub (m2 mIx (mVar 1) (mC (.int 1))) (m2 mIx (mVar 7) (mC (.int 1)))) mNil))) (mCons (mVar 11) mNil))) (mVar 8)))) (mRet (mC (.bl false))) mNext))))))
    (mRet (mC (.bl true)))))))))
abbrev s__law_odd_right : Stmt := top 33
theorem sc__law_odd_right : FnScope ["_law_odd", "_law_low", "_law_high"] [] (defScope s__law_odd_right) := ⟨rfl, rfl, rfl, by decide +kernel, rfl, by decide +kernel, by decide +kernel⟩
def m__law_odd_right : MFn := mDef ["_law_odd", "_law_low", "_law_high"] ((mSeq (mFor (mSrc (mLst (mCons (mC .non) (mCons (mC (.int 5)) (mCons (mLst (mCons (mC (.int 1)) (mCons (mC (.int 2)) mNil))) (mCons (mTup (mCons (mC (.int 1)) mNil)) (mCons (mTup (mCons (mC (.bl true)) (mCons (mC (.int 1)) mNil))) (mCons (mTup (mCons (mC (.str ("1" : Str))) (mCons (mC (.int 2)) mNil))) mNil)))))))) (mGn 0) (mSeq (mIfS (mT (m2 (mEq true) (mHeardM sel_heard (mCall 4 m_order_within (mCons (mVar 0) (mCons (mC .non) (mCons (mC .non) (mCons (mC .non) mNil)))))) (mLst (mCons (mC (.str ("number" : Str))) (mCons (mB mReprE (mCons (mVar 0) mNil)) mNil))))) (mRet (mC (.bl false))) mNext)
    (mIfS (mT (m2 (mEq true) (mHeardM sel_heard (mCall 4 m_order_within (mCons (mTup (mCons (mC (.int 1)) (mCons (mC (.int 2)) mNil))) (mCons (mVar 0) (mCons (mC .non) (mCons (mC .non) mNil)))))) (mLst (mCons (mC (.str ("number" : Str))) (mCons (mB mReprE (mCons (mVar 0) mNil)) mNil))))) (mRet (mC (.bl false))) mNext)))
    (mSeq (mFor (mSrc (mLst (mCons (mC (.int 5)) (mCons (mTup (mCons (mC (.int 2)) (mCons (mC (.int 4)) mNil))) (mCons (mTup (mCons (mC (.int 1)) (mCons (mC (.int 0)) mNil))) (mCons (mLst (mCons (mC (.int 1)) (mCons (mC (.int 2)) mNil))) (mCons (mC (.str ("1" : Str))) (mCons (mC (.bl true)) mNil)))))))) (mGn 0) (mSeq (mIfS (mT (m2 (mEq true) (mHeardM sel_heard (mCall 4 m_order_within (mCons (mTup (mCons (mC (.int 1)) (mCons (mC (.int 2)) mNil))) (mCons (mTup (mCons (mC (.int 1)) (mCons (mC (.int 2)) mNil))) (mCons (mVar 0) (mCons (mVar 0) mNil)))))) (mLst (mCons (mC (.str ("number" : Str))) (mCons (mB mReprE (mCons (mVar 0) mNil)) mNil))))) (mRet (mC (.bl false))) mNext)
    (mIfS (mT (m2 (mEq true) (mHeardM sel_heard (mCall 4 m_order_within (mCons (mTup (mCons (mC (.int 1)) (mCons (mC (.int 2)) mNil))) (mCons (mTup (mCons (mC (.int 1)) (mCons (mC (.int 2)) mNil))) (mCons (mTup (mCons (mC (.int 1)) (mCons (mC (.int 2)) mNil))) (mCons (mVar 0) mNil)))))) (mLst (mCons (mC (.str ("number" : Str))) (mCons (mB mReprE (mCons (mVar 0) mNil)) mNil))))) (mRet (mC (.bl false))) mNext)))
    (mSeq (mFor (mSrc (mLst (mCons (mTup (mCons (mTup (mCons (mC (.int 1)) (mCons (mC (.int 2)) mNil))) (mCons (mTup (mCons (mC (.int 1)) (mCons (mC (.int 2)) mNil))) mNil))) (mCons (mTup (mCons (mTup (mCons (mC (.int 1)) (mCons (mC (.int 2)) mNil))) (mCons (mTup (mCons (mC (.int 1)) (mCons (mC (.int 3)) mNil))) mNil))) (mCons (mTup (mCons (mTup (mCons (mC (.int 0)) (mCons (mC (.int 1)) mNil))) (mCons (mTup (mCons (m1 mNeg (mC (.int 1))) (mCons (mC (.int 5)) mNil))) mNil))) mNil))))) (mGs 2 (mGcons (mGn 1) (mGcons (mGn 2) mGnil))) (mIfS (mT (m2 (mEq true) (mHeardM sel_heard (mCall 4 m_order_within (mCons (mTup (mCons (mC (.int 1)) (mCons (mC (.int 2)) mNil))) (mCons (mTup (mCons (mC (.int 1)) (mCons (mC (.int 2)) mNil))) (mCons (mVar 1) (mCons (mVar 2) mNil)))))) (mLst (mCons (mC (.str ("range" : Str))) (mCons (mTup (mCons (mVar 1) (mCons (mVar 2) mNil))) (mCons (mC (.bl true)) mNil)))))) (mRet (mC (.bl false))) mNext))
    (mRet (m2 (mEq false) (mHeardM sel_heard (mCall 4 m_order_within (mCons (mTup (mCons (mC (.int 1)) (mCons (mC (.int 2)) mNil))) (mCons (mTup (mCons (mC (.int 1)) (mCons (mC (.int 2)) mNil))) (mCons (mC .non) (mCons (mC .non) mNil)))))) (mLst (mCons (mC (.str ("number" : Str))) (mCons (mC (.str ("None" : Str))) mNil)))))))))
abbrev s_law : Stmt := top 34
theorem sc_law : FnScope ["_law_script", "_law_k", "_law_cell", "_law_state", "_law_turn"] ["_law_script"] (defScope s_law) := ⟨rfl, rfl, rfl, by decide +kernel, rfl, by decide +kernel, by decide +kernel⟩
def m_law : MFn := mDef ["_law_script", "_law_k", "_law_cell", "_law_state", "_law_turn"] ((mSeq (mFor (mEnum (mCons (m2 mAdd (mSl (mVar 0) (mPart none) (mPart (some (mC (.int 5))))) (m2 mMul (mLst (mCons (mC (.int 7)) mNil)) (mB mInt (mCons (m2 (mEq false) (mVar 0) (mLst mNil)) mNil)))) mNil)) (mGs 2 (mGcons (mGn 1) (mGcons (mGn 2) mGnil))) (mSeq (mSet 3 (mLst (mCons (mCall 3 m__law_numbers (mCons (mVar 2) (mCons (m2 mAdd (mC (.int 400)) (mVar 1)) (mCons (m2 mMul (mLst (mCons (mC (.int 420)) mNil)) (mC (.int 120))) mNil)))) (mCons (mC (.int 0)) mNil))))
    (mIfS (mOrT (mT (m2 (mEq true) (mLc (mRng (mCons (mC (.int 6)) mNil)) 4 (mNotT (mT (mCall 1 m__law_right (mCons (mVar 3) mNil)))) (mVar 4)) (mLst mNil))) (mNotT (mT (mFresh m__law_odd_right)))) (mRet (mC (.bl false))) mNext)))
    (mSeq (mIfS (mOrT (mT (m2 (mEq true) (mCall 4 m_order_within (mCons (mTup (mCons (mC (.int 2)) (mCons (mC (.int 1)) mNil))) (mCons (mTup (mCons (mC (.int 0)) (mCons (mC (.int 4)) mNil))) (mCons (mTup (mCons (mC (.int 0)) (mCons (mC (.int 1)) mNil))) (mCons (mTup (mCons (mC (.int 3)) (mCons (mC (.int 2)) mNil))) mNil))))) (m1 mNeg (mC (.int 1))))) (mT (m2 (mEq true) (mCall 4 m_order_within (mCons (mTup (mCons (mC (.int 2)) (mCons (mC (.int 1)) mNil))) (mCons (mTup (mCons (mC (.int 0)) (mCons (mC (.int 4)) mNil))) (mCons (mTup (mCons (mC (.int 3)) (mCons (mC (.int 2)) mNil))) (mCons (mC .non) mNil))))) (mC (.int 1))))) (mRet (mC (.bl false))) mNext)
    (mRet (m2 (mIs false) (mCall 4 m_order_within (mCons (mTup (mCons (mC (.int 2)) (mCons (mC (.int 1)) mNil))) (mCons (mTup (mCons (mC (.int 0)) (mCons (mC (.int 4)) mNil))) (mCons (mTup (mCons (mC (.int 1)) (mCons (mC (.int 1)) mNil))) (mCons (mC .non) mNil))))) (mC .non))))))
structure Gx (P : Program) (w : World) (K : PySem.W.Frag) (mg : Str → Option Value) (base : Heap) where
  c : Cs
  f_is_whole : Addr
  d_is_whole : FuncData
  F_is_whole : Fun K "is_whole" "is_whole" s_is_whole f_is_whole d_is_whole
  g_is_whole : mg "is_whole" = some (.ref f_is_whole)
  n_is_whole : Binds K d_is_whole ["value"] []
  k_is_whole : PySem.W.keepIn K (.ref f_is_whole) = true
  f_is_whole_pair : Addr
  d_is_whole_pair : FuncData
  F_is_whole_pair : Fun K "is_whole_pair" "is_whole_pair" s_is_whole_pair f_is_whole_pair d_is_whole_pair
  g_is_whole_pair : mg "is_whole_pair" = some (.ref f_is_whole_pair)
  n_is_whole_pair : Binds K d_is_whole_pair ["value"] []
  k_is_whole_pair : PySem.W.keepIn K (.ref f_is_whole_pair) = true
  f_sign_of : Addr
  d_sign_of : FuncData
  F_sign_of : Fun K "sign_of" "sign_of" s_sign_of f_sign_of d_sign_of
  g_sign_of : mg "sign_of" = some (.ref f_sign_of)
  n_sign_of : Binds K d_sign_of ["number"] []
  k_sign_of : PySem.W.keepIn K (.ref f_sign_of) = true
  f_common_divisor : Addr
  d_common_divisor : FuncData
  F_common_divisor : Fun K "common_divisor" "common_divisor" s_common_divisor f_common_divisor d_common_divisor
  g_common_divisor : mg "common_divisor" = some (.ref f_common_divisor)
  n_common_divisor : Binds K d_common_divisor ["one", "other"] []
  k_common_divisor : PySem.W.keepIn K (.ref f_common_divisor) = true
  f_is_fraction : Addr
  d_is_fraction : FuncData
  F_is_fraction : Fun K "is_fraction" "is_fraction" s_is_fraction f_is_fraction d_is_fraction
  g_is_fraction : mg "is_fraction" = some (.ref f_is_fraction)
  n_is_fraction : Binds K d_is_fraction ["value"] []
  k_is_fraction : PySem.W.keepIn K (.ref f_is_fraction) = true
  f_require_fraction : Addr
  d_require_fraction : FuncData
  F_require_fraction : Fun K "require_fraction" "require_fraction" s_require_fraction f_require_fraction d_require_fraction
  g_require_fraction : mg "require_fraction" = some (.ref f_require_fraction)
  n_require_fraction : Binds K d_require_fraction ["value"] []
  k_require_fraction : PySem.W.keepIn K (.ref f_require_fraction) = true
  f_fraction : Addr
  d_fraction : FuncData
  F_fraction : Fun K "fraction" "fraction" s_fraction f_fraction d_fraction
  g_fraction : mg "fraction" = some (.ref f_fraction)
  n_fraction : Binds K d_fraction ["number", "divisor"] []
  k_fraction : PySem.W.keepIn K (.ref f_fraction) = true
  f_order_of : Addr
  d_order_of : FuncData
  F_order_of : Fun K "order_of" "order_of" s_order_of f_order_of d_order_of
  g_order_of : mg "order_of" = some (.ref f_order_of)
  n_order_of : Binds K d_order_of ["one", "other"] []
  k_order_of : PySem.W.keepIn K (.ref f_order_of) = true
  f_compared : Addr
  d_compared : FuncData
  F_compared : Fun K "compared" "compared" s_compared f_compared d_compared
  g_compared : mg "compared" = some (.ref f_compared)
  n_compared : Binds K d_compared ["one", "other"] []
  k_compared : PySem.W.keepIn K (.ref f_compared) = true
  f_is_line : Addr
  d_is_line : FuncData
  F_is_line : Fun K "is_line" "is_line" s_is_line f_is_line d_is_line
  g_is_line : mg "is_line" = some (.ref f_is_line)
  n_is_line : Binds K d_is_line ["value"] []
  k_is_line : PySem.W.keepIn K (.ref f_is_line) = true
  f_require_line : Addr
  d_require_line : FuncData
  F_require_line : Fun K "require_line" "require_line" s_require_line f_require_line d_require_line
  g_require_line : mg "require_line" = some (.ref f_require_line)
  n_require_line : Binds K d_require_line ["value"] []
  k_require_line : PySem.W.keepIn K (.ref f_require_line) = true
  f_value_at : Addr
  d_value_at : FuncData
  F_value_at : Fun K "value_at" "value_at" s_value_at f_value_at d_value_at
  g_value_at : mg "value_at" = some (.ref f_value_at)
  n_value_at : Binds K d_value_at ["line", "x"] []
  k_value_at : PySem.W.keepIn K (.ref f_value_at) = true
  f_sign_at : Addr
  d_sign_at : FuncData
  F_sign_at : Fun K "sign_at" "sign_at" s_sign_at f_sign_at d_sign_at
  g_sign_at : mg "sign_at" = some (.ref f_sign_at)
  n_sign_at : Binds K d_sign_at ["line", "x"] []
  k_sign_at : PySem.W.keepIn K (.ref f_sign_at) = true
  f_sign_towards : Addr
  d_sign_towards : FuncData
  F_sign_towards : Fun K "sign_towards" "sign_towards" s_sign_towards f_sign_towards d_sign_towards
  g_sign_towards : mg "sign_towards" = some (.ref f_sign_towards)
  n_sign_towards : Binds K d_sign_towards ["line", "high"] []
  k_sign_towards : PySem.W.keepIn K (.ref f_sign_towards) = true
  f_order_within : Addr
  d_order_within : FuncData
  F_order_within : Fun K "order_within" "order_within" s_order_within f_order_within d_order_within
  g_order_within : mg "order_within" = some (.ref f_order_within)
  n_order_within : Binds K d_order_within ["one", "other", "low", "high"] []
  k_order_within : PySem.W.keepIn K (.ref f_order_within) = true
  f__law_numbers : Addr
  d__law_numbers : FuncData
  F__law_numbers : Fun K "_law_numbers" "_law_numbers" s__law_numbers f__law_numbers d__law_numbers
  g__law_numbers : mg "_law_numbers" = some (.ref f__law_numbers)
  n__law_numbers : Binds K d__law_numbers ["_law_cell", "_law_salt", "_law_sizes"] []
  k__law_numbers : PySem.W.keepIn K (.ref f__law_numbers) = true
  f__law_draw : Addr
  d__law_draw : FuncData
  F__law_draw : Fun K "_law_draw" "_law_draw" s__law_draw f__law_draw d__law_draw
  g__law_draw : mg "_law_draw" = some (.ref f__law_draw)
  n__law_draw : Binds K d__law_draw ["_law_state", "_law_many"] []
  k__law_draw : PySem.W.keepIn K (.ref f__law_draw) = true
  f__law_fraction : Addr
  d__law_fraction : FuncData
  F__law_fraction : Fun K "_law_fraction" "_law_fraction" s__law_fraction f__law_fraction d__law_fraction
  g__law_fraction : mg "_law_fraction" = some (.ref f__law_fraction)
  n__law_fraction : Binds K d__law_fraction ["_law_number", "_law_divisor"] []
  k__law_fraction : PySem.W.keepIn K (.ref f__law_fraction) = true
  f__law_small : Addr
  d__law_small : FuncData
  F__law_small : Fun K "_law_small" "_law_small" s__law_small f__law_small d__law_small
  g__law_small : mg "_law_small" = some (.ref f__law_small)
  n__law_small : Binds K d__law_small ["_law_state"] []
  k__law_small : PySem.W.keepIn K (.ref f__law_small) = true
  f__law_sign : Addr
  d__law_sign : FuncData
  F__law_sign : Fun K "_law_sign" "_law_sign" s__law_sign f__law_sign d__law_sign
  g__law_sign : mg "_law_sign" = some (.ref f__law_sign)
  n__law_sign : Binds K d__law_sign ["_law_line", "_law_x"] []
  k__law_sign : PySem.W.keepIn K (.ref f__law_sign) = true
  f__law_due : Addr
  d__law_due : FuncData
  F__law_due : Fun K "_law_due" "_law_due" s__law_due f__law_due d__law_due
  g__law_due : mg "_law_due" = some (.ref f__law_due)
  n__law_due : Binds K d__law_due ["_law_one", "_law_other", "_law_low", "_law_high"] []
  k__law_due : PySem.W.keepIn K (.ref f__law_due) = true
  f__law_range : Addr
  d__law_range : FuncData
  F__law_range : Fun K "_law_range" "_law_range" s__law_range f__law_range d__law_range
  g__law_range : mg "_law_range" = some (.ref f__law_range)
  n__law_range : Binds K d__law_range ["_law_state"] []
  k__law_range : PySem.W.keepIn K (.ref f__law_range) = true
  f__law_inner : Addr
  d__law_inner : FuncData
  F__law_inner : Fun K "_law_inner" "_law_inner" s__law_inner f__law_inner d__law_inner
  g__law_inner : mg "_law_inner" = some (.ref f__law_inner)
  n__law_inner : Binds K d__law_inner ["_law_low", "_law_high"] []
  k__law_inner : PySem.W.keepIn K (.ref f__law_inner) = true
  f__law_heard : Addr
  d__law_heard : FuncData
  F__law_heard : Fun K "_law_heard" "_law_heard" s__law_heard f__law_heard d__law_heard
  g__law_heard : mg "_law_heard" = some (.ref f__law_heard)
  n__law_heard : Binds K d__law_heard ["_law_call"] []
  k__law_heard : PySem.W.keepIn K (.ref f__law_heard) = true
  f__law_right : Addr
  d__law_right : FuncData
  F__law_right : Fun K "_law_right" "_law_right" s__law_right f__law_right d__law_right
  g__law_right : mg "_law_right" = some (.ref f__law_right)
  n__law_right : Binds K d__law_right ["_law_state"] []
  k__law_right : PySem.W.keepIn K (.ref f__law_right) = true
  f__law_odd_right : Addr
  d__law_odd_right : FuncData
  F__law_odd_right : Fun K "_law_odd_right" "_law_odd_right" s__law_odd_right f__law_odd_right d__law_odd_right
  g__law_odd_right : mg "_law_odd_right" = some (.ref f__law_odd_right)
  n__law_odd_right : Binds K d__law_odd_right [] []
  k__law_odd_right : PySem.W.keepIn K (.ref f__law_odd_right) = true
  f_law : Addr
  d_law : FuncData
  F_law : Fun K "law" "law" s_law f_law d_law
  g_law : mg "law" = some (.ref f_law)
  n_law : Binds K d_law ["_law_script"] []
  k_law : PySem.W.keepIn K (.ref f_law) = true
  b_abs : mg "abs" = none
  b_bool : mg "bool" = none
  b_enumerate : mg "enumerate" = none
  b_int : mg "int" = none
  b_isinstance : mg "isinstance" = none
  b_len : mg "len" = none
  b_max : mg "max" = none
  b_range : mg "range" = none
  b_repr : mg "repr" = none
  b_sorted : mg "sorted" = none
  b_tuple : mg "tuple" = none
  e_InvalidNumber : ErrG P w K mg base "InvalidNumber" "value" c.InvalidNumber
  xf_InvalidNumber : XfC K c.InvalidNumber
  no_InvalidNumber : PySem.W.findIn K (.ref c.InvalidNumber) "value" = some none
  xc_InvalidNumber : ExcC K c.InvalidNumber
  te_InvalidNumber_InvalidNumber : PySem.W.exmOne K (.ref c.InvalidNumber) (.ref c.InvalidNumber) = some true
  te_InvalidNumber_InvalidRange : PySem.W.exmOne K (.ref c.InvalidNumber) (.ref c.InvalidRange) = some false
  e_InvalidRange : ErrG P w K mg base "InvalidRange" "value" c.InvalidRange
  xf_InvalidRange : XfC K c.InvalidRange
  no_InvalidRange : PySem.W.findIn K (.ref c.InvalidRange) "value" = some none
  xc_InvalidRange : ExcC K c.InvalidRange
  te_InvalidRange_InvalidNumber : PySem.W.exmOne K (.ref c.InvalidRange) (.ref c.InvalidNumber) = some false
  te_InvalidRange_InvalidRange : PySem.W.exmOne K (.ref c.InvalidRange) (.ref c.InvalidRange) = some true
  kTimesError : Addr
  m_TimesError : mg "TimesError" = some (.ref kTimesError)
  ki_InvalidRange_TimesError : PySem.W.kitOne K (.ref c.InvalidRange) (.ref kTimesError) = some true
  cO_law_odd_right : Addr
  pO_law_odd_right : Addr
  FC_law_odd_right : FunC K "_law_odd_right" "_law_odd_right" s__law_odd_right f__law_odd_right d__law_odd_right (.ref cO_law_odd_right)
  TB_law_odd_right : LamX.TabB base mg cO_law_odd_right pO_law_odd_right
def lamq_law_odd_right : Str := (PyProof.Rows.envOfC "_law_odd_right" (defScope s__law_odd_right) 0 0 .none).qual ++ "<lambda>"
section
variable {P : Program} {w : World} {K : PySem.W.Frag}
  {mg : Str → Option Value} {base : Heap}
abbrev cvOf (c : Cs) : String → Value := fun n => if n = "InvalidNumber" then .ref c.InvalidNumber else if n = "InvalidRange" then .ref c.InvalidRange else .none
abbrev Gx.T (G : Gx P w K mg base) : Tx := Tx.plain [(G.pO_law_odd_right, lamq_law_odd_right)] (cvOf G.c)

theorem Gx.v_InvalidNumber (G : Gx P w K mg base) : G.T.cv "InvalidNumber" = .ref G.c.InvalidNumber := by simp [Tx.plain, cvOf]
theorem Gx.v_InvalidRange (G : Gx P w K mg base) : G.T.cv "InvalidRange" = .ref G.c.InvalidRange := by simp [Tx.plain, cvOf]
theorem ok_is_whole (G : Gx P w K mg base) : FnOk P w K mg base (L2.CX P w) 2 G.f_is_whole G.d_is_whole ["value"] (spV G.T 1 m_is_whole) := fn_def G.F_is_whole sc_is_whole (fun cdv A outer s H E hr => by
  have hu := hr.units
  have S := sc_is_whole
  exact (sss_one (ss_ret (se_and (se_b call_isi rc_isi rfl G.b_isinstance (by decide +kernel) (sa_cons (se_var 0) (sa_cons (se_ty rfl G.b_int (by decide +kernel)) sa_nil))) (se_one (se_not (se_b call_isi rc_isi rfl G.b_isinstance (by decide +kernel) (sa_cons (se_var 0) (sa_cons (se_ty rfl G.b_bool (by decide +kernel)) sa_nil)))))))))
theorem ok_is_whole_pair (G : Gx P w K mg base) : FnOk P w K mg base (L2.CX P w) 3 G.f_is_whole_pair G.d_is_whole_pair ["value"] (spV G.T 1 m_is_whole_pair) := fn_def G.F_is_whole_pair sc_is_whole_pair (fun cdv A outer s H E hr => by
  have hu := hr.units
  have S := sc_is_whole_pair
  exact (sss_cons (ss_if (st_w (sw_or (st_not (st_val (se_b call_isi rc_isi rfl G.b_isinstance (by decide +kernel) (sa_cons (se_var 0) (sa_cons (se_ty rfl G.b_tuple (by decide +kernel)) sa_nil))))) (sw_or1 (st_cmp (op_neD hu) ro_ne (se_b call_len rc_len rfl G.b_len PySem.boot_len (sa_cons (se_var 0) sa_nil)) se_int (nomark _))))) (sss_one (ss_ret se_bl)) sss_nil)
    (sss_one (ss_ret (se_and (se_call (can_ok (ok_is_whole G) (hr.mono (by decide)) G.n_is_whole) rfl G.g_is_whole G.k_is_whole (sa_cons (se_ix (se_var 0) se_int) sa_nil)) (se_one (se_call (can_ok (ok_is_whole G) (hr.mono (by decide)) G.n_is_whole) rfl G.g_is_whole G.k_is_whole (sa_cons (se_ix (se_var 0) se_int) sa_nil))))))))
theorem ok_sign_of (G : Gx P w K mg base) : FnOk P w K mg base (L2.CX P w) 2 G.f_sign_of G.d_sign_of ["number"] (spV G.T 1 m_sign_of) := fn_def G.F_sign_of sc_sign_of (fun cdv A outer s H E hr => by
  have hu := hr.units
  have S := sc_sign_of
  exact (sss_cons (ss_if (st_cmp op_lt ro_lt (se_var 0) se_int (nomark _)) (sss_one (ss_ret (se_neg se_int))) sss_nil)
    (sss_cons (ss_if (st_cmp op_gt ro_gt (se_var 0) se_int (nomark _)) (sss_one (ss_ret se_int)) sss_nil)
    (sss_one (ss_ret se_int)))))
theorem ok_common_divisor (G : Gx P w K mg base) : FnOk P w K mg base (L2.CX P w) 2 G.f_common_divisor G.d_common_divisor ["one", "other"] (spV G.T 2 m_common_divisor) := fn_def G.F_common_divisor sc_common_divisor (fun cdv A outer s H E hr => by
  have hu := hr.units
  have S := sc_common_divisor
  exact (sss_cons (ss_while fuel_common_divisor (st_cmp (op_neD hu) ro_ne (se_var 1) se_int (nomark _)) (sss_one (ss_par 0 1 S.nd (sa_cons (se_var 1) (sa_cons (se_op op_modN ro_mod (se_var 0) (se_var 1)) sa_nil)))))
    (sss_one (ss_ret (se_b call_abs rc_abs rfl G.b_abs (by decide +kernel) (sa_cons (se_var 0) sa_nil))))))
theorem ok_is_fraction (G : Gx P w K mg base) : FnOk P w K mg base (L2.CX P w) 4 G.f_is_fraction G.d_is_fraction ["value"] (spV G.T 1 m_is_fraction) := fn_def G.F_is_fraction sc_is_fraction (fun cdv A outer s H E hr => by
  have hu := hr.units
  have S := sc_is_fraction
  exact (sss_one (ss_ret (se_and (se_call (can_ok (ok_is_whole_pair G) (hr.mono (by decide)) G.n_is_whole_pair) rfl G.g_is_whole_pair G.k_is_whole_pair (sa_cons (se_var 0) sa_nil)) (se_and (se_cmp op_ge ro_ge (se_ix (se_var 0) se_int) se_int (nomark _)) (se_one (se_cmp (op_eqD hu) ro_eq (se_call (can_ok (ok_common_divisor G) (hr.mono (by decide)) G.n_common_divisor) rfl G.g_common_divisor G.k_common_divisor (sa_cons (se_ix (se_var 0) se_int) (sa_cons (se_ix (se_var 0) se_int) sa_nil))) se_int (nomark _))))))))
theorem ok_require_fraction (G : Gx P w K mg base) : FnOk P w K mg base (L2.CX P w) 5 G.f_require_fraction G.d_require_fraction ["value"] (spV G.T 1 m_require_fraction) := fn_def G.F_require_fraction sc_require_fraction (fun cdv A outer s H E hr => by
  have hu := hr.units
  have S := sc_require_fraction
  exact (sss_one (ss_if (st_not (st_val (se_call (can_ok (ok_is_fraction G) (hr.mono (by decide)) G.n_is_fraction) rfl G.g_is_fraction G.k_is_fraction (sa_cons (se_var 0) sa_nil)))) (sss_one (ss_raiseG G.e_InvalidNumber G.v_InvalidNumber (hr.mono (by decide)) rfl (sa_cons (se_var 0) sa_nil))) sss_nil)))
theorem ok_fraction (G : Gx P w K mg base) : FnOk P w K mg base (L2.CX P w) 3 G.f_fraction G.d_fraction ["number", "divisor"] (spV G.T 2 m_fraction) := fn_def G.F_fraction sc_fraction (fun cdv A outer s H E hr => by
  have hu := hr.units
  have S := sc_fraction
  exact (sss_cons (ss_if (st_not (st_val (se_call (can_ok (ok_is_whole G) (hr.mono (by decide)) G.n_is_whole) rfl G.g_is_whole G.k_is_whole (sa_cons (se_var 0) sa_nil)))) (sss_one (ss_raiseG G.e_InvalidNumber G.v_InvalidNumber (hr.mono (by decide)) rfl (sa_cons (se_var 0) sa_nil))) sss_nil)
    (sss_cons (ss_if (st_w (sw_or (st_not (st_val (se_call (can_ok (ok_is_whole G) (hr.mono (by decide)) G.n_is_whole) rfl G.g_is_whole G.k_is_whole (sa_cons (se_var 1) sa_nil)))) (sw_or1 (st_cmp (op_eqD hu) ro_eq (se_var 1) se_int (nomark _))))) (sss_one (ss_raiseG G.e_InvalidNumber G.v_InvalidNumber (hr.mono (by decide)) rfl (sa_cons (se_var 1) sa_nil))) sss_nil)
    (sss_cons (ss_set 2 S.nd (se_call (can_ok (ok_common_divisor G) (hr.mono (by decide)) G.n_common_divisor) rfl G.g_common_divisor G.k_common_divisor (sa_cons (se_var 0) (sa_cons (se_var 1) sa_nil))))
    (sss_cons (ss_if (st_cmp op_lt ro_lt (se_var 1) se_int (nomark _)) (sss_one (ss_set 2 S.nd (se_neg (se_var 2)))) sss_nil)
    (sss_one (ss_ret (se_tup (sa_cons (se_op op_fdivG ro_div (se_var 0) (se_var 2)) (sa_cons (se_op op_fdivG ro_div (se_var 1) (se_var 2)) sa_nil))))))))))
theorem ok_order_of (G : Gx P w K mg base) : FnOk P w K mg base (L2.CX P w) 3 G.f_order_of G.d_order_of ["one", "other"] (spV G.T 2 m_order_of) := fn_def G.F_order_of sc_order_of (fun cdv A outer s H E hr => by
  have hu := hr.units
  have S := sc_order_of
  exact (sss_one (ss_ret (se_call (can_ok (ok_sign_of G) (hr.mono (by decide)) G.n_sign_of) rfl G.g_sign_of G.k_sign_of (sa_cons (se_op op_sub ro_sub (se_op op_mulA ro_mul (se_ix (se_var 0) se_int) (se_ix (se_var 1) se_int)) (se_op op_mulA ro_mul (se_ix (se_var 1) se_int) (se_ix (se_var 0) se_int))) sa_nil)))))
theorem ok_compared (G : Gx P w K mg base) : FnOk P w K mg base (L2.CX P w) 6 G.f_compared G.d_compared ["one", "other"] (spV G.T 2 m_compared) := fn_def G.F_compared sc_compared (fun cdv A outer s H E hr => by
  have hu := hr.units
  have S := sc_compared
  exact (sss_cons (ss_expr (se_call (can_ok (ok_require_fraction G) (hr.mono (by decide)) G.n_require_fraction) rfl G.g_require_fraction G.k_require_fraction (sa_cons (se_var 0) sa_nil)))
    (sss_cons (ss_expr (se_call (can_ok (ok_require_fraction G) (hr.mono (by decide)) G.n_require_fraction) rfl G.g_require_fraction G.k_require_fraction (sa_cons (se_var 1) sa_nil)))
    (sss_one (ss_ret (se_call (can_ok (ok_order_of G) (hr.mono (by decide)) G.n_order_of) rfl G.g_order_of G.k_order_of (sa_cons (se_var 0) (sa_cons (se_var 1) sa_nil))))))))
theorem ok_is_line (G : Gx P w K mg base) : FnOk P w K mg base (L2.CX P w) 4 G.f_is_line G.d_is_line ["value"] (spV G.T 1 m_is_line) := fn_def G.F_is_line sc_is_line (fun cdv A outer s H E hr => by
  have hu := hr.units
  have S := sc_is_line
  exact (sss_one (ss_ret (se_call (can_ok (ok_is_whole_pair G) (hr.mono (by decide)) G.n_is_whole_pair) rfl G.g_is_whole_pair G.k_is_whole_pair (sa_cons (se_var 0) sa_nil)))))
theorem ok_require_line (G : Gx P w K mg base) : FnOk P w K mg base (L2.CX P w) 5 G.f_require_line G.d_require_line ["value"] (spV G.T 1 m_require_line) := fn_def G.F_require_line sc_require_line (fun cdv A outer s H E hr => by
  have hu := hr.units
  have S := sc_require_line
  exact (sss_one (ss_if (st_not (st_val (se_call (can_ok (ok_is_line G) (hr.mono (by decide)) G.n_is_line) rfl G.g_is_line G.k_is_line (sa_cons (se_var 0) sa_nil)))) (sss_one (ss_raiseG G.e_InvalidNumber G.v_InvalidNumber (hr.mono (by decide)) rfl (sa_cons (se_var 0) sa_nil))) sss_nil)))
theorem ok_value_at (G : Gx P w K mg base) : FnOk P w K mg base (L2.CX P w) 6 G.f_value_at G.d_value_at ["line", "x"] (spV G.T 2 m_value_at) := fn_def G.F_value_at sc_value_at (fun cdv A outer s H E hr => by
  have hu := hr.units
  have S := sc_value_at
  exact (sss_cons (ss_expr (se_call (can_ok (ok_require_line G) (hr.mono (by decide)) G.n_require_line) rfl G.g_require_line G.k_require_line (sa_cons (se_var 0) sa_nil)))
    (sss_cons (ss_expr (se_call (can_ok (ok_require_fraction G) (hr.mono (by decide)) G.n_require_fraction) rfl G.g_require_fraction G.k_require_fraction (sa_cons (se_var 1) sa_nil)))
    (sss_one (ss_ret (se_call (can_ok (ok_fraction G) (hr.mono (by decide)) G.n_fraction) rfl G.g_fraction G.k_fraction (sa_cons (se_op op_addA ro_add (se_op op_mulA ro_mul (se_ix (se_var 0) se_int) (se_ix (se_var 1) se_int)) (se_op op_mulA ro_mul (se_ix (se_var 0) se_int) (se_ix (se_var 1) se_int))) (sa_cons (se_ix (se_var 1) se_int) sa_nil))))))))
theorem ok_sign_at (G : Gx P w K mg base) : FnOk P w K mg base (L2.CX P w) 7 G.f_sign_at G.d_sign_at ["line", "x"] (spV G.T 2 m_sign_at) := fn_def G.F_sign_at sc_sign_at (fun cdv A outer s H E hr => by
  have hu := hr.units
  have S := sc_sign_at
  exact (sss_one (ss_ret (se_call (can_ok (ok_sign_of G) (hr.mono (by decide)) G.n_sign_of) rfl G.g_sign_of G.k_sign_of (sa_cons (se_ix (se_call (can_ok (ok_value_at G) (hr.mono (by decide)) G.n_value_at) rfl G.g_value_at G.k_value_at (sa_cons (se_var 0) (sa_cons (se_var 1) sa_nil))) se_int) sa_nil)))))
theorem ok_sign_towards (G : Gx P w K mg base) : FnOk P w K mg base (L2.CX P w) 8 G.f_sign_towards G.d_sign_towards ["line", "high"] (spV G.T 2 m_sign_towards) := fn_def G.F_sign_towards sc_sign_towards (fun cdv A outer s H E hr => by
  have hu := hr.units
  have S := sc_sign_towards
  exact (sss_cons (ss_if (st_cmp op_isA ro_is (se_var 1) se_non (nomark _)) (sss_one (ss_ret (se_call (can_ok (ok_sign_of G) (hr.mono (by decide)) G.n_sign_of) rfl G.g_sign_of G.k_sign_of (sa_cons (se_ix (se_var 0) se_int) sa_nil)))) sss_nil)
    (sss_one (ss_ret (se_call (can_ok (ok_sign_at G) (hr.mono (by decide)) G.n_sign_at) rfl G.g_sign_at G.k_sign_at (sa_cons (se_var 0) (sa_cons (se_var 1) sa_nil)))))))
theorem ok_order_within (G : Gx P w K mg base) : FnOk P w K mg base (L2.CX P w) 9 G.f_order_within G.d_order_within ["one", "other", "low", "high"] (spV G.T 4 m_order_within) := fn_def G.F_order_within sc_order_within (fun cdv A outer s H E hr => by
  have hu := hr.units
  have S := sc_order_within
  exact (sss_cons (ss_expr (se_call (can_ok (ok_require_line G) (hr.mono (by decide)) G.n_require_line) rfl G.g_require_line G.k_require_line (sa_cons (se_var 0) sa_nil)))
    (sss_cons (ss_expr (se_call (can_ok (ok_require_line G) (hr.mono (by decide)) G.n_require_line) rfl G.g_require_line G.k_require_line (sa_cons (se_var 1) sa_nil)))
    (sss_cons (ss_expr (se_call (can_ok (ok_require_fraction G) (hr.mono (by decide)) G.n_require_fraction) rfl G.g_require_fraction G.k_require_fraction (sa_cons (se_var 2) sa_nil)))
    (sss_cons (ss_if (st_cmp op_isnotA ro_is (se_var 3) se_non (nomark _)) (sss_cons (ss_expr (se_call (can_ok (ok_require_fraction G) (hr.mono (by decide)) G.n_require_fraction) rfl G.g_require_fraction G.k_require_fraction (sa_cons (se_var 3) sa_nil)))
    (sss_one (ss_if (st_cmp op_ge ro_ge (se_call (can_ok (ok_compared G) (hr.mono (by decide)) G.n_compared) rfl G.g_compared G.k_compared (sa_cons (se_var 2) (sa_cons (se_var 3) sa_nil))) se_int (nomark _)) (sss_one (ss_raiseG G.e_InvalidRange G.v_InvalidRange (hr.mono (by decide)) rfl (sa_cons (se_tup (sa_cons (se_var 2) (sa_cons (se_var 3) sa_nil))) sa_nil))) sss_nil))) sss_nil)
    (sss_cons (ss_set 4 S.nd (se_tup (sa_cons (se_op op_sub ro_sub (se_ix (se_var 0) se_int) (se_ix (se_var 1) se_int)) (sa_cons (se_op op_sub ro_sub (se_ix (se_var 0) se_int) (se_ix (se_var 1) se_int)) sa_nil))))
    (sss_cons (ss_set 5 S.nd (se_call (can_ok (ok_sign_at G) (hr.mono (by decide)) G.n_sign_at) rfl G.g_sign_at G.k_sign_at (sa_cons (se_var 4) (sa_cons (se_var 2) sa_nil))))
    (sss_cons (ss_set 6 S.nd (se_call (can_ok (ok_sign_towards G) (hr.mono (by decide)) G.n_sign_towards) rfl G.g_sign_towards G.k_sign_towards (sa_cons (se_var 4) (sa_cons (se_var 3) sa_nil))))
    (sss_cons (ss_if (st_cmp op_lt ro_lt (se_op op_mulA ro_mul (se_var 5) (se_var 6)) se_int (nomark _)) (sss_one (ss_ret se_non)) sss_nil)
    (sss_one (ss_ret (se_call (can_ok (ok_sign_of G) (hr.mono (by decide)) G.n_sign_of) rfl G.g_sign_of G.k_sign_of (sa_cons (se_op op_addA ro_add (se_var 5) (se_var 6)) sa_nil)))))))))))))
theorem ok__law_numbers (G : Gx P w K mg base) : FnOk P w K mg base (L2.CX P w) 2 G.f__law_numbers G.d__law_numbers ["_law_cell", "_law_salt", "_law_sizes"] (spV G.T 3 m__law_numbers) := fn_def G.F__law_numbers sc__law_numbers (fun cdv A outer s H E hr => by
  have hu := hr.units
  have S := sc__law_numbers
  exact (sss_cons (ss_set 3 S.nd (se_b (call_max2 rfl) rc_max rfl G.b_max (by decide +kernel) (sa_cons (se_var 0) (sa_cons (se_op op_sub ro_sub (se_neg se_int) (se_var 0)) sa_nil))))
    (sss_cons (ss_set 4 S.nd (se_var 3))
    (sss_cons (ss_set 5 S.nd (se_lst sa_nil))
    (sss_cons (ss_for (si_range1 rfl G.b_range (sa_cons (se_b call_len rc_len rfl G.b_len PySem.boot_len (sa_cons (se_var 2) sa_nil)) sa_nil) (len_cons len_nil)) (sg_name 6 S.nd) (sss_one (ss_if (st_w (sw_and (st_cmp op_ge ro_ge (se_var 3) (se_op op_pow ro_pow se_int se_int) (nomark _)) (sw_and1 (st_cmp op_gt ro_gt (se_var 4) se_int (nomark _))))) (sss_cons (ss_expr (se_append (se_var 5) (se_op op_modN ro_mod (se_var 4) (se_ix (se_var 2) (se_var 6)))))
    (sss_one (ss_set 4 S.nd (se_op op_fdivG ro_div (se_var 4) (se_ix (se_var 2) (se_var 6)))))) (sss_cons (ss_set 7 S.nd (se_op op_modN ro_mod (se_op op_pow ro_pow (se_op op_addA ro_add (se_op op_addA ro_add (se_op op_modN ro_mod (se_var 3) se_int) (se_op op_mulA ro_mul se_int (se_var 1))) se_int) se_int) se_int))
    (sss_cons (ss_set 7 S.nd (se_op op_modN ro_mod (se_op op_mulA ro_mul (se_op op_addA ro_add (se_var 7) (se_op op_mulA ro_mul se_int (se_op op_addA ro_add (se_var 6) se_int))) (se_op op_addA ro_add (se_var 6) se_int)) se_int))
    (sss_cons (ss_set 7 S.nd (se_op op_modN ro_mod (se_op op_mulA ro_mul (se_op op_modN ro_mod (se_op op_pow ro_pow (se_var 7) se_int) se_int) se_int) se_int))
    (sss_one (ss_expr (se_append (se_var 5) (se_op op_modN ro_mod (se_op op_fdivG ro_div (se_var 7) se_int) (se_ix (se_var 2) (se_var 6))))))))))))
    (sss_one (ss_ret (se_var 5))))))))
theorem ok__law_draw (G : Gx P w K mg base) : FnOk P w K mg base (L2.CX P w) 2 G.f__law_draw G.d__law_draw ["_law_state", "_law_many"] (spV G.T 2 m__law_draw) := fn_def G.F__law_draw sc__law_draw (fun cdv A outer s H E hr => by
  have hu := hr.units
  have S := sc__law_draw
  exact (sss_cons (ss_set 2 S.nd (se_ix (se_var 0) se_int))
    (sss_cons (ss_asg (se_op op_addA ro_add (se_var 2) se_int) (sg_sub (se_var 0) se_int))
    (sss_one (ss_ret (se_if (st_cmp op_lt ro_lt (se_var 2) (se_b call_len rc_len rfl G.b_len PySem.boot_len (sa_cons (se_ix (se_var 0) se_int) sa_nil)) (nomark _)) (se_op op_modN ro_mod (se_bt call_int1 rc_int rfl G.b_int (by decide +kernel) (sa_cons (se_ix (se_ix (se_var 0) se_int) (se_var 2)) sa_nil)) (se_var 1)) se_int))))))
theorem ok__law_fraction (G : Gx P w K mg base) : FnOk P w K mg base (L2.CX P w) 2 G.f__law_fraction G.d__law_fraction ["_law_number", "_law_divisor"] (spV G.T 2 m__law_fraction) := fn_def G.F__law_fraction sc__law_fraction (fun cdv A outer s H E hr => by
  have hu := hr.units
  have S := sc__law_fraction
  exact (sss_cons (ss_par 2 3 S.nd (sa_cons (se_b (call_max2 rfl) rc_max rfl G.b_max (by decide +kernel) (sa_cons (se_var 0) (sa_cons (se_neg (se_var 0)) sa_nil))) (sa_cons (se_var 1) sa_nil)))
    (sss_cons (ss_while fuel__law_fraction (st_cmp op_gt ro_gt (se_var 2) se_int (nomark _)) (sss_one (ss_par 2 3 S.nd (sa_cons (se_op op_modN ro_mod (se_var 3) (se_var 2)) (sa_cons (se_var 2) sa_nil)))))
    (sss_one (ss_ret (se_tup (sa_cons (se_op op_fdivG ro_div (se_var 0) (se_var 3)) (sa_cons (se_op op_fdivG ro_div (se_var 1) (se_var 3)) sa_nil))))))))
theorem ok__law_small (G : Gx P w K mg base) : FnOk P w K mg base (L2.CX P w) 3 G.f__law_small G.d__law_small ["_law_state"] (spV G.T 1 m__law_small) := fn_def G.F__law_small sc__law_small (fun cdv A outer s H E hr => by
  have hu := hr.units
  have S := sc__law_small
  exact (sss_cons (ss_set 1 S.nd (se_lst (sa_cons se_int (sa_cons se_int (sa_cons se_int (sa_cons (se_call (can_ok (ok__law_draw G) (hr.mono (by decide)) G.n__law_draw) rfl G.g__law_draw G.k__law_draw (sa_cons (se_var 0) (sa_cons se_int sa_nil))) (sa_cons (se_op op_addA ro_add (se_op op_pow ro_pow se_int se_int) (se_call (can_ok (ok__law_draw G) (hr.mono (by decide)) G.n__law_draw) rfl G.g__law_draw G.k__law_draw (sa_cons (se_var 0) (sa_cons se_int sa_nil)))) sa_nil)))))))
    (sss_one (ss_ret (se_op op_mulA ro_mul (se_ix (se_var 1) (se_call (can_ok (ok__law_draw G) (hr.mono (by decide)) G.n__law_draw) rfl G.g__law_draw G.k__law_draw (sa_cons (se_var 0) (sa_cons se_int sa_nil)))) (se_ix (se_lst (sa_cons se_int (sa_cons (se_neg se_int) sa_nil))) (se_call (can_ok (ok__law_draw G) (hr.mono (by decide)) G.n__law_draw) rfl G.g__law_draw G.k__law_draw (sa_cons (se_var 0) (sa_cons se_int sa_nil)))))))))
theorem ok__law_sign (G : Gx P w K mg base) : FnOk P w K mg base (L2.CX P w) 2 G.f__law_sign G.d__law_sign ["_law_line", "_law_x"] (spV G.T 2 m__law_sign) := fn_def G.F__law_sign sc__law_sign (fun cdv A outer s H E hr => by
  have hu := hr.units
  have S := sc__law_sign
  exact (sss_cons (ss_set 2 S.nd (se_op op_addA ro_add (se_op op_mulA ro_mul (se_ix (se_var 0) se_int) (se_ix (se_var 1) se_int)) (se_op op_mulA ro_mul (se_ix (se_var 0) se_int) (se_ix (se_var 1) se_int))))
    (sss_one (ss_ret (se_op op_sub ro_sub (se_bt call_int1 rc_int rfl G.b_int (by decide +kernel) (sa_cons (se_cmp op_gt ro_gt (se_var 2) se_int (nomark _)) sa_nil)) (se_bt call_int1 rc_int rfl G.b_int (by decide +kernel) (sa_cons (se_cmp op_lt ro_lt (se_var 2) se_int (nomark _)) sa_nil)))))))
theorem ok__law_due (G : Gx P w K mg base) : FnOk P w K mg base (L2.CX P w) 3 G.f__law_due G.d__law_due ["_law_one", "_law_other", "_law_low", "_law_high"] (spV G.T 4 m__law_due) := fn_def G.F__law_due sc__law_due (fun cdv A outer s H E hr => by
  have hu := hr.units
  have S := sc__law_due
  exact (sss_cons (ss_set 4 S.nd (se_tup (sa_cons (se_op op_sub ro_sub (se_ix (se_var 0) se_int) (se_ix (se_var 1) se_int)) (sa_cons (se_op op_sub ro_sub (se_ix (se_var 0) se_int) (se_ix (se_var 1) se_int)) sa_nil))))
    (sss_cons (ss_set 5 S.nd (se_if (st_cmp op_isA ro_is (se_var 3) se_non (nomark _)) (se_var 4) (se_var 3)))
    (sss_cons (ss_set 6 S.nd (se_if (st_cmp op_isnotA ro_is (se_var 3) se_non (nomark _)) (se_call (can_ok (ok__law_sign G) (hr.mono (by decide)) G.n__law_sign) rfl G.g__law_sign G.k__law_sign (sa_cons (se_var 4) (sa_cons (se_var 3) sa_nil))) (se_call (can_ok (ok__law_sign G) (hr.mono (by decide)) G.n__law_sign) rfl G.g__law_sign G.k__law_sign (sa_cons (se_tup (sa_cons se_int (sa_cons (se_if (st_cmp (op_neD hu) ro_ne (se_ix (se_var 5) se_int) se_int (nomark _)) (se_ix (se_var 5) se_int) (se_ix (se_var 5) se_int)) sa_nil))) (sa_cons (se_tup (sa_cons se_int (sa_cons se_int sa_nil))) sa_nil)))))
    (sss_cons (ss_set 7 S.nd (se_lst (sa_cons (se_call (can_ok (ok__law_sign G) (hr.mono (by decide)) G.n__law_sign) rfl G.g__law_sign G.k__law_sign (sa_cons (se_var 4) (sa_cons (se_var 2) sa_nil))) (sa_cons (se_var 6) sa_nil))))
    (sss_one (ss_ret (se_if (st_cmp (op_eqD hu) ro_eq (se_b cr_sorted rc_sorted rfl G.b_sorted (by decide +kernel) (sa_cons (se_var 7) sa_nil)) (se_lst (sa_cons (se_neg se_int) (sa_cons se_int sa_nil))) (nomark _)) se_non (se_ix (se_op op_addA ro_add (se_var 7) (se_lst (sa_cons se_int sa_nil))) (se_bt call_int1 rc_int rfl G.b_int (by decide +kernel) (sa_cons (se_cmp (op_eqD hu) ro_eq (se_ix (se_var 7) se_int) se_int (nomark _)) sa_nil)))))))))))
theorem ok__law_range (G : Gx P w K mg base) : FnOk P w K mg base (L2.CX P w) 4 G.f__law_range G.d__law_range ["_law_state"] (spV G.T 1 m__law_range) := fn_def G.F__law_range sc__law_range (fun cdv A outer s H E hr => by
  have hu := hr.units
  have S := sc__law_range
  exact (sss_cons (ss_set 1 S.nd (se_call (can_ok (ok__law_fraction G) (hr.mono (by decide)) G.n__law_fraction) rfl G.g__law_fraction G.k__law_fraction (sa_cons (se_call (can_ok (ok__law_small G) (hr.mono (by decide)) G.n__law_small) rfl G.g__law_small G.k__law_small (sa_cons (se_var 0) sa_nil)) (sa_cons (se_op op_addA ro_add se_int (se_call (can_ok (ok__law_draw G) (hr.mono (by decide)) G.n__law_draw) rfl G.g__law_draw G.k__law_draw (sa_cons (se_var 0) (sa_cons se_int sa_nil)))) sa_nil))))
    (sss_cons (ss_set 2 S.nd (se_call (can_ok (ok__law_fraction G) (hr.mono (by decide)) G.n__law_fraction) rfl G.g__law_fraction G.k__law_fraction (sa_cons (se_op op_addA ro_add se_int (se_call (can_ok (ok__law_draw G) (hr.mono (by decide)) G.n__law_draw) rfl G.g__law_draw G.k__law_draw (sa_cons (se_var 0) (sa_cons se_int sa_nil)))) (sa_cons (se_op op_addA ro_add se_int (se_call (can_ok (ok__law_draw G) (hr.mono (by decide)) G.n__law_draw) rfl G.g__law_draw G.k__law_draw (sa_cons (se_var 0) (sa_cons se_int sa_nil)))) sa_nil))))
    (sss_cons (ss_set 3 S.nd (se_call (can_ok (ok__law_fraction G) (hr.mono (by decide)) G.n__law_fraction) rfl G.g__law_fraction G.k__law_fraction (sa_cons (se_op op_addA ro_add (se_op op_mulA ro_mul (se_ix (se_var 1) se_int) (se_ix (se_var 2) se_int)) (se_op op_mulA ro_mul (se_ix (se_var 2) se_int) (se_ix (se_var 1) se_int))) (sa_cons (se_op op_mulA ro_mul (se_ix (se_var 1) se_int) (se_ix (se_var 2) se_int)) sa_nil))))
    (sss_one (ss_ret (se_lst (sa_cons (se_var 1) (sa_cons (se_if (st_cmp op_gt ro_gt (se_call (can_ok (ok__law_draw G) (hr.mono (by decide)) G.n__law_draw) rfl G.g__law_draw G.k__law_draw (sa_cons (se_var 0) (sa_cons se_int sa_nil))) se_int (nomark _)) (se_var 3) se_non) sa_nil)))))))))
theorem ok__law_inner (G : Gx P w K mg base) : FnOk P w K mg base (L2.CX P w) 2 G.f__law_inner G.d__law_inner ["_law_low", "_law_high"] (spV G.T 2 m__law_inner) := fn_def G.F__law_inner sc__law_inner (fun cdv A outer s H E hr => by
  have hu := hr.units
  have S := sc__law_inner
  exact (sss_cons (ss_if (st_cmp op_isA ro_is (se_var 1) se_non (nomark _)) (sss_one (ss_ret (se_lst (sa_cons (se_tup (sa_cons (se_op op_addA ro_add (se_ix (se_var 0) se_int) (se_ix (se_var 0) se_int)) (sa_cons (se_ix (se_var 0) se_int) sa_nil))) (sa_cons (se_tup (sa_cons (se_op op_addA ro_add (se_op op_mulA ro_mul (se_ix (se_var 0) se_int) se_int) (se_op op_pow ro_pow se_int se_int)) (sa_cons (se_op op_mulA ro_mul se_int (se_ix (se_var 0) se_int)) sa_nil))) sa_nil))))) sss_nil)
    (sss_one (ss_ret (se_lst (sa_cons (se_tup (sa_cons (se_op op_addA ro_add (se_op op_mulA ro_mul (se_ix (se_var 0) se_int) (se_ix (se_var 1) se_int)) (se_op op_mulA ro_mul (se_ix (se_var 1) se_int) (se_ix (se_var 0) se_int))) (sa_cons (se_op op_mulA ro_mul (se_op op_mulA ro_mul se_int (se_ix (se_var 0) se_int)) (se_ix (se_var 1) se_int)) sa_nil))) sa_nil))))))
theorem su_ind0 (a : Addr) (j : Nat) (r : Ws) (h : Hv) (hl : 1 < r.length) : suA_heard0 a j (r.set 1 (some (.fix a))) h = su0_heard0 j r h := by
  simp only [suA_heard0, su0_heard0, mLst, mCons, mC, mB, mNil, Res.bind, mXfA_at hl, mIsxA_at hl, mAndV, mNotV, mT]
theorem su_ind1 (a : Addr) (j : Nat) (r : Ws) (h : Hv) (hl : 1 < r.length) : suA_heard1 a j (r.set 1 (some (.fix a))) h = su0_heard1 j r h := by
  simp only [suA_heard1, su0_heard1, mLst, mCons, mC, mB, mNil, Res.bind, mXfA_at hl, mIsxA_at hl, mAndV, mNotV, mT]
theorem sels (G : Gx P w K mg base) : Sels K G.T [cl_heard0 G.c, cl_heard1 G.c] sel_heard := fun c su e => by
  unfold sel_heard at e
  split at e
  · rename_i hc
    subst hc; cases e
    exact ⟨[], cl_heard0 G.c, [cl_heard1 G.c], rfl, (fun p hp => by cases hp), by rw [G.v_InvalidNumber]; exact G.te_InvalidNumber_InvalidNumber, G.v_InvalidNumber, fun a j r h w h2 hl e => hind_ret (fA := suA_heard0) (f := su0_heard0) (i := 1) su_ind0 a j r h w h2 hl e⟩
  · skip
    split at e
    · rename_i hc
      subst hc; cases e
      exact ⟨[cl_heard0 G.c], cl_heard1 G.c, [], rfl, (fun p hp => by
        simp only [List.mem_cons, List.not_mem_nil, or_false] at hp
        rcases hp with rfl
        · rw [G.v_InvalidRange]; exact G.te_InvalidRange_InvalidNumber), by rw [G.v_InvalidRange]; exact G.te_InvalidRange_InvalidRange, G.v_InvalidRange, fun a j r h w h2 hl e => hind_ret (fA := suA_heard1) (f := su0_heard1) (i := 1) su_ind1 a j r h w h2 hl e⟩
    · cases e
abbrev XO_law_odd_right (G : Gx P w K mg base) (A : Around) (outer : List Env) (s : Shared) (H : Hp) (E : XK) : Cx := cxOf (L2.CX P w) P w K mg base ["_law_odd", "_law_low", "_law_high"] "_law_odd_right" (defScope s__law_odd_right) G.f__law_odd_right (.ref G.cO_law_odd_right) A outer s H E
theorem heard__law_odd_right (G : Gx P w K mg base) (A : Around) (outer : List Env) (s : Shared) (H : Hp) (E : XK) (hr : Room 11 (XO_law_odd_right G A outer s H E).A) (hgd : A.guards = some []) {params : Arguments} {body : Expr} {scope : Scope} {fb : Ws → Hv → Res W} {p lpos pos : Pos}
    (L : LamX.LamS (XO_law_odd_right G A outer s H E).env.scope scope) (hdef : defaultsOf params (XO_law_odd_right G A outer s H E).env = ([], [])) (hbind : ∀ (q : Str) (cl : List (Str × Addr)) (pm cv ctv : Value), bindArgs (PySem.W.kla_fn "<lambda>" q params body scope cl pm cv ctv) ⟨[], []⟩ = pure [])
    (hbody : ∀ (A2 : Around) (o2 : List Env) (s2 : Shared) (H2 : Hp) (E2 : XK) (f2 c2 : Addr), Room 9 (A2.deeper (LamX.lamEnv (XO_law_odd_right G A outer s H E) scope s2.heap.objs.size f2 c2)) → SE G.T (LamX.lamCx (XO_law_odd_right G A outer s H E) A2 o2 s2 H2 E2 scope f2 c2) body fb) :
    SE G.T (XO_law_odd_right G A outer s H E) (.Call (.Name "_law_heard" p) [.Lambda params body scope lpos] [] pos) (mHeardM sel_heard fb) := by
  obtain ⟨oc, od, kV, doc, pm, an, cdv, ct, osl, e, lk, hcd⟩ := G.F__law_heard.ex
  rw [e] at lk
  have hb := G.n__law_heard
  rw [e] at hb
  have hu : (XO_law_odd_right G A outer s H E).A.units + 3 + 64 < cLine := by have := hr.un; omega
  exact se_heardM (k := 9) (l := [cl_heard0 G.c, cl_heard1 G.c]) (sels G) G.g__law_heard G.k__law_heard lk hcd hb sc__law_heard (Or.inl rfl) (fun s2 H2 => (hdA_cons (c := cl_heard0 G.c) ⟨rfl, by decide, Or.inl G.e_InvalidNumber.mgC⟩ (fun ad oe cls dd pn j hk hz hf => sss_one (ss_ret (se_lst (sa_cons se_str (sa_cons (se_b (call_reprE hgd hu) rc_reprE rfl G.b_repr (by decide +kernel) (sa_cons (se_xf 1 G.xf_InvalidNumber G.no_InvalidNumber hz hf hk) sa_nil)) sa_nil))))) (hdA_cons (c := cl_heard1 G.c) ⟨rfl, by decide, Or.inl G.e_InvalidRange.mgC⟩ (fun ad oe cls dd pn j hk hz hf => sss_one (ss_ret (se_lst (sa_cons se_str (sa_cons (se_xf 1 G.xf_InvalidRange G.no_InvalidRange hz hf hk) (sa_cons (se_isx 1 G.xc_InvalidRange hz hf hk rfl G.b_isinstance (pe_glob (v := .ref G.kTimesError) rfl G.m_TimesError rfl) (fun _ r => r) G.ki_InvalidRange_TimesError) sa_nil)))))) .nil))) rfl G.TB_law_odd_right rfl List.mem_cons_self (by
      intro p hp
      simp only [Tx.plain, List.mem_cons, List.not_mem_nil, or_false] at hp
      rcases hp with rfl
      · exact (by intro _; rfl)) hr L hdef hbind hbody
theorem ok__law_right (G : Gx P w K mg base) : FnG P w K mg base G.T 10 G.f__law_right 1 m__law_right := fn_defG (qs := ["_law_state"]) G.F__law_right sc__law_right G.n__law_right (fun cdv A outer s H E hr hgd => by
  have hu := hr.units
  have S := sc__law_right
  exact (sss_cons (ss_asg (se_tup (sa_cons (se_tup (sa_cons (se_call (can_ok (ok__law_small G) (hr.mono (by decide)) G.n__law_small) rfl G.g__law_small G.k__law_small (sa_cons (se_var 0) sa_nil)) (sa_cons (se_call (can_ok (ok__law_small G) (hr.mono (by decide)) G.n__law_small) rfl G.g__law_small G.k__law_small (sa_cons (se_var 0) sa_nil)) sa_nil))) (sa_cons (se_call (can_ok (ok__law_range G) (hr.mono (by decide)) G.n__law_range) rfl G.g__law_range G.k__law_range (sa_cons (se_var 0) sa_nil)) sa_nil))) (sg_seq (sgs_cons (sg_name 1 S.nd) (sgs_cons (sg_seq (sgs_cons (sg_name 2 S.nd) (sgs_cons (sg_name 3 S.nd) sgs_nil))) sgs_nil))))
    (sss_cons (ss_set 4 S.nd (se_call (can_ok (ok__law_small G) (hr.mono (by decide)) G.n__law_small) rfl G.g__law_small G.k__law_small (sa_cons (se_var 0) sa_nil)))
    (sss_cons (ss_set 5 S.nd (se_op op_sub ro_sub (se_op op_addA ro_add (se_op op_mulA ro_mul (se_ix (se_var 1) se_int) (se_ix (se_var 2) se_int)) (se_op op_mulA ro_mul (se_ix (se_var 1) se_int) (se_ix (se_var 2) se_int))) (se_op op_mulA ro_mul (se_var 4) (se_ix (se_var 2) se_int))))
    (sss_cons (ss_set 6 S.nd (se_tup (sa_cons (se_var 4) (sa_cons (se_bt call_int1 rc_int rfl G.b_int (by decide +kernel) (sa_cons (se_op op_fdivG ro_div (se_var 5) (se_ix (se_var 2) se_int)) sa_nil)) sa_nil))))
    (sss_cons (ss_for (si_seq (se_lst (sa_cons (se_tup (sa_cons (se_call (can_ok (ok__law_small G) (hr.mono (by decide)) G.n__law_small) rfl G.g__law_small G.k__law_small (sa_cons (se_var 0) sa_nil)) (sa_cons (se_call (can_ok (ok__law_small G) (hr.mono (by decide)) G.n__law_small) rfl G.g__law_small G.k__law_small (sa_cons (se_var 0) sa_nil)) sa_nil))) (sa_cons (se_var 6) (sa_cons (se_var 1) (sa_cons (se_tup (sa_cons (se_ix (se_var 1) se_int) (sa_cons (se_op op_addA ro_add (se_ix (se_var 1) se_int) se_int) sa_nil))) (sa_cons (se_tup (sa_cons (se_op op_addA ro_add (se_ix (se_var 1) se_int) se_int) (sa_cons (se_ix (se_var 1) se_int) sa_nil))) sa_nil))))))) (sg_name 7 S.nd) (sss_cons (ss_par 8 9 S.nd (sa_cons (se_call (can_ok (ok__law_due G) (hr.mono (by decide)) G.n__law_due) rfl G.g__law_due G.k__law_due (sa_cons (se_var 1) (sa_cons (se_var 7) (sa_cons (se_var 2) (sa_cons (se_var 3) sa_nil))))) (sa_cons (se_call (can_ok (ok_order_within G) (hr.mono (by decide)) G.n_order_within) rfl G.g_order_within G.k_order_within (sa_cons (se_var 1) (sa_cons (se_var 7) (sa_cons (se_var 2) (sa_cons (se_var 3) sa_nil))))) sa_nil)))
    (sss_cons (ss_set 10 S.nd (se_call (can_ok (ok_order_within G) (hr.mono (by decide)) G.n_order_within) rfl G.g_order_within G.k_order_within (sa_cons (se_var 7) (sa_cons (se_var 1) (sa_cons (se_var 2) (sa_cons (se_var 3) sa_nil))))))
    (sss_cons (ss_if (st_w (sw_or (st_cmp (op_neD hu) ro_ne (se_b (call_reprE hgd hu) rc_reprE rfl G.b_repr (by decide +kernel) (sa_cons (se_var 9) sa_nil)) (se_b (call_reprE hgd hu) rc_reprE rfl G.b_repr (by decide +kernel) (sa_cons (se_var 8) sa_nil)) (nomark _)) (sw_or1 (st_cmp (op_neD hu) ro_ne (se_var 10) (se_if (st_cmp op_isA ro_is (se_var 8) se_non (nomark _)) se_non (se_neg (se_var 8))) (nomark _))))) (sss_one (ss_ret se_bl)) sss_nil)
    (sss_one (ss_for (si_seq (se_call (can_ok (ok__law_inner G) (hr.mono (by decide)) G.n__law_inner) rfl G.g__law_inner G.k__law_inner (sa_cons (se_var 2) (sa_cons (se_var 3) sa_nil)))) (sg_name 11 S.nd) (sss_one (ss_if (st_w (sw_and (st_cmp op_isnotA ro_is (se_var 8) se_non (nomark _)) (sw_and1 (st_cmp (op_neD hu) ro_ne (se_call (can_ok (ok__law_sign G) (hr.mono (by decide)) G.n__law_sign) rfl G.g__law_sign G.k__law_sign (sa_cons (se_tup (sa_cons (se_op op_sub ro_sub (se_ix (se_var 1) se_int) (se_ix (se_var 7) se_int)) (sa_cons (se_op op_sub ro_sub (se_ix (se_var 1) se_int) (se_ix (se_var 7) se_int)) sa_nil))) (sa_cons (se_var 11) sa_nil))) (se_var 8) (nomark _))))) (sss_one (ss_ret se_bl)) sss_nil))))))))
    (sss_one (ss_ret se_bl))))))))
theorem ok__law_odd_right (G : Gx P w K mg base) : FnG P w K mg base G.T 12 G.f__law_odd_right 0 m__law_odd_right := fn_defC (qs := []) G.FC_law_odd_right sc__law_odd_right G.n__law_odd_right (fun A outer s H E hr hgd => by
  have hu := hr.units
  have S := sc__law_odd_right
  exact (sss_cons (ss_for (si_seq (se_lst (sa_cons se_non (sa_cons se_int (sa_cons (se_lst (sa_cons se_int (sa_cons se_int sa_nil))) (sa_cons (se_tup (sa_cons se_int sa_nil)) (sa_cons (se_tup (sa_cons se_bl (sa_cons se_int sa_nil))) (sa_cons (se_tup (sa_cons se_str (sa_cons se_int sa_nil))) sa_nil)))))))) (sg_name 0 S.nd) (sss_cons (ss_if (st_cmp (op_neD hu) ro_ne (heard__law_odd_right G A outer s H E (hr.mono (by decide)) hgd (LamX.lamS_by (sc := defScope s__law_odd_right) (by decide +kernel)) rfl (fun _ _ _ _ _ => rfl) (fun A2 o2 s2 H2 E2 f2 c2 hr => by
      have hu := hr.units
      exact (se_call (can_ok (ok_order_within G) (hr.mono (by decide)) G.n_order_within) rfl G.g_order_within G.k_order_within (sa_cons (se_var 0) (sa_cons se_non (sa_cons se_non (sa_cons se_non sa_nil))))))) (se_lst (sa_cons se_str (sa_cons (se_b (call_reprE hgd hu) rc_reprE rfl G.b_repr (by decide +kernel) (sa_cons (se_var 0) sa_nil)) sa_nil))) (nomark _)) (sss_one (ss_ret se_bl)) sss_nil)
    (sss_one (ss_if (st_cmp (op_neD hu) ro_ne (heard__law_odd_right G A outer s H E (hr.mono (by decide)) hgd (LamX.lamS_by (sc := defScope s__law_odd_right) (by decide +kernel)) rfl (fun _ _ _ _ _ => rfl) (fun A2 o2 s2 H2 E2 f2 c2 hr => by
      have hu := hr.units
      exact (se_call (can_ok (ok_order_within G) (hr.mono (by decide)) G.n_order_within) rfl G.g_order_within G.k_order_within (sa_cons (se_tup (sa_cons se_int (sa_cons se_int sa_nil))) (sa_cons (se_var 0) (sa_cons se_non (sa_cons se_non sa_nil))))))) (se_lst (sa_cons se_str (sa_cons (se_b (call_reprE hgd hu) rc_reprE rfl G.b_repr (by decide +kernel) (sa_cons (se_var 0) sa_nil)) sa_nil))) (nomark _)) (sss_one (ss_ret se_bl)) sss_nil))))
    (sss_cons (ss_for (si_seq (se_lst (sa_cons se_int (sa_cons (se_tup (sa_cons se_int (sa_cons se_int sa_nil))) (sa_cons (se_tup (sa_cons se_int (sa_cons se_int sa_nil))) (sa_cons (se_lst (sa_cons se_int (sa_cons se_int sa_nil))) (sa_cons se_str (sa_cons se_bl sa_nil)))))))) (sg_name 0 S.nd) (sss_cons (ss_if (st_cmp (op_neD hu) ro_ne (heard__law_odd_right G A outer s H E (hr.mono (by decide)) hgd (LamX.lamS_by (sc := defScope s__law_odd_right) (by decide +kernel)) rfl (fun _ _ _ _ _ => rfl) (fun A2 o2 s2 H2 E2 f2 c2 hr => by
      have hu := hr.units
      exact (se_call (can_ok (ok_order_within G) (hr.mono (by decide)) G.n_order_within) rfl G.g_order_within G.k_order_within (sa_cons (se_tup (sa_cons se_int (sa_cons se_int sa_nil))) (sa_cons (se_tup (sa_cons se_int (sa_cons se_int sa_nil))) (sa_cons (se_var 0) (sa_cons (se_var 0) sa_nil))))))) (se_lst (sa_cons se_str (sa_cons (se_b (call_reprE hgd hu) rc_reprE rfl G.b_repr (by decide +kernel) (sa_cons (se_var 0) sa_nil)) sa_nil))) (nomark _)) (sss_one (ss_ret se_bl)) sss_nil)
    (sss_one (ss_if (st_cmp (op_neD hu) ro_ne (heard__law_odd_right G A outer s H E (hr.mono (by decide)) hgd (LamX.lamS_by (sc := defScope s__law_odd_right) (by decide +kernel)) rfl (fun _ _ _ _ _ => rfl) (fun A2 o2 s2 H2 E2 f2 c2 hr => by
      have hu := hr.units
      exact (se_call (can_ok (ok_order_within G) (hr.mono (by decide)) G.n_order_within) rfl G.g_order_within G.k_order_within (sa_cons (se_tup (sa_cons se_int (sa_cons se_int sa_nil))) (sa_cons (se_tup (sa_cons se_int (sa_cons se_int sa_nil))) (sa_cons (se_tup (sa_cons se_int (sa_cons se_int sa_nil))) (sa_cons (se_var 0) sa_nil))))))) (se_lst (sa_cons se_str (sa_cons (se_b (call_reprE hgd hu) rc_reprE rfl G.b_repr (by decide +kernel) (sa_cons (se_var 0) sa_nil)) sa_nil))) (nomark _)) (sss_one (ss_ret se_bl)) sss_nil))))
    (sss_cons (ss_for (si_seq (se_lst (sa_cons (se_tup (sa_cons (se_tup (sa_cons se_int (sa_cons se_int sa_nil))) (sa_cons (se_tup (sa_cons se_int (sa_cons se_int sa_nil))) sa_nil))) (sa_cons (se_tup (sa_cons (se_tup (sa_cons se_int (sa_cons se_int sa_nil))) (sa_cons (se_tup (sa_cons se_int (sa_cons se_int sa_nil))) sa_nil))) (sa_cons (se_tup (sa_cons (se_tup (sa_cons se_int (sa_cons se_int sa_nil))) (sa_cons (se_tup (sa_cons (se_neg se_int) (sa_cons se_int sa_nil))) sa_nil))) sa_nil))))) (sg_seq (sgs_cons (sg_name 1 S.nd) (sgs_cons (sg_name 2 S.nd) sgs_nil))) (sss_one (ss_if (st_cmp (op_neD hu) ro_ne (heard__law_odd_right G A outer s H E (hr.mono (by decide)) hgd (LamX.lamS_by (sc := defScope s__law_odd_right) (by decide +kernel)) rfl (fun _ _ _ _ _ => rfl) (fun A2 o2 s2 H2 E2 f2 c2 hr => by
      have hu := hr.units
      exact (se_call (can_ok (ok_order_within G) (hr.mono (by decide)) G.n_order_within) rfl G.g_order_within G.k_order_within (sa_cons (se_tup (sa_cons se_int (sa_cons se_int sa_nil))) (sa_cons (se_tup (sa_cons se_int (sa_cons se_int sa_nil))) (sa_cons (se_var 1) (sa_cons (se_var 2) sa_nil))))))) (se_lst (sa_cons se_str (sa_cons (se_tup (sa_cons (se_var 1) (sa_cons (se_var 2) sa_nil))) (sa_cons se_bl sa_nil)))) (nomark _)) (sss_one (ss_ret se_bl)) sss_nil)))
    (sss_one (ss_ret (se_cmp (op_eqD hu) ro_eq (heard__law_odd_right G A outer s H E (hr.mono (by decide)) hgd (LamX.lamS_by (sc := defScope s__law_odd_right) (by decide +kernel)) rfl (fun _ _ _ _ _ => rfl) (fun A2 o2 s2 H2 E2 f2 c2 hr => by
      have hu := hr.units
      exact (se_call (can_ok (ok_order_within G) (hr.mono (by decide)) G.n_order_within) rfl G.g_order_within G.k_order_within (sa_cons (se_tup (sa_cons se_int (sa_cons se_int sa_nil))) (sa_cons (se_tup (sa_cons se_int (sa_cons se_int sa_nil))) (sa_cons se_non (sa_cons se_non sa_nil))))))) (se_lst (sa_cons se_str (sa_cons se_str sa_nil))) (nomark _))))))))
theorem ok_law (G : Gx P w K mg base) : FnG P w K mg base G.T 13 G.f_law 1 m_law := fn_defG (qs := ["_law_script"]) G.F_law sc_law G.n_law (fun cdv A outer s H E hr hgd => by
  have hu := hr.units
  have S := sc_law
  exact (sss_cons (ss_for (si_enum rfl G.b_enumerate (sa_cons (se_op op_addA ro_add (se_slice (se_var 0) so_none (so_some se_int)) (se_op op_mulA ro_mul (se_lst (sa_cons se_int sa_nil)) (se_bt call_int1 rc_int rfl G.b_int (by decide +kernel) (sa_cons (se_cmp (op_eqD hu) ro_eq (se_var 0) (se_lst sa_nil) (nomark _)) sa_nil)))) sa_nil)) (sg_seq (sgs_cons (sg_name 1 S.nd) (sgs_cons (sg_name 2 S.nd) sgs_nil))) (sss_cons (ss_set 3 S.nd (se_lst (sa_cons (se_call (can_ok (ok__law_numbers G) (hr.mono (by decide)) G.n__law_numbers) rfl G.g__law_numbers G.k__law_numbers (sa_cons (se_var 2) (sa_cons (se_op op_addA ro_add se_int (se_var 1)) (sa_cons (se_op op_mulA ro_mul (se_lst (sa_cons se_int sa_nil)) se_int) sa_nil)))) (sa_cons se_int sa_nil))))
    (sss_one (ss_if (st_w (sw_or (st_cmp (op_neD hu) ro_ne (se_lcIf 4 S.nd (si_range1 rfl G.b_range (sa_cons se_int sa_nil) (len_cons len_nil)) (blkOk_by (own := [("_law_turn", 4)]) (N := ["_law_script", "_law_k", "_law_cell", "_law_state", "_law_turn"]) (sc := defScope s_law) (by decide +kernel)) (fun _ _ _ _ _ => pg_name (i := 4) S.nd rfl (Or.inl rfl)) (fun _ _ _ _ _ => (st_not (st_val (se_call (can_G (ok__law_right G) (hr.mono (by decide)) hgd) rfl G.g__law_right G.k__law_right (sa_cons (se_var 3) sa_nil))))) (fun _ _ _ _ _ => (se_var 4))) (se_lst sa_nil) (nomark _)) (sw_or1 (st_not (st_val (se_fresh (can_G (ok__law_odd_right G) (hr.mono (by decide)) hgd) trivial rfl G.g__law_odd_right G.k__law_odd_right)))))) (sss_one (ss_ret se_bl)) sss_nil))))
    (sss_cons (ss_if (st_w (sw_or (st_cmp (op_neD hu) ro_ne (se_call (can_ok (ok_order_within G) (hr.mono (by decide)) G.n_order_within) rfl G.g_order_within G.k_order_within (sa_cons (se_tup (sa_cons se_int (sa_cons se_int sa_nil))) (sa_cons (se_tup (sa_cons se_int (sa_cons se_int sa_nil))) (sa_cons (se_tup (sa_cons se_int (sa_cons se_int sa_nil))) (sa_cons (se_tup (sa_cons se_int (sa_cons se_int sa_nil))) sa_nil))))) (se_neg se_int) (nomark _)) (sw_or1 (st_cmp (op_neD hu) ro_ne (se_call (can_ok (ok_order_within G) (hr.mono (by decide)) G.n_order_within) rfl G.g_order_within G.k_order_within (sa_cons (se_tup (sa_cons se_int (sa_cons se_int sa_nil))) (sa_cons (se_tup (sa_cons se_int (sa_cons se_int sa_nil))) (sa_cons (se_tup (sa_cons se_int (sa_cons se_int sa_nil))) (sa_cons se_non sa_nil))))) se_int (nomark _))))) (sss_one (ss_ret se_bl)) sss_nil)
    (sss_one (ss_ret (se_cmp op_isA ro_is (se_call (can_ok (ok_order_within G) (hr.mono (by decide)) G.n_order_within) rfl G.g_order_within G.k_order_within (sa_cons (se_tup (sa_cons se_int (sa_cons se_int sa_nil))) (sa_cons (se_tup (sa_cons se_int (sa_cons se_int sa_nil))) (sa_cons (se_tup (sa_cons se_int (sa_cons se_int sa_nil))) (sa_cons se_non sa_nil))))) se_non (nomark _)))))))
end
end K04
end
section
namespace K04
open PySem PySem.Spec PyProof.Rows L2 VL
abbrev s_init_InvalidNumber : Stmt := inClass (top 3) 0
theorem sc_init_InvalidNumber : FnScope ["self", "value"] ["self", "value"] (defScope s_init_InvalidNumber) := ⟨rfl, rfl, rfl, by decide +kernel, rfl, by decide +kernel, by decide +kernel⟩
theorem ok_init_InvalidNumber {P : Program} {w : World} {K : PySem.W.Frag} {mg : Str → Option Value} {base : Heap} {f C : Addr} {fd : FuncData} (F : Fun K "__init__" "InvalidNumber.__init__" s_init_InvalidNumber f fd) (T : OexG K C) (no : PySem.W.findIn K (.ref C) "value" = some none) : FnOk P w K mg base CX0 1 f fd ["self", "value"] (spInit K C "value") := by
  refine F.ok sc_init_InvalidNumber (fun vs H Q E h => ?_) (fun cdv A outer s H vs Q E hr h => ?_)
  · obtain ⟨a, v, rfl, _⟩ := h
    rfl
  · obtain ⟨a, v, rfl, ha, k⟩ := h
    exact ⟨_, pss_one (ps_ostG (pv 0) (pv 1)), _, rfl, _, rfl, a, C, rfl, T, no, ha, fun dx hd ne => k dx hd ne⟩
abbrev s_init_InvalidRange : Stmt := inClass (top 2) 0
theorem sc_init_InvalidRange : FnScope ["self", "value"] ["self", "value"] (defScope s_init_InvalidRange) := ⟨rfl, rfl, rfl, by decide +kernel, rfl, by decide +kernel, by decide +kernel⟩
theorem ok_init_InvalidRange {P : Program} {w : World} {K : PySem.W.Frag} {mg : Str → Option Value} {base : Heap} {f C : Addr} {fd : FuncData} (F : Fun K "__init__" "InvalidRange.__init__" s_init_InvalidRange f fd) (T : OexG K C) (no : PySem.W.findIn K (.ref C) "value" = some none) : FnOk P w K mg base CX0 1 f fd ["self", "value"] (spInit K C "value") := by
  refine F.ok sc_init_InvalidRange (fun vs H Q E h => ?_) (fun cdv A outer s H vs Q E hr h => ?_)
  · obtain ⟨a, v, rfl, _⟩ := h
    rfl
  · obtain ⟨a, v, rfl, ha, k⟩ := h
    exact ⟨_, pss_one (ps_ostG (pv 0) (pv 1)), _, rfl, _, rfl, a, C, rfl, T, no, ha, fun dx hd ne => k dx hd ne⟩
theorem mk {w : World} {K : PySem.W.Frag} {h : Heap} {mg : Str → Option Value} {fa : Addr} (X : K.In h) (G : h.Ns mainGlobals mg) (hfa : mg "law" = some (.ref fa)) (true_ : ∀ (ns : List Int), ns.length ≤ 63 → (∀ z ∈ ns, Builtin.Int.intBits z ≤ 1048576) → ∃ h', m_law [.ref 0] [.rol (ns.map W.int)] = .val (.bl true) h')
    {f_xiswhole : Addr} {od_xiswhole an_xiswhole : Option Addr} {sl_xiswhole : Array (Option Value)} {oc_xiswhole kV_xiswhole dc_xiswhole pm_xiswhole ct_xiswhole : Value} {cd_xiswhole : Value} {f_xiswholepair : Addr} {od_xiswholepair an_xiswholepair : Option Addr} {sl_xiswholepair : Array (Option Value)} {oc_xiswholepair kV_xiswholepair dc_xiswholepair pm_xiswholepair ct_xiswholepair : Value} {cd_xiswholepair : Value} {f_xsignof : Addr} {od_xsignof an_xsignof : Option Addr} {sl_xsignof : Array (Option Value)} {oc_xsignof kV_xsignof dc_xsignof pm_xsignof ct_xsignof : Value} {cd_xsignof : Value} {f_xcommondivisor : Addr} {od_xcommondivisor an_xcommondivisor : Option Addr} {sl_xcommondivisor : Array (Option Value)} {oc_xcommondivisor kV_xcommondivisor dc_xcommondivisor pm_xcommondivisor ct_xcommondivisor : Value} {cd_xcommondivisor : Value} {f_xisfraction : Addr} {od_xisfraction an_xisfraction : Option Addr} {sl_xisfraction : Array (Option Value)} {oc_xisfraction kV_xisfraction dc_xisfraction pm_xisfraction ct_xisfraction : Value} {cd_xisfraction : Value} {f_xrequirefraction : Addr} {od_xrequirefraction an_xrequirefraction : Option Addr} {sl_xrequirefraction : Array (Option Value)} {oc_xrequirefraction kV_xrequirefraction dc_xrequirefraction pm_xrequirefraction ct_xrequirefraction : Value} {cd_xrequirefraction : Value} {f_xfraction : Addr} {od_xfraction an_xfraction : Option Addr} {sl_xfraction : Array (Option Value)} {oc_xfraction kV_xfraction dc_xfraction pm_xfraction ct_xfraction : Value} {cd_xfraction : Value} {f_xorderof : Addr} {od_xorderof an_xorderof : Option Addr} {sl_xorderof : Array (Option Value)} {oc_xorderof kV_xorderof dc_xorderof pm_xorderof ct_xorderof : Value} {cd_xorderof : Value} {f_xcompared : Addr} {od_xcompared an_xcompared : Option Addr} {sl_xcompared : Array (Option Value)} {oc_xcompared kV_xcompared dc_xcompared pm_xcompared ct_xcompared : Value} {cd_xcompared : Value} {f_xisline : Addr} {od_xisline an_xisline : Option Addr} {sl_xisline : Array (Option Value)} {oc_xisline kV_xisline dc_xisline pm_xisline ct_xisline : Value} {cd_xisline : Value} {f_xrequireline : Addr} {od_xrequireline an_xrequireline : Option Addr} {sl_xrequireline : Array (Option Value)} {oc_xrequireline kV_xrequireline dc_xrequireline pm_xrequireline ct_xrequireline : Value} {cd_xrequireline : Value} {f_xvalueat : Addr} {od_xvalueat an_xvalueat : Option Addr} {sl_xvalueat : Array (Option Value)} {oc_xvalueat kV_xvalueat dc_xvalueat pm_xvalueat ct_xvalueat : Value} {cd_xvalueat : Value} {f_xsignat : Addr} {od_xsignat an_xsignat : Option Addr} {sl_xsignat : Array (Option Value)} {oc_xsignat kV_xsignat dc_xsignat pm_xsignat ct_xsignat : Value} {cd_xsignat : Value} {f_xsigntowards : Addr} {od_xsigntowards an_xsigntowards : Option Addr} {sl_xsigntowards : Array (Option Value)} {oc_xsigntowards kV_xsigntowards dc_xsigntowards pm_xsigntowards ct_xsigntowards : Value} {cd_xsigntowards : Value} {f_xorderwithin : Addr} {od_xorderwithin an_xorderwithin : Option Addr} {sl_xorderwithin : Array (Option Value)} {oc_xorderwithin kV_xorderwithin dc_xorderwithin pm_xorderwithin ct_xorderwithin : Value} {cd_xorderwithin : Value} {f_xlawnumbers : Addr} {od_xlawnumbers an_xlawnumbers : Option Addr} {sl_xlawnumbers : Array (Option Value)} {oc_xlawnumbers kV_xlawnumbers dc_xlawnumbers pm_xlawnumbers ct_xlawnumbers : Value} {cd_xlawnumbers : Value} {f_xlawdraw : Addr} {od_xlawdraw an_xlawdraw : Option Addr} {sl_xlawdraw : Array (Option Value)} {oc_xlawdraw kV_xlawdraw dc_xlawdraw pm_xlawdraw ct_xlawdraw : Value} {cd_xlawdraw : Value} {f_xlawfraction : Addr} {od_xlawfraction an_xlawfraction : Option Addr} {sl_xlawfraction : Array (Option Value)} {oc_xlawfraction kV_xlawfraction dc_xlawfraction pm_xlawfraction ct_xlawfraction : Value} {cd_xlawfraction : Value} {f_xlawsmall : Addr} {od_xlawsmall an_xlawsmall : Option Addr} {sl_xlawsmall : Array (Option Value)} {oc_xlawsmall kV_xlawsmall dc_xlawsmall pm_xlawsmall ct_xlawsmall : Value} {cd_xlawsmall : Value} {f_xlawsign : Addr} {od_xlawsign an_xlawsign : Option Addr} {sl_xlawsign : Array (Option Value)} {oc_xlawsign kV_xlawsign dc_xlawsign pm_xlawsign ct_xlawsign : Value} {cd_xlawsign : Value} {f_xlawdue : Addr} {od_xlawdue an_xlawdue : Option Addr} {sl_xlawdue : Array (Option Value)} {oc_xlawdue kV_xlawdue dc_xlawdue pm_xlawdue ct_xlawdue : Value} {cd_xlawdue : Value} {f_xlawrange : Addr} {od_xlawrange an_xlawrange : Option Addr} {sl_xlawrange : Array (Option Value)} {oc_xlawrange kV_xlawrange dc_xlawrange pm_xlawrange ct_xlawrange : Value} {cd_xlawrange : Value} {f_xlawinner : Addr} {od_xlawinner an_xlawinner : Option Addr} {sl_xlawinner : Array (Option Value)} {oc_xlawinner kV_xlawinner dc_xlawinner pm_xlawinner ct_xlawinner : Value} {cd_xlawinner : Value} {f_xlawheard : Addr} {od_xlawheard an_xlawheard : Option Addr} {sl_xlawheard : Array (Option Value)} {oc_xlawheard kV_xlawheard dc_xlawheard pm_xlawheard ct_xlawheard : Value} {cd_xlawheard : Value} {f_xlawright : Addr} {od_xlawright an_xlawright : Option Addr} {sl_xlawright : Array (Option Value)} {oc_xlawright kV_xlawright dc_xlawright pm_xlawright ct_xlawright : Value} {cd_xlawright : Value} {f_xlawoddright : Addr} {od_xlawoddright an_xlawoddright : Option Addr} {sl_xlawoddright : Array (Option Value)} {oc_xlawoddright kV_xlawoddright dc_xlawoddright pm_xlawoddright ct_xlawoddright : Value} {c_xlawoddright P_xlawoddright : Addr} {f_xlaw : Addr} {od_xlaw an_xlaw : Option Addr} {sl_xlaw : Array (Option Value)} {oc_xlaw kV_xlaw dc_xlaw pm_xlaw ct_xlaw : Value} {cd_xlaw : Value} {kTimesError : Addr} {C_InvalidNumber fI_InvalidNumber : Addr} {nm_InvalidNumber q0_InvalidNumber : Str} {N_InvalidNumber : Addr} {bs_InvalidNumber : List Value} {sn_InvalidNumber : List Str} {sub_InvalidNumber : List Value} {ab_InvalidNumber : Bool} {col_InvalidNumber : Option Bool} {dd_InvalidNumber : Option Addr} {m0_InvalidNumber m1_InvalidNumber m2_InvalidNumber m3_InvalidNumber m5_InvalidNumber : Option Value} {odi_InvalidNumber ani_InvalidNumber : Option Addr} {sli_InvalidNumber : Array (Option Value)} {oci_InvalidNumber kVi_InvalidNumber dci_InvalidNumber pmi_InvalidNumber cdi_InvalidNumber cti_InvalidNumber : Value} {C_InvalidRange fI_InvalidRange : Addr} {nm_InvalidRange q0_InvalidRange : Str} {N_InvalidRange : Addr} {bs_InvalidRange : List Value} {sn_InvalidRange : List Str} {sub_InvalidRange : List Value} {ab_InvalidRange : Bool} {col_InvalidRange : Option Bool} {dd_InvalidRange : Option Addr} {m0_InvalidRange m1_InvalidRange m2_InvalidRange m3_InvalidRange m5_InvalidRange : Option Value} {odi_InvalidRange ani_InvalidRange : Option Addr} {sli_InvalidRange : Array (Option Value)} {oci_InvalidRange kVi_InvalidRange dci_InvalidRange pmi_InvalidRange cdi_InvalidRange cti_InvalidRange : Value}
    (a_xiswhole : PySem.W.nsIn K mainGlobals "is_whole" = some (some (.ref f_xiswhole))) (l_xiswhole : K.lookup f_xiswhole = some ⟨oc_xiswhole, od_xiswhole, .func (PySem.W.fnOf "is_whole" "is_whole" (defArgs s_is_whole) (defBody s_is_whole) (defScope s_is_whole) .none kV_xiswhole dc_xiswhole pm_xiswhole an_xiswhole cd_xiswhole ct_xiswhole), sl_xiswhole⟩) (c_xiswhole1 : PySem.W.codeIn K cd_xiswhole "is_whole" = true) (k_xiswhole : PySem.W.keepIn K (.ref f_xiswhole) = true) (a_xiswholepair : PySem.W.nsIn K mainGlobals "is_whole_pair" = some (some (.ref f_xiswholepair))) (l_xiswholepair : K.lookup f_xiswholepair = some ⟨oc_xiswholepair, od_xiswholepair, .func (PySem.W.fnOf "is_whole_pair" "is_whole_pair" (defArgs s_is_whole_pair) (defBody s_is_whole_pair) (defScope s_is_whole_pair) .none kV_xiswholepair dc_xiswholepair pm_xiswholepair an_xiswholepair cd_xiswholepair ct_xiswholepair), sl_xiswholepair⟩) (c_xiswholepair1 : PySem.W.codeIn K cd_xiswholepair "is_whole_pair" = true) (k_xiswholepair : PySem.W.keepIn K (.ref f_xiswholepair) = true) (a_xsignof : PySem.W.nsIn K mainGlobals "sign_of" = some (some (.ref f_xsignof))) (l_xsignof : K.lookup f_xsignof = some ⟨oc_xsignof, od_xsignof, .func (PySem.W.fnOf "sign_of" "sign_of" (defArgs s_sign_of) (defBody s_sign_of) (defScope s_sign_of) .none kV_xsignof dc_xsignof pm_xsignof an_xsignof cd_xsignof ct_xsignof), sl_xsignof⟩) (c_xsignof1 : PySem.W.codeIn K cd_xsignof "sign_of" = true) (k_xsignof : PySem.W.keepIn K (.ref f_xsignof) = true) (a_xcommondivisor : PySem.W.nsIn K mainGlobals "common_divisor" = some (some (.ref f_xcommondivisor))) (l_xcommondivisor : K.lookup f_xcommondivisor = some ⟨oc_xcommondivisor, od_xcommondivisor, .func (PySem.W.fnOf "common_divisor" "common_divisor" (defArgs s_common_divisor) (defBody s_common_divisor) (defScope s_common_divisor) .none kV_xcommondivisor dc_xcommondivisor pm_xcommondivisor an_xcommondivisor cd_xcommondivisor ct_xcommondivisor), sl_xcommondivisor⟩) (c_xcommondivisor1 : PySem.W.codeIn K cd_xcommondivisor "common_divisor" = true) (k_xcommondivisor : PySem.W.keepIn K (.ref f_xcommondivisor) = true) (a_xisfraction : PySem.W.nsIn K mainGlobals "is_fraction" = some (some (.ref f_xisfraction))) (l_xisfraction : K.lookup f_xisfraction = some ⟨oc_xisfraction, od_xisfraction, .func (PySem.W.fnOf "is_fraction" "is_fraction" (defArgs s_is_fraction) (defBody s_is_fraction) (defScope s_is_fraction) .none kV_xisfraction dc_xisfraction pm_xisfraction an_xisfraction cd_xisfraction ct_xisfraction), sl_xisfraction⟩) (c_xisfraction1 : PySem.W.codeIn K cd_xisfraction "is_fraction" = true) (k_xisfraction : PySem.W.keepIn K (.ref f_xisfraction) = true) (a_xrequirefraction : PySem.W.nsIn K mainGlobals "require_fraction" = some (some (.ref f_xrequirefraction))) (l_xrequirefraction : K.lookup f_xrequirefraction = some ⟨oc_xrequirefraction, od_xrequirefraction, .func (PySem.W.fnOf "require_fraction" "require_fraction" (defArgs s_require_fraction) (defBody s_require_fraction) (defScope s_require_fraction) .none kV_xrequirefraction dc_xrequirefraction pm_xrequirefraction an_xrequirefraction cd_xrequirefraction ct_xrequirefraction), sl_xrequirefraction⟩) (c_xrequirefraction1 : PySem.W.codeIn K cd_xrequirefraction "require_fraction" = true) (k_xrequirefraction : PySem.W.keepIn K (.ref f_xrequirefraction) = true) (a_xfraction : PySem.W.nsIn K mainGlobals "fraction" = some (some (.ref f_xfraction))) (l_xfraction : K.lookup f_xfraction = some ⟨oc_xfraction, od_xfraction, .func (PySem.W.fnOf "fraction" "fraction" (defArgs s_fraction) (defBody s_fraction) (defScope s_fraction) .none kV_xfraction dc_xfraction pm_xfraction an_xfraction cd_xfraction ct_xfraction), sl_xfraction⟩) (c_xfraction1 : PySem.W.codeIn K cd_xfraction "fraction" = true) (k_xfraction : PySem.W.keepIn K (.ref f_xfraction) = true) (a_xorderof : PySem.W.nsIn K mainGlobals "order_of" = some (some (.ref f_xorderof))) (l_xorderof : K.lookup f_xorderof = some ⟨oc_xorderof, od_xorderof, .func (PySem.W.fnOf "order_of" "order_of" (defArgs s_order_of) (defBody s_order_of) (defScope s_order_of) .none kV_xorderof dc_xorderof pm_xorderof an_xorderof cd_xorderof ct_xorderof), sl_xorderof⟩) (c_xorderof1 : PySem.W.codeIn K cd_xorderof "order_of" = true) (k_xorderof : PySem.W.keepIn K (.ref f_xorderof) = true) (a_xcompared : PySem.W.nsIn K mainGlobals "compared" = some (some (.ref f_xcompared))) (l_xcompared : K.lookup f_xcompared = some ⟨oc_xcompared, od_xcompared, .func (PySem.W.fnOf "compared" "compared" (defArgs s_compared) (defBody s_compared) (defScope s_compared) .none kV_xcompared dc_xcompared pm_xcompared an_xcompared cd_xcompared ct_xcompared), sl_xcompared⟩) (c_xcompared1 : PySem.W.codeIn K cd_xcompared "compared" = true) (k_xcompared : PySem.W.keepIn K (.ref f_xcompared) = true) (a_xisline : PySem.W.nsIn K mainGlobals "is_line" = some (some (.ref f_xisline))) (l_xisline : K.lookup f_xisline = some ⟨oc_xisline, od_xisline, .func (PySem.W.fnOf "is_line" "is_line" (defArgs s_is_line) (defBody s_is_line) (defScope s_is_line) .none kV_xisline dc_xisline pm_xisline an_xisline cd_xisline ct_xisline), sl_xisline⟩) (c_xisline1 : PySem.W.codeIn K cd_xisline "is_line" = true) (k_xisline : PySem.W.keepIn K (.ref f_xisline) = true) (a_xrequireline : PySem.W.nsIn K mainGlobals "require_line" = some (some (.ref f_xrequireline))) (l_xrequireline : K.lookup f_xrequireline = some ⟨oc_xrequireline, od_xrequireline, .func (PySem.W.fnOf "require_line" "require_line" (defArgs s_require_line) (defBody s_require_line) (defScope s_require_line) .none kV_xrequireline dc_xrequireline pm_xrequireline an_xrequireline cd_xrequireline ct_xrequireline), sl_xrequireline⟩) (c_xrequireline1 : PySem.W.codeIn K cd_xrequireline "require_line" = true) (k_xrequireline : PySem.W.keepIn K (.ref f_xrequireline) = true) (a_xvalueat : PySem.W.nsIn K mainGlobals "value_at" = some (some (.ref f_xvalueat))) (l_xvalueat : K.lookup f_xvalueat = some ⟨oc_xvalueat, od_xvalueat, .func (PySem.W.fnOf "value_at" "value_at" (defArgs s_value_at) (defBody s_value_at) (defScope s_value_at) .none kV_xvalueat dc_xvalueat pm_xvalueat an_xvalueat cd_xvalueat ct_xvalueat), sl_xvalueat⟩) (c_xvalueat1 : PySem.W.codeIn K cd_xvalueat "value_at" = true) (k_xvalueat : PySem.W.keepIn K (.ref f_xvalueat) = true) (a_xsignat : PySem.W.nsIn K mainGlobals "sign_at" = some (some (.ref f_xsignat))) (l_xsignat : K.lookup f_xsignat = some ⟨oc_xsignat, od_xsignat, .func (PySem.W.fnOf "sign_at" "sign_at" (defArgs s_sign_at) (defBody s_sign_at) (defScope s_sign_at) .none kV_xsignat dc_xsignat pm_xsignat an_xsignat cd_xsignat ct_xsignat), sl_xsignat⟩) (c_xsignat1 : PySem.W.codeIn K cd_xsignat "sign_at" = true) (k_xsignat : PySem.W.keepIn K (.ref f_xsignat) = true) (a_xsigntowards : PySem.W.nsIn K mainGlobals "sign_towards" = some (some (.ref f_xsigntowards))) (l_xsigntowards : K.lookup f_xsigntowards = some ⟨oc_xsigntowards, od_xsigntowards, .func (PySem.W.fnOf "sign_towards" "sign_towards" (defArgs s_sign_towards) (defBody s_sign_towards) (defScope s_sign_towards) .none kV_xsigntowards dc_xsigntowards pm_xsigntowards an_xsigntowards cd_xsigntowards ct_xsigntowards), sl_xsigntowards⟩) (c_xsigntowards1 : PySem.W.codeIn K cd_xsigntowards "sign_towards" = true) (k_xsigntowards : PySem.W.keepIn K (.ref f_xsigntowards) = true) (a_xorderwithin : PySem.W.nsIn K mainGlobals "order_within" = some (some (.ref f_xorderwithin))) (l_xorderwithin : K.lookup f_xorderwithin = some ⟨oc_xorderwithin, od_xorderwithin, .func (PySem.W.fnOf "order_within" "order_within" (defArgs s_order_within) (defBody s_order_within) (defScope s_order_within) .none kV_xorderwithin dc_xorderwithin pm_xorderwithin an_xorderwithin cd_xorderwithin ct_xorderwithin), sl_xorderwithin⟩) (c_xorderwithin1 : PySem.W.codeIn K cd_xorderwithin "order_within" = true) (k_xorderwithin : PySem.W.keepIn K (.ref f_xorderwithin) = true) (a_xlawnumbers : PySem.W.nsIn K mainGlobals "_law_numbers" = some (some (.ref f_xlawnumbers))) (l_xlawnumbers : K.lookup f_xlawnumbers = some ⟨oc_xlawnumbers, od_xlawnumbers, .func (PySem.W.fnOf "_law_numbers" "_law_numbers" (defArgs s__law_numbers) (defBody s__law_numbers) (defScope s__law_numbers) .none kV_xlawnumbers dc_xlawnumbers pm_xlawnumbers an_xlawnumbers cd_xlawnumbers ct_xlawnumbers), sl_xlawnumbers⟩) (c_xlawnumbers1 : PySem.W.codeIn K cd_xlawnumbers "_law_numbers" = true) (k_xlawnumbers : PySem.W.keepIn K (.ref f_xlawnumbers) = true) (a_xlawdraw : PySem.W.nsIn K mainGlobals "_law_draw" = some (some (.ref f_xlawdraw))) (l_xlawdraw : K.lookup f_xlawdraw = some ⟨oc_xlawdraw, od_xlawdraw, .func (PySem.W.fnOf "_law_draw" "_law_draw" (defArgs s__law_draw) (defBody s__law_draw) (defScope s__law_draw) .none kV_xlawdraw dc_xlawdraw pm_xlawdraw an_xlawdraw cd_xlawdraw ct_xlawdraw), sl_xlawdraw⟩) (c_xlawdraw1 : PySem.W.codeIn K cd_xlawdraw "_law_draw" = true) (k_xlawdraw : PySem.W.keepIn K (.ref f_xlawdraw) = true) (a_xlawfraction : PySem.W.nsIn K mainGlobals "_law_fraction" = some (some (.ref f_xlawfraction))) (l_xlawfraction : K.lookup f_xlawfraction = some ⟨oc_xlawfraction, od_xlawfraction, .func (PySem.W.fnOf "_law_fraction" "_law_fraction" (defArgs s__law_fraction) (defBody s__law_fraction) (defScope s__law_fraction) .none kV_xlawfraction dc_xlawfraction pm_xlawfraction an_xlawfraction cd_xlawfraction ct_xlawfraction), sl_xlawfraction⟩) (c_xlawfraction1 : PySem.W.codeIn K cd_xlawfraction "_law_fraction" = true) (k_xlawfraction : PySem.W.keepIn K (.ref f_xlawfraction) = true) (a_xlawsmall : PySem.W.nsIn K mainGlobals "_law_small" = some (some (.ref f_xlawsmall))) (l_xlawsmall : K.lookup f_xlawsmall = some ⟨oc_xlawsmall, od_xlawsmall, .func (PySem.W.fnOf "_law_small" "_law_small" (defArgs s__law_small) (defBody s__law_small) (defScope s__law_small) .none kV_xlawsmall dc_xlawsmall pm_xlawsmall an_xlawsmall cd_xlawsmall ct_xlawsmall), sl_xlawsmall⟩) (c_xlawsmall1 : PySem.W.codeIn K cd_xlawsmall "_law_small" = true) (k_xlawsmall : PySem.W.keepIn K (.ref f_xlawsmall) = true) (a_xlawsign : PySem.W.nsIn K mainGlobals "_law_sign" = some (some (.ref f_xlawsign))) (l_xlawsign : K.lookup f_xlawsign = some ⟨oc_xlawsign, od_xlawsign, .func (PySem.W.fnOf "_law_sign" "_law_sign" (defArgs s__law_sign) (defBody s__law_sign) (defScope s__law_sign) .none kV_xlawsign dc_xlawsign pm_xlawsign an_xlawsign cd_xlawsign ct_xlawsign), sl_xlawsign⟩) (c_xlawsign1 : PySem.W.codeIn K cd_xlawsign "_law_sign" = true) (k_xlawsign : PySem.W.keepIn K (.ref f_xlawsign) = true) (a_xlawdue : PySem.W.nsIn K mainGlobals "_law_due" = some (some (.ref f_xlawdue))) (l_xlawdue : K.lookup f_xlawdue = some ⟨oc_xlawdue, od_xlawdue, .func (PySem.W.fnOf "_law_due" "_law_due" (defArgs s__law_due) (defBody s__law_due) (defScope s__law_due) .none kV_xlawdue dc_xlawdue pm_xlawdue an_xlawdue cd_xlawdue ct_xlawdue), sl_xlawdue⟩) (c_xlawdue1 : PySem.W.codeIn K cd_xlawdue "_law_due" = true) (k_xlawdue : PySem.W.keepIn K (.ref f_xlawdue) = true) (a_xlawrange : PySem.W.nsIn K mainGlobals "_law_range" = some (some (.ref f_xlawrange))) (l_xlawrange : K.lookup f_xlawrange = some ⟨oc_xlawrange, od_xlawrange, .func (PySem.W.fnOf "_law_range" "_law_range" (defArgs s__law_range) (defBody s__law_range) (defScope s__law_range) .none kV_xlawrange dc_xlawrange pm_xlawrange an_xlawrange cd_xlawrange ct_xlawrange), sl_xlawrange⟩) (c_xlawrange1 : PySem.W.codeIn K cd_xlawrange "_law_range" = true) (k_xlawrange : PySem.W.keepIn K (.ref f_xlawrange) = true) (a_xlawinner : PySem.W.nsIn K mainGlobals "_law_inner" = some (some (.ref f_xlawinner))) (l_xlawinner : K.lookup f_xlawinner = some ⟨oc_xlawinner, od_xlawinner, .func (PySem.W.fnOf "_law_inner" "_law_inner" (defArgs s__law_inner) (defBody s__law_inner) (defScope s__law_inner) .none kV_xlawinner dc_xlawinner pm_xlawinner an_xlawinner cd_xlawinner ct_xlawinner), sl_xlawinner⟩) (c_xlawinner1 : PySem.W.codeIn K cd_xlawinner "_law_inner" = true) (k_xlawinner : PySem.W.keepIn K (.ref f_xlawinner) = true) (a_xlawheard : PySem.W.nsIn K mainGlobals "_law_heard" = some (some (.ref f_xlawheard))) (l_xlawheard : K.lookup f_xlawheard = some ⟨oc_xlawheard, od_xlawheard, .func (PySem.W.fnOf "_law_heard" "_law_heard" (defArgs s__law_heard) (defBody s__law_heard) (defScope s__law_heard) .none kV_xlawheard dc_xlawheard pm_xlawheard an_xlawheard cd_xlawheard ct_xlawheard), sl_xlawheard⟩) (c_xlawheard1 : PySem.W.codeIn K cd_xlawheard "_law_heard" = true) (k_xlawheard : PySem.W.keepIn K (.ref f_xlawheard) = true) (a_xlawright : PySem.W.nsIn K mainGlobals "_law_right" = some (some (.ref f_xlawright))) (l_xlawright : K.lookup f_xlawright = some ⟨oc_xlawright, od_xlawright, .func (PySem.W.fnOf "_law_right" "_law_right" (defArgs s__law_right) (defBody s__law_right) (defScope s__law_right) .none kV_xlawright dc_xlawright pm_xlawright an_xlawright cd_xlawright ct_xlawright), sl_xlawright⟩) (c_xlawright1 : PySem.W.codeIn K cd_xlawright "_law_right" = true) (k_xlawright : PySem.W.keepIn K (.ref f_xlawright) = true) (a_xlawoddright : PySem.W.nsIn K mainGlobals "_law_odd_right" = some (some (.ref f_xlawoddright))) (l_xlawoddright : K.lookup f_xlawoddright = some ⟨oc_xlawoddright, od_xlawoddright, .func (PySem.W.fnOf "_law_odd_right" "_law_odd_right" (defArgs s__law_odd_right) (defBody s__law_odd_right) (defScope s__law_odd_right) .none kV_xlawoddright dc_xlawoddright pm_xlawoddright an_xlawoddright (.ref c_xlawoddright) ct_xlawoddright), sl_xlawoddright⟩) (c_xlawoddright1 : PySem.W.codeIn K (.ref c_xlawoddright) "_law_odd_right" = true) (k_xlawoddright : PySem.W.keepIn K (.ref f_xlawoddright) = true) (a_xlaw : PySem.W.nsIn K mainGlobals "law" = some (some (.ref f_xlaw))) (l_xlaw : K.lookup f_xlaw = some ⟨oc_xlaw, od_xlaw, .func (PySem.W.fnOf "law" "law" (defArgs s_law) (defBody s_law) (defScope s_law) .none kV_xlaw dc_xlaw pm_xlaw an_xlaw cd_xlaw ct_xlaw), sl_xlaw⟩) (c_xlaw1 : PySem.W.codeIn K cd_xlaw "law" = true) (k_xlaw : PySem.W.keepIn K (.ref f_xlaw) = true) (aC_InvalidNumber : PySem.W.nsIn K mainGlobals "InvalidNumber" = some (some (.ref C_InvalidNumber))) (xL_InvalidNumber : K.lookup C_InvalidNumber = some (excClassObj nm_InvalidNumber q0_InvalidNumber C_InvalidNumber N_InvalidNumber bs_InvalidNumber [.type "ValueError", .type "Exception", .type "BaseException", .type "object"] true sn_InvalidNumber sub_InvalidNumber ab_InvalidNumber col_InvalidNumber dd_InvalidNumber m0_InvalidNumber m1_InvalidNumber m2_InvalidNumber m3_InvalidNumber m5_InvalidNumber "ValueError.__new__")) (sa_InvalidNumber : PySem.W.findIn K (.ref C_InvalidNumber) "__setattr__" = some (some (.builtin "object.__setattr__"))) (ga_InvalidNumber : PySem.W.findIn K (.ref C_InvalidNumber) "__getattribute__" = some (some (.builtin "BaseException.__getattribute__"))) (gg_InvalidNumber : PySem.W.findIn K (.ref C_InvalidNumber) "__getattr__" = some none) (nb_InvalidNumber : PySem.W.findIn K (.ref C_InvalidNumber) "value" = some none) (a1_InvalidNumber : PySem.W.findIn K (.ref C_InvalidNumber) "__init__" = some (some (.ref fI_InvalidNumber))) (t1_InvalidNumber : PySem.W.typeIn K (.ref fI_InvalidNumber) = some (.type "function")) (l1_InvalidNumber : K.lookup fI_InvalidNumber = some ⟨oci_InvalidNumber, odi_InvalidNumber, .func (PySem.W.fnOf "__init__" "InvalidNumber.__init__" (defArgs s_init_InvalidNumber) (defBody s_init_InvalidNumber) (defScope s_init_InvalidNumber) .none kVi_InvalidNumber dci_InvalidNumber pmi_InvalidNumber ani_InvalidNumber cdi_InvalidNumber cti_InvalidNumber), sli_InvalidNumber⟩) (c1_InvalidNumber : PySem.W.codeIn K cdi_InvalidNumber "InvalidNumber.__init__" = true) (k1_InvalidNumber : PySem.W.keepIn K (.ref fI_InvalidNumber) = true) (kC_InvalidNumber : PySem.W.keepIn K (.ref C_InvalidNumber) = true) (eC_InvalidNumber : PySem.W.subIn K (.ref C_InvalidNumber) (.type "BaseException") = some true) (tC_InvalidNumber : PySem.W.typeIn K (.ref C_InvalidNumber) = some (.type "type")) (hC_InvalidNumber : PySem.W.hasDictIn K C_InvalidNumber = true) (hcl_InvalidNumber : PySem.W.findIn K (.ref C_InvalidNumber) "__class__" = some (some (.builtin "object.__class__"))) (hmo_InvalidNumber : PySem.W.mroIn K C_InvalidNumber (.type "object") = some true) (aC_InvalidRange : PySem.W.nsIn K mainGlobals "InvalidRange" = some (some (.ref C_InvalidRange))) (xL_InvalidRange : K.lookup C_InvalidRange = some (excClassObj nm_InvalidRange q0_InvalidRange C_InvalidRange N_InvalidRange bs_InvalidRange [.ref kTimesError, .type "Exception", .type "BaseException", .type "object"] true sn_InvalidRange sub_InvalidRange ab_InvalidRange col_InvalidRange dd_InvalidRange m0_InvalidRange m1_InvalidRange m2_InvalidRange m3_InvalidRange m5_InvalidRange "Exception.__new__")) (sa_InvalidRange : PySem.W.findIn K (.ref C_InvalidRange) "__setattr__" = some (some (.builtin "object.__setattr__"))) (ga_InvalidRange : PySem.W.findIn K (.ref C_InvalidRange) "__getattribute__" = some (some (.builtin "BaseException.__getattribute__"))) (gg_InvalidRange : PySem.W.findIn K (.ref C_InvalidRange) "__getattr__" = some none) (nb_InvalidRange : PySem.W.findIn K (.ref C_InvalidRange) "value" = some none) (a1_InvalidRange : PySem.W.findIn K (.ref C_InvalidRange) "__init__" = some (some (.ref fI_InvalidRange))) (t1_InvalidRange : PySem.W.typeIn K (.ref fI_InvalidRange) = some (.type "function")) (l1_InvalidRange : K.lookup fI_InvalidRange = some ⟨oci_InvalidRange, odi_InvalidRange, .func (PySem.W.fnOf "__init__" "InvalidRange.__init__" (defArgs s_init_InvalidRange) (defBody s_init_InvalidRange) (defScope s_init_InvalidRange) .none kVi_InvalidRange dci_InvalidRange pmi_InvalidRange ani_InvalidRange cdi_InvalidRange cti_InvalidRange), sli_InvalidRange⟩) (c1_InvalidRange : PySem.W.codeIn K cdi_InvalidRange "InvalidRange.__init__" = true) (k1_InvalidRange : PySem.W.keepIn K (.ref fI_InvalidRange) = true) (kC_InvalidRange : PySem.W.keepIn K (.ref C_InvalidRange) = true) (eC_InvalidRange : PySem.W.subIn K (.ref C_InvalidRange) (.type "BaseException") = some true) (tC_InvalidRange : PySem.W.typeIn K (.ref C_InvalidRange) = some (.type "type")) (hC_InvalidRange : PySem.W.hasDictIn K C_InvalidRange = true) (hcl_InvalidRange : PySem.W.findIn K (.ref C_InvalidRange) "__class__" = some (some (.builtin "object.__class__"))) (hmo_InvalidRange : PySem.W.mroIn K C_InvalidRange (.type "object") = some true) (sC_InvalidNumber_InvalidNumber : PySem.W.subIn K (.ref C_InvalidNumber) (.ref C_InvalidNumber) = some true) (sC_InvalidNumber_InvalidRange : PySem.W.subIn K (.ref C_InvalidNumber) (.ref C_InvalidRange) = some false) (sC_InvalidRange_InvalidNumber : PySem.W.subIn K (.ref C_InvalidRange) (.ref C_InvalidNumber) = some false) (sC_InvalidRange_InvalidRange : PySem.W.subIn K (.ref C_InvalidRange) (.ref C_InvalidRange) = some true) (hgs : PySem.W.specialIn K (.builtin "object.__class__") "__get__" = some (some (.builtin "getset_descriptor.__get__"))) (htk : PySem.W.takesIn K (.builtin "object.__class__") = some true) (mTimesError : PySem.W.nsIn K mainGlobals "TimesError" = some (some (.ref kTimesError))) (ki_InvalidRange_TimesError : PySem.W.kitOne K (.ref C_InvalidRange) (.ref kTimesError) = some true) (z_abs : PySem.W.nsIn K mainGlobals "abs" = some none) (z_bool : PySem.W.nsIn K mainGlobals "bool" = some none) (z_enumerate : PySem.W.nsIn K mainGlobals "enumerate" = some none) (z_int : PySem.W.nsIn K mainGlobals "int" = some none) (z_isinstance : PySem.W.nsIn K mainGlobals "isinstance" = some none) (z_len : PySem.W.nsIn K mainGlobals "len" = some none) (z_max : PySem.W.nsIn K mainGlobals "max" = some none) (z_range : PySem.W.nsIn K mainGlobals "range" = some none) (z_repr : PySem.W.nsIn K mainGlobals "repr" = some none) (z_sorted : PySem.W.nsIn K mainGlobals "sorted" = some none) (z_tuple : PySem.W.nsIn K mainGlobals "tuple" = some none)
    (hTxlawoddright : h.get? P_xlawoddright = some (PySem.W.tabObj #[])) (nTxlawoddright : K.lookup P_xlawoddright = none) (hHxlawoddright : PySem.W.codeHdIn K c_xlawoddright P_xlawoddright = true) (Kl : K.all (fun p => !(p.2.cls == .type "list")) = true) : LawV PySem.Challenge.rw_whatiftimes_k04_order_of_lines w K 13 63 mg fa h := by
  have e := hfa.symm.trans (PySem.W.mg_of X G a_xlaw)
  cases e
  refine ⟨[(c_xlawoddright, P_xlawoddright)], Tx.plain [(P_xlawoddright, lamq_law_odd_right)] (cvOf ⟨C_InvalidNumber, C_InvalidRange⟩), m_law, (fun p hp => by
    simp only [List.mem_cons, List.not_mem_nil, or_false] at hp
    rcases hp with rfl
    · exact hTxlawoddright), (fun p hp => by
    simp only [List.mem_cons, List.not_mem_nil, or_false] at hp
    rcases hp with rfl
    · exact nTxlawoddright), (fun p hp => by
    simp only [List.mem_cons, List.not_mem_nil, or_false] at hp
    rcases hp with rfl
    · exact PySem.W.codeHd_of_K X hHxlawoddright), Kl, (fun p hp => by
    simp only [Tx.plain, List.mem_cons, List.not_mem_nil, or_false] at hp
    rcases hp with rfl <;> simp), fun _ => trivial, fun base KB GB TB => ?_, true_⟩

  have oex_InvalidNumber : OexG K C_InvalidNumber := ⟨⟨"ValueError", _, _, _, F.excBase_ValueError, F.store_ValueError, nm_InvalidNumber, q0_InvalidNumber, N_InvalidNumber, bs_InvalidNumber, _, sn_InvalidNumber, sub_InvalidNumber, ab_InvalidNumber, col_InvalidNumber, dd_InvalidNumber, m0_InvalidNumber, m1_InvalidNumber, m2_InvalidNumber, m3_InvalidNumber, m5_InvalidNumber, xL_InvalidNumber, by first | decide +kernel | rfl⟩, sa_InvalidNumber, eC_InvalidNumber, tC_InvalidNumber, kC_InvalidNumber⟩
  have FI_InvalidNumber := fun_mk (st := s_init_InvalidNumber) l1_InvalidNumber c1_InvalidNumber k1_InvalidNumber
  have bI_InvalidNumber := FI_InvalidNumber.binds (ps := ["self", "value"]) fun _ _ _ _ _ _ us hl => match us, hl with | [_, _], _ => rfl
  have oex_InvalidRange : OexG K C_InvalidRange := ⟨⟨"Exception", _, _, _, F.excBase_Exception, F.store_Exception, nm_InvalidRange, q0_InvalidRange, N_InvalidRange, bs_InvalidRange, _, sn_InvalidRange, sub_InvalidRange, ab_InvalidRange, col_InvalidRange, dd_InvalidRange, m0_InvalidRange, m1_InvalidRange, m2_InvalidRange, m3_InvalidRange, m5_InvalidRange, xL_InvalidRange, by first | decide +kernel | rfl⟩, sa_InvalidRange, eC_InvalidRange, tC_InvalidRange, kC_InvalidRange⟩
  have FI_InvalidRange := fun_mk (st := s_init_InvalidRange) l1_InvalidRange c1_InvalidRange k1_InvalidRange
  have bI_InvalidRange := FI_InvalidRange.binds (ps := ["self", "value"]) fun _ _ _ _ _ _ us hl => match us, hl with | [_, _], _ => rfl
  have F_xiswhole := fun_mk (st := s_is_whole) l_xiswhole c_xiswhole1 k_xiswhole
  have b_xiswhole := F_xiswhole.binds (ps := ["value"]) fun _ _ _ _ _ _ us hl => match us, hl with | [_], _ => rfl
  have F_xiswholepair := fun_mk (st := s_is_whole_pair) l_xiswholepair c_xiswholepair1 k_xiswholepair
  have b_xiswholepair := F_xiswholepair.binds (ps := ["value"]) fun _ _ _ _ _ _ us hl => match us, hl with | [_], _ => rfl
  have F_xsignof := fun_mk (st := s_sign_of) l_xsignof c_xsignof1 k_xsignof
  have b_xsignof := F_xsignof.binds (ps := ["number"]) fun _ _ _ _ _ _ us hl => match us, hl with | [_], _ => rfl
  have F_xcommondivisor := fun_mk (st := s_common_divisor) l_xcommondivisor c_xcommondivisor1 k_xcommondivisor
  have b_xcommondivisor := F_xcommondivisor.binds (ps := ["one", "other"]) fun _ _ _ _ _ _ us hl => match us, hl with | [_, _], _ => rfl
  have F_xisfraction := fun_mk (st := s_is_fraction) l_xisfraction c_xisfraction1 k_xisfraction
  have b_xisfraction := F_xisfraction.binds (ps := ["value"]) fun _ _ _ _ _ _ us hl => match us, hl with | [_], _ => rfl
  have F_xrequirefraction := fun_mk (st := s_require_fraction) l_xrequirefraction c_xrequirefraction1 k_xrequirefraction
  have b_xrequirefraction := F_xrequirefraction.binds (ps := ["value"]) fun _ _ _ _ _ _ us hl => match us, hl with | [_], _ => rfl
  have F_xfraction := fun_mk (st := s_fraction) l_xfraction c_xfraction1 k_xfraction
  have b_xfraction := F_xfraction.binds (ps := ["number", "divisor"]) fun _ _ _ _ _ _ us hl => match us, hl with | [_, _], _ => rfl
  have F_xorderof := fun_mk (st := s_order_of) l_xorderof c_xorderof1 k_xorderof
  have b_xorderof := F_xorderof.binds (ps := ["one", "other"]) fun _ _ _ _ _ _ us hl => match us, hl with | [_, _], _ => rfl
  have F_xcompared := fun_mk (st := s_compared) l_xcompared c_xcompared1 k_xcompared
  have b_xcompared := F_xcompared.binds (ps := ["one", "other"]) fun _ _ _ _ _ _ us hl => match us, hl with | [_, _], _ => rfl
  have F_xisline := fun_mk (st := s_is_line) l_xisline c_xisline1 k_xisline
  have b_xisline := F_xisline.binds (ps := ["value"]) fun _ _ _ _ _ _ us hl => match us, hl with | [_], _ => rfl
  have F_xrequireline := fun_mk (st := s_require_line) l_xrequireline c_xrequireline1 k_xrequireline
  have b_xrequireline := F_xrequireline.binds (ps := ["value"]) fun _ _ _ _ _ _ us hl => match us, hl with | [_], _ => rfl
  have F_xvalueat := fun_mk (st := s_value_at) l_xvalueat c_xvalueat1 k_xvalueat
  have b_xvalueat := F_xvalueat.binds (ps := ["line", "x"]) fun _ _ _ _ _ _ us hl => match us, hl with | [_, _], _ => rfl
  have F_xsignat := fun_mk (st := s_sign_at) l_xsignat c_xsignat1 k_xsignat
  have b_xsignat := F_xsignat.binds (ps := ["line", "x"]) fun _ _ _ _ _ _ us hl => match us, hl with | [_, _], _ => rfl
  have F_xsigntowards := fun_mk (st := s_sign_towards) l_xsigntowards c_xsigntowards1 k_xsigntowards
  have b_xsigntowards := F_xsigntowards.binds (ps := ["line", "high"]) fun _ _ _ _ _ _ us hl => match us, hl with | [_, _], _ => rfl
  have F_xorderwithin := fun_mk (st := s_order_within) l_xorderwithin c_xorderwithin1 k_xorderwithin
  have b_xorderwithin := F_xorderwithin.binds (ps := ["one", "other", "low", "high"]) fun _ _ _ _ _ _ us hl => match us, hl with | [_, _, _, _], _ => rfl
  have F_xlawnumbers := fun_mk (st := s__law_numbers) l_xlawnumbers c_xlawnumbers1 k_xlawnumbers
  have b_xlawnumbers := F_xlawnumbers.binds (ps := ["_law_cell", "_law_salt", "_law_sizes"]) fun _ _ _ _ _ _ us hl => match us, hl with | [_, _, _], _ => rfl
  have F_xlawdraw := fun_mk (st := s__law_draw) l_xlawdraw c_xlawdraw1 k_xlawdraw
  have b_xlawdraw := F_xlawdraw.binds (ps := ["_law_state", "_law_many"]) fun _ _ _ _ _ _ us hl => match us, hl with | [_, _], _ => rfl
  have F_xlawfraction := fun_mk (st := s__law_fraction) l_xlawfraction c_xlawfraction1 k_xlawfraction
  have b_xlawfraction := F_xlawfraction.binds (ps := ["_law_number", "_law_divisor"]) fun _ _ _ _ _ _ us hl => match us, hl with | [_, _], _ => rfl
  have F_xlawsmall := fun_mk (st := s__law_small) l_xlawsmall c_xlawsmall1 k_xlawsmall
  have b_xlawsmall := F_xlawsmall.binds (ps := ["_law_state"]) fun _ _ _ _ _ _ us hl => match us, hl with | [_], _ => rfl
  have F_xlawsign := fun_mk (st := s__law_sign) l_xlawsign c_xlawsign1 k_xlawsign
  have b_xlawsign := F_xlawsign.binds (ps := ["_law_line", "_law_x"]) fun _ _ _ _ _ _ us hl => match us, hl with | [_, _], _ => rfl
  have F_xlawdue := fun_mk (st := s__law_due) l_xlawdue c_xlawdue1 k_xlawdue
  have b_xlawdue := F_xlawdue.binds (ps := ["_law_one", "_law_other", "_law_low", "_law_high"]) fun _ _ _ _ _ _ us hl => match us, hl with | [_, _, _, _], _ => rfl
  have F_xlawrange := fun_mk (st := s__law_range) l_xlawrange c_xlawrange1 k_xlawrange
  have b_xlawrange := F_xlawrange.binds (ps := ["_law_state"]) fun _ _ _ _ _ _ us hl => match us, hl with | [_], _ => rfl
  have F_xlawinner := fun_mk (st := s__law_inner) l_xlawinner c_xlawinner1 k_xlawinner
  have b_xlawinner := F_xlawinner.binds (ps := ["_law_low", "_law_high"]) fun _ _ _ _ _ _ us hl => match us, hl with | [_, _], _ => rfl
  have F_xlawheard := fun_mk (st := s__law_heard) l_xlawheard c_xlawheard1 k_xlawheard
  have b_xlawheard := F_xlawheard.binds (ps := ["_law_call"]) fun _ _ _ _ _ _ us hl => match us, hl with | [_], _ => rfl
  have F_xlawright := fun_mk (st := s__law_right) l_xlawright c_xlawright1 k_xlawright
  have b_xlawright := F_xlawright.binds (ps := ["_law_state"]) fun _ _ _ _ _ _ us hl => match us, hl with | [_], _ => rfl
  have F_xlawoddright := fun_mk (st := s__law_odd_right) l_xlawoddright c_xlawoddright1 k_xlawoddright
  have b_xlawoddright := F_xlawoddright.binds (ps := []) fun _ _ _ _ _ _ us hl => match us, hl with | [], _ => rfl
  have F_xlaw := fun_mk (st := s_law) l_xlaw c_xlaw1 k_xlaw
  have b_xlaw := F_xlaw.binds (ps := ["_law_script"]) fun _ _ _ _ _ _ us hl => match us, hl with | [_], _ => rfl
  let G9 : Gx PySem.Challenge.rw_whatiftimes_k04_order_of_lines.prog w K mg base :=
    { c := ⟨C_InvalidNumber, C_InvalidRange⟩,
      e_InvalidNumber := ⟨oex_InvalidNumber, PySem.W.mg_of X G aC_InvalidNumber, fI_InvalidNumber, _, a1_InvalidNumber, t1_InvalidNumber, ok_init_InvalidNumber FI_InvalidNumber oex_InvalidNumber nb_InvalidNumber, bI_InvalidNumber⟩, xf_InvalidNumber := ⟨ga_InvalidNumber, gg_InvalidNumber, eC_InvalidNumber, hC_InvalidNumber⟩, no_InvalidNumber := nb_InvalidNumber, xc_InvalidNumber := ⟨ga_InvalidNumber, gg_InvalidNumber, eC_InvalidNumber, hC_InvalidNumber, hcl_InvalidNumber, hgs, htk, hmo_InvalidNumber⟩,
      te_InvalidNumber_InvalidNumber := PySem.W.exm_ref eC_InvalidNumber hC_InvalidNumber tC_InvalidNumber sC_InvalidNumber_InvalidNumber,
      te_InvalidNumber_InvalidRange := PySem.W.exm_ref eC_InvalidRange hC_InvalidRange tC_InvalidRange sC_InvalidNumber_InvalidRange,
      e_InvalidRange := ⟨oex_InvalidRange, PySem.W.mg_of X G aC_InvalidRange, fI_InvalidRange, _, a1_InvalidRange, t1_InvalidRange, ok_init_InvalidRange FI_InvalidRange oex_InvalidRange nb_InvalidRange, bI_InvalidRange⟩, xf_InvalidRange := ⟨ga_InvalidRange, gg_InvalidRange, eC_InvalidRange, hC_InvalidRange⟩, no_InvalidRange := nb_InvalidRange, xc_InvalidRange := ⟨ga_InvalidRange, gg_InvalidRange, eC_InvalidRange, hC_InvalidRange, hcl_InvalidRange, hgs, htk, hmo_InvalidRange⟩,
      te_InvalidRange_InvalidNumber := PySem.W.exm_ref eC_InvalidNumber hC_InvalidNumber tC_InvalidNumber sC_InvalidRange_InvalidNumber,
      te_InvalidRange_InvalidRange := PySem.W.exm_ref eC_InvalidRange hC_InvalidRange tC_InvalidRange sC_InvalidRange_InvalidRange,
      kTimesError := kTimesError, m_TimesError := PySem.W.mg_of X G mTimesError,
      ki_InvalidRange_TimesError := ki_InvalidRange_TimesError,
      cO_law_odd_right := c_xlawoddright, pO_law_odd_right := P_xlawoddright, FC_law_odd_right := ⟨⟨_, _, _, _, _, _, _, _, rfl, l_xlawoddright, c_xlawoddright1⟩, k_xlawoddright⟩, TB_law_odd_right := TB _ List.mem_cons_self,
      f_is_whole := _, d_is_whole := _, F_is_whole := F_xiswhole, g_is_whole := PySem.W.mg_of X G a_xiswhole, n_is_whole := b_xiswhole, k_is_whole := k_xiswhole,
      f_is_whole_pair := _, d_is_whole_pair := _, F_is_whole_pair := F_xiswholepair, g_is_whole_pair := PySem.W.mg_of X G a_xiswholepair, n_is_whole_pair := b_xiswholepair, k_is_whole_pair := k_xiswholepair,
      f_sign_of := _, d_sign_of := _, F_sign_of := F_xsignof, g_sign_of := PySem.W.mg_of X G a_xsignof, n_sign_of := b_xsignof, k_sign_of := k_xsignof,
      f_common_divisor := _, d_common_divisor := _, F_common_divisor := F_xcommondivisor, g_common_divisor := PySem.W.mg_of X G a_xcommondivisor, n_common_divisor := b_xcommondivisor, k_common_divisor := k_xcommondivisor,
      f_is_fraction := _, d_is_fraction := _, F_is_fraction := F_xisfraction, g_is_fraction := PySem.W.mg_of X G a_xisfraction, n_is_fraction := b_xisfraction, k_is_fraction := k_xisfraction,
      f_require_fraction := _, d_require_fraction := _, F_require_fraction := F_xrequirefraction, g_require_fraction := PySem.W.mg_of X G a_xrequirefraction, n_require_fraction := b_xrequirefraction, k_require_fraction := k_xrequirefraction,
      f_fraction := _, d_fraction := _, F_fraction := F_xfraction, g_fraction := PySem.W.mg_of X G a_xfraction, n_fraction := b_xfraction, k_fraction := k_xfraction,
      f_order_of := _, d_order_of := _, F_order_of := F_xorderof, g_order_of := PySem.W.mg_of X G a_xorderof, n_order_of := b_xorderof, k_order_of := k_xorderof,
      f_compared := _, d_compared := _, F_compared := F_xcompared, g_compared := PySem.W.mg_of X G a_xcompared, n_compared := b_xcompared, k_compared := k_xcompared,
      f_is_line := _, d_is_line := _, F_is_line := F_xisline, g_is_line := PySem.W.mg_of X G a_xisline, n_is_line := b_xisline, k_is_line := k_xisline,
      f_require_line := _, d_require_line := _, F_require_line := F_xrequireline, g_require_line := PySem.W.mg_of X G a_xrequireline, n_require_line := b_xrequireline, k_require_line := k_xrequireline,
      f_value_at := _, d_value_at := _, F_value_at := F_xvalueat, g_value_at := PySem.W.mg_of X G a_xvalueat, n_value_at := b_xvalueat, k_value_at := k_xvalueat,
      f_sign_at := _, d_sign_at := _, F_sign_at := F_xsignat, g_sign_at := PySem.W.mg_of X G a_xsignat, n_sign_at := b_xsignat, k_sign_at := k_xsignat,
      f_sign_towards := _, d_sign_towards := _, F_sign_towards := F_xsigntowards, g_sign_towards := PySem.W.mg_of X G a_xsigntowards, n_sign_towards := b_xsigntowards, k_sign_towards := k_xsigntowards,
      f_order_within := _, d_order_within := _, F_order_within := F_xorderwithin, g_order_within := PySem.W.mg_of X G a_xorderwithin, n_order_within := b_xorderwithin, k_order_within := k_xorderwithin,
      f__law_numbers := _, d__law_numbers := _, F__law_numbers := F_xlawnumbers, g__law_numbers := PySem.W.mg_of X G a_xlawnumbers, n__law_numbers := b_xlawnumbers, k__law_numbers := k_xlawnumbers,
      f__law_draw := _, d__law_draw := _, F__law_draw := F_xlawdraw, g__law_draw := PySem.W.mg_of X G a_xlawdraw, n__law_draw := b_xlawdraw, k__law_draw := k_xlawdraw,
      f__law_fraction := _, d__law_fraction := _, F__law_fraction := F_xlawfraction, g__law_fraction := PySem.W.mg_of X G a_xlawfraction, n__law_fraction := b_xlawfraction, k__law_fraction := k_xlawfraction,
      f__law_small := _, d__law_small := _, F__law_small := F_xlawsmall, g__law_small := PySem.W.mg_of X G a_xlawsmall, n__law_small := b_xlawsmall, k__law_small := k_xlawsmall,
      f__law_sign := _, d__law_sign := _, F__law_sign := F_xlawsign, g__law_sign := PySem.W.mg_of X G a_xlawsign, n__law_sign := b_xlawsign, k__law_sign := k_xlawsign,
      f__law_due := _, d__law_due := _, F__law_due := F_xlawdue, g__law_due := PySem.W.mg_of X G a_xlawdue, n__law_due := b_xlawdue, k__law_due := k_xlawdue,
      f__law_range := _, d__law_range := _, F__law_range := F_xlawrange, g__law_range := PySem.W.mg_of X G a_xlawrange, n__law_range := b_xlawrange, k__law_range := k_xlawrange,
      f__law_inner := _, d__law_inner := _, F__law_inner := F_xlawinner, g__law_inner := PySem.W.mg_of X G a_xlawinner, n__law_inner := b_xlawinner, k__law_inner := k_xlawinner,
      f__law_heard := _, d__law_heard := _, F__law_heard := F_xlawheard, g__law_heard := PySem.W.mg_of X G a_xlawheard, n__law_heard := b_xlawheard, k__law_heard := k_xlawheard,
      f__law_right := _, d__law_right := _, F__law_right := F_xlawright, g__law_right := PySem.W.mg_of X G a_xlawright, n__law_right := b_xlawright, k__law_right := k_xlawright,
      f__law_odd_right := _, d__law_odd_right := _, F__law_odd_right := F_xlawoddright, g__law_odd_right := PySem.W.mg_of X G a_xlawoddright, n__law_odd_right := b_xlawoddright, k__law_odd_right := k_xlawoddright,
      f_law := _, d_law := _, F_law := F_xlaw, g_law := PySem.W.mg_of X G a_xlaw, n_law := b_xlaw, k_law := k_xlaw,
      b_abs := PySem.W.mg_none_of X G z_abs, b_bool := PySem.W.mg_none_of X G z_bool, b_enumerate := PySem.W.mg_none_of X G z_enumerate, b_int := PySem.W.mg_none_of X G z_int, b_isinstance := PySem.W.mg_none_of X G z_isinstance, b_len := PySem.W.mg_none_of X G z_len, b_max := PySem.W.mg_none_of X G z_max, b_range := PySem.W.mg_none_of X G z_range, b_repr := PySem.W.mg_none_of X G z_repr, b_sorted := PySem.W.mg_none_of X G z_sorted, b_tuple := PySem.W.mg_none_of X G z_tuple }
  exact ok_law G9
end K04
end
section
namespace K04
open PySem L2 VL

/-! ### numbers -/
theorem fmod_gcd (a b : Int) : Int.gcd b (a.fmod b) = Int.gcd a b := by
  rw [Int.fmod_def, Int.gcd_comm b, Int.gcd_sub_mul_left_left]
theorem fmod_small (a b : Int) (hb : b ≠ 0) : (a.fmod b).natAbs < b.natAbs := by
  rw [Int.fmod_eq_emod]
  have h1 := Int.emod_nonneg a hb
  have h2 := Int.emod_lt a hb
  split
  · omega
  · rename_i h
    have hneg : b < 0 := by
      rcases Int.lt_or_gt_of_ne hb with q | q
      · exact q
      · exact absurd (.inl (Int.le_of_lt q)) h
    have hne : a % b ≠ 0 := fun z => h (.inr (Int.dvd_of_emod_eq_zero z))
    omega
/-- the fraction of two numbers -/
def frG (n d : Int) : Int := if d < 0 then -(Int.gcd n d : Int) else (Int.gcd n d : Int)
def fr (n d : Int) : Int × Int := (n.fdiv (frG n d), d.fdiv (frG n d))
theorem gcd_pos {n d : Int} (hd : d ≠ 0) : 0 < (Int.gcd n d : Int) := by
  have : Int.gcd n d ≠ 0 := fun z => hd (Int.gcd_eq_zero_iff.mp z).2
  omega
theorem frG_ne {n d : Int} (hd : d ≠ 0) : frG n d ≠ 0 := by
  have := gcd_pos (n := n) hd
  unfold frG
  split <;> omega
theorem frG_dvd_left (n d : Int) : frG n d ∣ n := by
  unfold frG
  split
  · exact Int.neg_dvd.mpr (Int.gcd_dvd_left ..)
  · exact Int.gcd_dvd_left ..
theorem frG_dvd_right (n d : Int) : frG n d ∣ d := by
  unfold frG
  split
  · exact Int.neg_dvd.mpr (Int.gcd_dvd_right ..)
  · exact Int.gcd_dvd_right ..
theorem fr_mul_left (n d : Int) : frG n d * (fr n d).1 = n := Int.mul_fdiv_cancel' (frG_dvd_left n d)
theorem fr_mul_right (n d : Int) : frG n d * (fr n d).2 = d := Int.mul_fdiv_cancel' (frG_dvd_right n d)
theorem fr_pos {n d : Int} (hd : d ≠ 0) : 0 < (fr n d).2 := by
  have h := fr_mul_right n d
  have g := gcd_pos (n := n) hd
  by_cases hn : d < 0
  · have e : frG n d = -(Int.gcd n d : Int) := by simp [frG, hn]
    rw [e] at h
    refine Int.not_le.mp fun z => ?_
    have : 0 ≤ -(Int.gcd n d : Int) * (fr n d).2 := Int.mul_nonneg_of_nonpos_of_nonpos (by omega) z
    omega
  · have e : frG n d = (Int.gcd n d : Int) := by simp [frG, hn]
    rw [e] at h
    refine Int.not_le.mp fun z => ?_
    have : (Int.gcd n d : Int) * (fr n d).2 ≤ 0 := Int.mul_nonpos_of_nonneg_of_nonpos (by omega) z
    omega
theorem fr_one {n d : Int} (hd : d ≠ 0) : Int.gcd (fr n d).1 (fr n d).2 = 1 := by
  have h1 := fr_mul_left n d
  have h2 := fr_mul_right n d
  have e : Int.gcd (frG n d * (fr n d).1) (frG n d * (fr n d).2) = (frG n d).natAbs * Int.gcd (fr n d).1 (fr n d).2 := Int.gcd_mul_left ..
  rw [h1, h2] at e
  have g : (frG n d).natAbs = Int.gcd n d := by unfold frG; split <;> omega
  rw [g] at e
  have p := gcd_pos (n := n) hd
  have p2 : 0 < Int.gcd n d := by omega
  exact (Nat.eq_of_mul_eq_mul_left p2 (by rw [Nat.mul_one]; exact e)).symm
theorem fr_val (n d : Int) : (fr n d).1 * d = n * (fr n d).2 := by
  have h1 := fr_mul_left n d
  have h2 := fr_mul_right n d
  calc (fr n d).1 * d = (fr n d).1 * (frG n d * (fr n d).2) := by rw [h2]
    _ = (frG n d * (fr n d).1) * (fr n d).2 := by rw [← Int.mul_assoc, Int.mul_comm (fr n d).1]
    _ = n * (fr n d).2 := by rw [h1]
/-- two reduced fractions of one value are one -/
theorem red_unique {a b c d : Int} (hb : 0 < b) (hd : 0 < d) (h1 : Int.gcd a b = 1) (h2 : Int.gcd c d = 1) (h : a * d = c * b) : a = c ∧ b = d := by
  have k1 : b ∣ d := by
    have z : b ∣ a * d := ⟨c, by rw [h, Int.mul_comm]⟩
    have q := Int.dvd_gcd_mul_iff_dvd_mul.mpr z
    rw [Int.gcd_comm, h1] at q
    simpa using q
  have k2 : d ∣ b := by
    have z : d ∣ c * b := ⟨a, by rw [← h, Int.mul_comm]⟩
    have q := Int.dvd_gcd_mul_iff_dvd_mul.mpr z
    rw [Int.gcd_comm, h2] at q
    simpa using q
  have e : b = d := Int.dvd_antisymm (Int.le_of_lt hb) (Int.le_of_lt hd) k1 k2
  subst e
  exact ⟨Int.eq_of_mul_eq_mul_right (by omega) h, rfl⟩
theorem fr_eq {n d m e : Int} (hd : d ≠ 0) (he : e ≠ 0) (h : n * e = m * d) : fr n d = fr m e := by
  have v1 := fr_val n d
  have v2 := fr_val m e
  have p1 := fr_pos (n := n) hd
  have p2 := fr_pos (n := m) he
  have key : (fr n d).1 * (fr m e).2 = (fr m e).1 * (fr n d).2 := by
    have z : d * e ≠ 0 := Int.mul_ne_zero hd he
    refine Int.eq_of_mul_eq_mul_right z ?_
    calc (fr n d).1 * (fr m e).2 * (d * e) = ((fr n d).1 * d) * ((fr m e).2 * e) := by ac_rfl
      _ = (n * (fr n d).2) * ((fr m e).2 * e) := by rw [v1]
      _ = (n * e) * ((fr n d).2 * (fr m e).2) := by ac_rfl
      _ = (m * d) * ((fr n d).2 * (fr m e).2) := by rw [h]
      _ = (m * (fr m e).2) * ((fr n d).2 * d) := by ac_rfl
      _ = ((fr m e).1 * e) * ((fr n d).2 * d) := by rw [v2]
      _ = (fr m e).1 * (fr n d).2 * (d * e) := by ac_rfl
  obtain ⟨a, b⟩ := red_unique p1 p2 (fr_one hd) (fr_one he) key
  exact Prod.ext a b
theorem fr_self {n d : Int} (hd : 0 < d) (hg : Int.gcd n d = 1) : fr n d = (n, d) := by
  have e : frG n d = 1 := by
    unfold frG
    rw [if_neg (by omega), hg]
    rfl
  simp [fr, e]
end K04
end
section
namespace K04
open PySem L2 VL

/-! ### the program's defs on known values -/
@[simp] theorem isi_int_int {i : Int} {h : Hv} : mIsi [.int i, .ty "int"] h = .val (.bl true) h := by
  simp [mIsi, tyN, show kitB "int" "int" = some true from by decide +kernel]
@[simp] theorem isi_int_bool {i : Int} {h : Hv} : mIsi [.int i, .ty "bool"] h = .val (.bl false) h := by
  simp [mIsi, tyN, show kitB "int" "bool" = some false from by decide +kernel]
theorem isi_tup {p : Nat} {xs : List W} {h : Hv} (e : h[p]? = some (.tup xs)) : mIsi [.ref p, .ty "tuple"] h = .val (.bl true) h := by
  simp [mIsi, tyN, e, show kitB "tuple" "tuple" = some true from by decide +kernel]
theorem len_tup {p : Nat} {xs : List W} {h : Hv} (e : h[p]? = some (.tup xs)) : mLen [.ref p] h = .val (.int xs.length) h := by
  simp [mLen, e]
@[simp] theorem whole_int {i : Int} {h : Hv} : m_is_whole [.int i] h = .val (.bl true) h := by
  simp [m_is_whole, mDef_eq, startW]
/-- at p a pair of ints -/
def Pr (h : Hv) (p : Nat) (a b : Int) : Prop := h[p]? = some (.tup [.int a, .int b])
theorem Pr.old {h : Hv} {p : Nat} {a b : Int} (e : Pr h p a b) (t : Hv) : Pr (h ++ t) p a b := get_old e
theorem Pr.new {h : Hv} {a b : Int} : Pr (h ++ [.tup [.int a, .int b]]) h.length a b := get_last
theorem Pr.ix0 {h : Hv} {p : Nat} {a b : Int} (e : Pr h p a b) : mIx (.ref p) (.int 0) h = .val (.int a) h := mIx_tup e atI0
theorem Pr.ix1 {h : Hv} {p : Nat} {a b : Int} (e : Pr h p a b) : mIx (.ref p) (.int 1) h = .val (.int b) h := mIx_tup e atI1
theorem pair_eq {h : Hv} {p : Nat} {a b : Int} (e : Pr h p a b) : m_is_whole_pair [.ref p] h = .val (.bl true) h := by
  have e1 := isi_tup e
  have e2 := len_tup e
  simp [m_is_whole_pair, mDef_eq, startW, e1, e2, e.ix0, e.ix1]
theorem cd_loop : ∀ (n : Nat) (a b : Int) (h : Hv), b.natAbs < n →
    ∃ x : Int, x.natAbs = Int.gcd a b ∧ whileM (mT (m2 (mEq true) (mVar 1) (mC (.int 0)))) (mPar 0 1 (mCons (mVar 1) (mCons (m2 mMod (mVar 0) (mVar 1)) mNil))) n [some (.int a), some (.int b)] h = .nx [some (.int x), some (.int 0)] h
  | 0, a, b, h, hn => by omega
  | n + 1, a, b, h, hn => by
    unfold whileM
    by_cases hb : b = 0
    · subst hb
      exact ⟨a, by simp, by simp⟩
    · obtain ⟨x, h1, h2⟩ := cd_loop n b (a.fmod b) h (by have := fmod_small a b hb; omega)
      refine ⟨x, by rw [h1, fmod_gcd], ?_⟩
      simp [hb, mPar, mMod_int hb]
      exact h2
theorem cd_eq (a b : Int) (h : Hv) : m_common_divisor [.int a, .int b] h = .val (.int (Int.gcd a b : Int)) h := by
  obtain ⟨x, h1, h2⟩ := cd_loop (b.natAbs + 1) a b h (Nat.lt_succ_self _)
  simp only [m_common_divisor, mDef_eq, startW, mSeq_eq, mWhile, fuel_common_divisor, List.map, List.length, List.replicate, List.append_nil, List.getElem?_cons_succ, List.getElem?_cons_zero, Nat.sub_self]
  rw [h2]
  simp [h1]
theorem isf_eq {h : Hv} {p : Nat} {a b : Int} (e : Pr h p a b) : m_is_fraction [.ref p] h = .val (.bl (decide (1 ≤ b) && decide (Int.gcd a b = 1))) h := by
  have e1 := pair_eq e
  by_cases hb : 1 ≤ b
  · simp [m_is_fraction, mDef_eq, startW, e1, e.ix0, e.ix1, hb, cd_eq]
    omega
  · simp [m_is_fraction, mDef_eq, startW, e1, e.ix1, hb]
theorem req_eq {h : Hv} {p : Nat} {a b : Int} (e : Pr h p a b) (hb : 1 ≤ b) (hg : Int.gcd a b = 1) : m_require_fraction [.ref p] h = .val .non h := by
  simp [m_require_fraction, mDef_eq, startW, isf_eq e, hb, hg]
theorem reql_eq {h : Hv} {p : Nat} {a b : Int} (e : Pr h p a b) : m_require_line [.ref p] h = .val .non h := by
  have e1 : m_is_line [.ref p] h = .val (.bl true) h := by simp [m_is_line, mDef_eq, startW, pair_eq e]
  simp [m_require_line, mDef_eq, startW, e1]
theorem isl_eq {h : Hv} {p : Nat} {a b : Int} (e : Pr h p a b) : m_is_line [.ref p] h = .val (.bl true) h := by
  simp [m_is_line, mDef_eq, startW, pair_eq e]
/-- a number of so many bits at most -/
def Sm (i : Int) : Prop := i.natAbs < 2 ^ 1000
theorem log_le {a b : Nat} (h : a < 2 ^ b) (hb : 0 < b) : a.log2 < b := PySem.Flt.log2_lt_of hb h
theorem Sm.log {i : Int} (h : Sm i) : i.natAbs.log2 < 1000 := log_le h (by decide)
theorem gcd_sm {n d : Int} (hd : d ≠ 0) (h : Sm d) : (Int.gcd n d) < 2 ^ 1000 := by
  have z : Int.gcd n d ∣ d.natAbs := Int.gcd_dvd_natAbs_right ..
  have y : Int.gcd n d ≤ d.natAbs := Nat.le_of_dvd (by omega) z
  exact Nat.lt_of_le_of_lt y h
theorem fraction_eq {h : Hv} {n d : Int} (hd : d ≠ 0) (hs : Sm d) : m_fraction [.int n, .int d] h = .val (.ref h.length) (h ++ [.tup [.int (fr n d).1, .int (fr n d).2]]) := by
  have g1 := gcd_sm (n := n) hd hs
  have g0 := gcd_pos (n := n) hd
  have l1 : (Int.gcd n d).log2 < 9000 := Nat.lt_trans (log_le g1 (by decide)) (by decide)
  by_cases hn : d < 0
  · have e : frG n d = -(Int.gcd n d : Int) := by simp [frG, hn]
    have ne : -(Int.gcd n d : Int) ≠ 0 := by omega
    have l2 : (-(Int.gcd n d : Int)).natAbs.log2 < 9000 := by simpa using l1
    simp [m_fraction, mDef_eq, startW, hd, hn, cd_eq, mDiv_int ne l2, fr, e]
  · have e : frG n d = (Int.gcd n d : Int) := by simp [frG, hn]
    have ne : (Int.gcd n d : Int) ≠ 0 := by omega
    have l2 : ((Int.gcd n d : Int)).natAbs.log2 < 9000 := by simpa using l1
    simp [m_fraction, mDef_eq, startW, hd, hn, cd_eq, mDiv_int ne l2, fr, e]
end K04
end
section
namespace K04
open PySem L2 VL

theorem mul_sm {i j : Int} {h : Hv} (hi : Sm i) (hj : Sm j) : mMul (.int i) (.int j) h = .val (.int (i * j)) h := mMul_int (by have := hi.log; have := hj.log; omega)
theorem value_eq {h : Hv} {p q : Nat} {a b n d : Int} (e1 : Pr h p a b) (e2 : Pr h q n d) (hd : 1 ≤ d) (hg : Int.gcd n d = 1) (sa : Sm a) (sb : Sm b) (sn : Sm n) (sd : Sm d) :
    m_value_at [.ref p, .ref q] h = .val (.ref h.length) (h ++ [.tup [.int (fr (a * n + b * d) d).1, .int (fr (a * n + b * d) d).2]]) := by
  simp [m_value_at, mDef_eq, startW, reql_eq e1, req_eq e2 hd hg, e1.ix0, e1.ix1, e2.ix0, e2.ix1, mul_sm sa sn, mul_sm sb sd, fraction_eq (n := a * n + b * d) (show d ≠ 0 by omega) sd]
/-! ### the law's own fraction -/
theorem lf_loop (n d : W) : ∀ (k : Nat) (o t : Int) (h : Hv), 0 ≤ o → 0 ≤ t → o.natAbs < k →
    whileM (mT (m2 mGt (mVar 2) (mC (.int 0)))) (mPar 2 3 (mCons (m2 mMod (mVar 3) (mVar 2)) (mCons (mVar 2) mNil))) k [some n, some d, some (.int o), some (.int t)] h = .nx [some n, some d, some (.int 0), some (.int (Int.gcd o t : Int))] h
  | 0, o, t, h, h1, h2, hk => by omega
  | k + 1, o, t, h, h1, h2, hk => by
    unfold whileM
    by_cases ho : o = 0
    · subst ho
      have e : (t.natAbs : Int) = t := by omega
      simp [e]
    · have p : 0 < o := by omega
      have s := fmod_small t o ho
      have nn : 0 ≤ t.fmod o := Int.fmod_nonneg_of_pos t p
      have ih := lf_loop n d k (t.fmod o) o h nn h1 (by omega)
      have g : Int.gcd (t.fmod o) o = Int.gcd o t := by rw [Int.gcd_comm, fmod_gcd, Int.gcd_comm]
      rw [g] at ih
      simp [p, mPar, mMod_int ho]
      exact ih
theorem lfr_eq {h : Hv} {n d : Int} (hd : 0 < d) (hs : Sm d) : m__law_fraction [.int n, .int d] h = .val (.ref h.length) (h ++ [.tup [.int (fr n d).1, .int (fr n d).2]]) := by
  have hd0 : d ≠ 0 := by omega
  have g1 := gcd_sm (n := n) hd0 hs
  have g0 := gcd_pos (n := n) hd0
  have l1 : (Int.gcd n d).log2 < 9000 := Nat.lt_trans (log_le g1 (by decide)) (by decide)
  have e : frG n d = (Int.gcd n d : Int) := by simp [frG, show ¬ d < 0 by omega]
  have ne : (Int.gcd n d : Int) ≠ 0 := by omega
  have l2 : ((Int.gcd n d : Int)).natAbs.log2 < 9000 := by simpa using l1
  have ab : max n (-n) = (n.natAbs : Int) := by omega
  have lp := lf_loop (.int n) (.int d) (n.natAbs + 1) (n.natAbs : Int) d h (by omega) (by omega) (by omega)
  have gg : Int.gcd (n.natAbs : Int) d = Int.gcd n d := by simp [Int.gcd]
  rw [gg] at lp
  simp only [m__law_fraction, mDef_eq, startW, mSeq_eq, List.map, List.length, List.replicate, List.cons_append, List.nil_append, Nat.reduceSub, Nat.reduceAdd]
  have st : (mPar 2 3 (mCons (mB mMax (mCons (mVar 0) (mCons (m1 mNeg (mVar 0)) mNil))) (mCons (mVar 1) mNil))) [some (.int n), some (.int d), none, none] h = .nx [some (.int n), some (.int d), some (.int (n.natAbs : Int)), some (.int d)] h := by
    simp [mPar, ab]
  rw [st]
  simp only [thenS_nx, mSeq_eq, mWhile, fuel__law_fraction, List.getElem?_cons_succ, List.getElem?_cons_zero, Int.natAbs_natCast]
  rw [lp]
  simp [mDiv_int ne l2, fr, e]
end K04
end
section
namespace K04
open PySem L2 VL

/-! ### loops over a range -/
theorem for_rng {n : Nat} {lo : Int} {s : Nat} {b : MS} (I : Nat → Ws → Hv → Prop) (step : ∀ i r h, i < n → I i r h → ∃ r' h', b (r.set s (some (.int (lo + i)))) h = .nx r' h' ∧ I (i + 1) r' h') :
    ∀ (k i : Nat) (r : Ws) (h : Hv), i + k = n → I i r h → ∃ r' h', VL.forM (nxR lo n) (mGn s) b (k + 1) i r h = .nx r' h' ∧ I n r' h'
  | 0, i, r, h, hk, hi => by
    have e : i = n := by omega
    subst e
    refine ⟨r, h, ?_, hi⟩
    unfold VL.forM
    simp [nxR]
  | k + 1, i, r, h, hk, hi => by
    obtain ⟨r1, h1, e1, i1⟩ := step i r h (by omega) hi
    obtain ⟨r2, h2, e2, i2⟩ := for_rng I step k (i + 1) r1 h1 (by omega) i1
    refine ⟨r2, h2, ?_, i2⟩
    unfold VL.forM
    simp only [nxR, show i < n by omega, if_true, mGn_eq, e1]
    exact e2

/-! ### the drawn numbers -/
def IsI (w : W) : Prop := ∃ i : Int, w = .int i
theorem app_last {h : Hv} {r : Ws} {acc : List W} {w : W} {fo fe : Ws → Hv → Res W} (hl : acc.length < 100000) (e1 : fo r (h ++ [.lst acc]) = .val (.ref h.length) (h ++ [.lst acc])) (e2 : fe r (h ++ [.lst acc]) = .val w (h ++ [.lst acc])) :
    mApp fo fe r (h ++ [.lst acc]) = .val .non (h ++ [.lst (acc ++ [w])]) := by
  have s : (h ++ [O.lst acc]).set h.length (.lst (acc ++ [w])) = h ++ [.lst (acc ++ [w])] := by simp
  simp [mApp, e1, e2, hl, s]
theorem sz_at {h t : Hv} {p : Nat} {m : Nat} {i : Nat} (e : h[p]? = some (.lst (List.replicate m (.int 420)))) (hi : i < m) : mIx (.ref p) (.int (i : Int)) (h ++ t) = .val (.int 420) (h ++ t) :=
  mIx_lst (get_old e) (atI_nat (by simp [hi]))
theorem mul64 {i j : Int} {h : Hv} (h1 : i.natAbs < 2 ^ 64) (h2 : j.natAbs < 2 ^ 64) : mMul (.int i) (.int j) h = .val (.int (i * j)) h := mMul_int (by have := log_le h1 (by decide); have := log_le h2 (by decide); omega)
theorem fmod_in (a : Int) {b : Int} (hb : 0 < b) : 0 ≤ a.fmod b ∧ a.fmod b < b := ⟨Int.fmod_nonneg_of_pos a hb, Int.fmod_lt_of_pos a hb⟩
theorem mod420 {i : Int} {h : Hv} : mMod (.int i) (.int 420) h = .val (.int (i.fmod 420)) h := mMod_int (by decide)
theorem div420 {i : Int} {h : Hv} : mDiv (.int i) (.int 420) h = .val (.int (i.fdiv 420)) h := mDiv_int (by decide) (by decide +kernel)
theorem div16 {i : Int} {h : Hv} : mDiv (.int i) (.int 16) h = .val (.int (i.fdiv 16)) h := mDiv_int (by decide) (by decide +kernel)
theorem modM {i : Int} {h : Hv} : mMod (.int i) (.int 2147483629) h = .val (.int (i.fmod 2147483629)) h := mMod_int (by decide)
theorem modN {i : Int} {h : Hv} : mMod (.int i) (.int 2147483647) h = .val (.int (i.fmod 2147483647)) h := mMod_int (by decide)
theorem pow18 {h : Hv} : mPow (.int 10) (.int 18) h = .val (.int 1000000000000000000) h := mPow_int (by decide) (by decide) (by decide)
theorem pow64 {i : Int} {j : Nat} {h : Hv} (h1 : i.natAbs < 2 ^ 64) (hj : j ≤ 1000) : mPow (.int i) (.int (j : Int)) h = .val (.int (i ^ j)) h := by
  have := mPow_int (i := i) (j := (j : Int)) (h := h) (by omega) (by omega) h1
  simpa using this
abbrev numBody : MS := (mIfS (mAndT (mT (m2 mGe (mVar 3) (m2 mPow (mC (.int 10)) (mC (.int 18))))) (mT (m2 mGt (mVar 4) (mC (.int 0))))) (mSeq (mExpr (mApp (mVar 5) (m2 mMod (mVar 4) (m2 mIx (mVar 2) (mVar 6)))))
    (mSet 4 (m2 mDiv (mVar 4) (m2 mIx (mVar 2) (mVar 6))))) (mSeq (mSet 7 (m2 mMod (m2 mPow (m2 mAdd (m2 mAdd (m2 mMod (mVar 3) (mC (.int 2147483629))) (m2 mMul (mC (.int 7919)) (mVar 1))) (mC (.int 1))) (mC (.int 3))) (mC (.int 2147483647))))
    (mSeq (mSet 7 (m2 mMod (m2 mMul (m2 mAdd (mVar 7) (m2 mMul (mC (.int 104729)) (m2 mAdd (mVar 6) (mC (.int 1))))) (m2 mAdd (mVar 6) (mC (.int 3)))) (mC (.int 2147483629))))
    (mSeq (mSet 7 (m2 mMod (m2 mMul (m2 mMod (m2 mPow (mVar 7) (mC (.int 5))) (mC (.int 2147483647))) (mC (.int 48271))) (mC (.int 2147483629))))
    (mExpr (mApp (mVar 5) (m2 mMod (m2 mDiv (mVar 7) (mC (.int 16))) (m2 mIx (mVar 2) (mVar 6)))))))))
abbrev numEnv (cell salt : Int) (p : Nat) (wh lf : Int) (q : Nat) (kk on : Option W) : Ws := [some (.int cell), some (.int salt), some (.ref p), some (.int wh), some (.int lf), some (.ref q), kk, on]
theorem num_big {h : Hv} {p m i : Nat} {cell salt wh lf : Int} {on : Option W} {acc : List W} (e : h[p]? = some (.lst (List.replicate m (.int 420)))) (hi : i < m) (al : acc.length < 100000) (c1 : (1000000000000000000 : Int) ≤ wh) (c2 : 0 < lf) :
    numBody (numEnv cell salt p wh lf h.length (some (.int i)) on) (h ++ [.lst acc]) = .nx (numEnv cell salt p wh (lf.fdiv 420) h.length (some (.int i)) on) (h ++ [.lst (acc ++ [.int (lf.fmod 420)])]) := by
  have ix := sz_at (t := [.lst acc]) e hi
  have ix2 := sz_at (t := [.lst (acc ++ [.int (lf.fmod 420)])]) e hi
  have ap : mApp (mVar 5) (m2 mMod (mVar 4) (m2 mIx (mVar 2) (mVar 6))) (numEnv cell salt p wh lf h.length (some (.int i)) on) (h ++ [.lst acc]) = .val .non (h ++ [.lst (acc ++ [.int (lf.fmod 420)])]) :=
    app_last al (by simp [numEnv]) (by simp [numEnv, ix, mod420])
  simp only [numEnv] at ap
  simp [numEnv, numBody, pow18, c1, c2, ap, ix2, div420]
theorem num_small {h : Hv} {p m i : Nat} {cell salt wh lf : Int} {on : Option W} {acc : List W} (e : h[p]? = some (.lst (List.replicate m (.int 420)))) (hi : i < m) (hm : m ≤ 1000) (al : acc.length < 100000) (s0 : 0 ≤ salt) (s1 : salt ≤ 100000) (c : ¬ ((1000000000000000000 : Int) ≤ wh ∧ 0 < lf)) :
    ∃ v o : Int, numBody (numEnv cell salt p wh lf h.length (some (.int i)) on) (h ++ [.lst acc]) = .nx (numEnv cell salt p wh lf h.length (some (.int i)) (some (.int o))) (h ++ [.lst (acc ++ [.int v])]) := by
  have ix := sz_at (t := [.lst acc]) e hi
  obtain ⟨a1, a2⟩ := fmod_in wh (show (0 : Int) < 2147483629 by decide)
  have b1 : (wh.fmod 2147483629 + 7919 * salt + 1).natAbs < 2 ^ 64 := by omega
  generalize hx : ((wh.fmod 2147483629 + 7919 * salt + 1) ^ 3).fmod 2147483647 = x
  obtain ⟨x1, x2⟩ := fmod_in ((wh.fmod 2147483629 + 7919 * salt + 1) ^ 3) (show (0 : Int) < 2147483647 by decide)
  rw [hx] at x1 x2
  generalize hy : ((x + 104729 * ((i : Int) + 1)) * ((i : Int) + 3)).fmod 2147483629 = y
  obtain ⟨y1, y2⟩ := fmod_in ((x + 104729 * ((i : Int) + 1)) * ((i : Int) + 3)) (show (0 : Int) < 2147483629 by decide)
  rw [hy] at y1 y2
  obtain ⟨z1, z2⟩ := fmod_in (y ^ 5) (show (0 : Int) < 2147483647 by decide)
  have t1 : (if (1000000000000000000 : Int) ≤ wh then decide (0 < lf) else false) = false := by
    split
    · rename_i q
      exact decide_eq_false fun z => c ⟨q, z⟩
    · rfl
  refine ⟨(((((y ^ 5).fmod 2147483647) * 48271).fmod 2147483629).fdiv 16).fmod 420, (((y ^ 5).fmod 2147483647) * 48271).fmod 2147483629, ?_⟩
  have p3 := pow64 (h := h ++ [.lst acc]) b1 (show 3 ≤ 1000 by decide)
  have p5 := pow64 (i := y) (h := h ++ [.lst acc]) (by omega) (show 5 ≤ 1000 by decide)
  have q1 := mul64 (i := 7919) (j := salt) (h := h ++ [.lst acc]) (by decide) (by omega)
  have q2 := mul64 (i := 104729) (j := (i : Int) + 1) (h := h ++ [.lst acc]) (by decide) (by omega)
  have q3 := mul64 (i := x + 104729 * ((i : Int) + 1)) (j := (i : Int) + 3) (h := h ++ [.lst acc]) (by omega) (by omega)
  have q4 := mul64 (i := (y ^ 5).fmod 2147483647) (j := 48271) (h := h ++ [.lst acc]) (by omega) (by decide)
  have p3' : mPow (.int (wh.fmod 2147483629 + 7919 * salt + 1)) (.int 3) (h ++ [.lst acc]) = .val (.int ((wh.fmod 2147483629 + 7919 * salt + 1) ^ 3)) (h ++ [.lst acc]) := p3
  have p5' : mPow (.int y) (.int 5) (h ++ [.lst acc]) = .val (.int (y ^ 5)) (h ++ [.lst acc]) := p5
  have ap : ∀ o : Int, mApp (mVar 5) (m2 mMod (m2 mDiv (mVar 7) (mC (.int 16))) (m2 mIx (mVar 2) (mVar 6))) (numEnv cell salt p wh lf h.length (some (.int i)) (some (.int o))) (h ++ [.lst acc]) = .val .non (h ++ [.lst (acc ++ [.int ((o.fdiv 16).fmod 420)])]) := fun o =>
    app_last al (by simp [numEnv]) (by simp [numEnv, ix, mod420, div16])
  have t2 : (mAndT (mT (m2 mGe (mVar 3) (m2 mPow (mC (.int 10)) (mC (.int 18))))) (mT (m2 mGt (mVar 4) (mC (.int 0))))) (numEnv cell salt p wh lf h.length (some (.int i)) on) (h ++ [.lst acc]) = .val false (h ++ [.lst acc]) := by
    by_cases q : (1000000000000000000 : Int) ≤ wh
    · have : ¬ 0 < lf := fun z => c ⟨q, z⟩
      simp [numEnv, pow18, q, this]
    · simp [numEnv, pow18, q]
  simp only [numBody, mIfS_eq, t2, andS_val, mSeq_eq]
  simp only [mSet_eq, m2_eq, mVar0, mVarS, bind_val, mC_eq, modM, modN, q1, mAdd_int, p3', hx, andS_val, thenS_nx, mSeq_eq, List.set, q2, q3, hy, p5', q4, mExpr_eq]
  simp only [if_false, Bool.false_eq_true, andS_val, thenS_nx, List.set, mSeq_eq, mSet_eq, m2_eq, mVar0, mVarS, bind_val, mC_eq, modM, modN, q1, mAdd_int, p3', hx, q2, q3, hy, p5', q4, mExpr_eq]
  have ap1 := ap ((((y ^ 5).fmod 2147483647) * 48271).fmod 2147483629)
  rw [ap1]
  rfl
theorem rgB_small {m : Nat} (hm : m ≤ 1000) : rgB (m : Int) = true := by
  unfold rgB
  rw [Bool.and_eq_true]
  exact ⟨decide_eq_true (by omega), decide_eq_true (by omega)⟩
theorem src_rng {m : Nat} {g : Hv} (hm : m ≤ 1000) : srcR [.int (m : Int)] g = .val ⟨m + 1, nxR 0 m⟩ g := by
  have e : srcR [.int (m : Int)] g = (if rgB (m : Int) then .val ⟨(m : Int).toNat + 1, nxR 0 (m : Int).toNat⟩ g else .bad) := by simp only [srcR]
  rw [e, if_pos (rgB_small hm), Int.toNat_natCast]
theorem mRng_of {m : Nat} {g : Hv} {r : Ws} {f : Ws → Hv → Res (List W)} (hm : m ≤ 1000) (el : f r g = .val [.int (m : Int)] g) : mRng f r g = .val ⟨m + 1, nxR 0 m⟩ g := by
  unfold mRng
  rw [el, bind_val, src_rng hm]
theorem numbers_run {h : Hv} {p m : Nat} {cell salt wh lf : Int} {kk on : Option W} {acc : List W} (e : h[p]? = some (.lst (List.replicate m (.int 420)))) (hm : m ≤ 1000)
    (e1 : VL.forM (nxR 0 m) (mGn 6) numBody (m + 1) 0 (numEnv cell salt p (max cell (-1 - cell)) (max cell (-1 - cell)) h.length none none) (h ++ [.lst []]) = .nx (numEnv cell salt p wh lf h.length kk on) (h ++ [.lst acc])) :
    m__law_numbers [.int cell, .int salt, .ref p] h = .val (.ref h.length) (h ++ [.lst acc]) := by
  have el : mLen [.ref p] (h ++ [.lst []]) = .val (.int m) (h ++ [.lst []]) := by
    simp [mLen, get_old e]
  have rg : rgB (m : Int) = true := rgB_small hm
  have z : (m : Int).toNat = m := by omega
  have fr : mFor (mRng (mCons (mB mLen (mCons (mVar 2) mNil)) mNil)) (mGn 6) numBody (numEnv cell salt p (max cell (-1 - cell)) (max cell (-1 - cell)) h.length none none) (h ++ [.lst []]) = .nx (numEnv cell salt p wh lf h.length kk on) (h ++ [.lst acc]) := by
    have src : mRng (mCons (mB mLen (mCons (mVar 2) mNil)) mNil) (numEnv cell salt p (max cell (-1 - cell)) (max cell (-1 - cell)) h.length none none) (h ++ [.lst []]) = .val ⟨m + 1, nxR 0 m⟩ (h ++ [.lst []]) :=
      mRng_of hm (by simp only [mCons_eq, mB_eq, mVarS, mVar0, mNil_eq, bind_val, el])
    unfold mFor
    rw [src, andS_val]
    exact e1
  unfold m__law_numbers
  rw [mDef_eq]
  simp only [mSeq_eq]
  have st1 : (mSet 3 (mB mMax (mCons (mVar 0) (mCons (m2 mSub (m1 mNeg (mC (.int 1))) (mVar 0)) mNil)))) (startW ["_law_cell", "_law_salt", "_law_sizes", "_law_whole", "_law_left", "_law_result", "_law_k", "_law_one"] [.int cell, .int salt, .ref p]) h = .nx [some (.int cell), some (.int salt), some (.ref p), some (.int (max cell (-1 - cell))), none, none, none, none] h := by
    simp [startW]
  rw [st1, thenS_nx]
  simp only [mSeq_eq, mSet_eq, mVarS, mVar0, andS_val, thenS_nx, List.set, mLst_eq, mNil_eq, bind_val, List.length_nil, Nat.zero_le, if_true, mNew_eq]
  show endS (thenS (mFor _ _ numBody (numEnv cell salt p (max cell (-1 - cell)) (max cell (-1 - cell)) h.length none none) (h ++ [.lst []])) _) = _
  rw [fr]
  rfl
theorem numbers_ok {h : Hv} {p m : Nat} {cell salt : Int} (e : h[p]? = some (.lst (List.replicate m (.int 420)))) (hm : m ≤ 1000) (s0 : 0 ≤ salt) (s1 : salt ≤ 100000) :
    ∃ acc, m__law_numbers [.int cell, .int salt, .ref p] h = .val (.ref h.length) (h ++ [.lst acc]) ∧ ∀ w ∈ acc, IsI w := by
  have lp := for_rng (n := m) (lo := 0) (s := 6) (b := numBody) (fun i r g => ∃ (wh lf : Int) (kk on : Option W) (acc : List W), r = numEnv cell salt p wh lf h.length kk on ∧ g = h ++ [.lst acc] ∧ acc.length = i ∧ ∀ w ∈ acc, IsI w) ?_
  · obtain ⟨r', g', e1, wh, lf, kk, on, acc, rfl, rfl, hl, ha⟩ := lp m 0 (numEnv cell salt p (max cell (-1 - cell)) (max cell (-1 - cell)) h.length none none) (h ++ [.lst []]) (by omega) ⟨_, _, none, none, [], rfl, rfl, rfl, by simp⟩
    exact ⟨acc, numbers_run e hm e1, ha⟩
  · rintro i r g hi ⟨wh, lf, kk, on, acc, rfl, rfl, hl, ha⟩
    have al : acc.length < 100000 := by omega
    have zi : (0 : Int) + (i : Int) = (i : Int) := by omega
    have se : (numEnv cell salt p wh lf h.length kk on).set 6 (some (.int (0 + (i : Int)))) = numEnv cell salt p wh lf h.length (some (.int i)) on := by rw [zi]; rfl
    rw [se]
    have mem : ∀ v : Int, ∀ w ∈ acc ++ [W.int v], IsI w := fun v w hw => by
      rcases List.mem_append.mp hw with q | q
      · exact ha w q
      · exact ⟨v, List.mem_singleton.mp q⟩
    by_cases c : (1000000000000000000 : Int) ≤ wh ∧ 0 < lf
    · exact ⟨_, _, num_big e hi al c.1 c.2, wh, _, _, on, _, rfl, rfl, by simp [hl], mem _⟩
    · obtain ⟨v, o, q⟩ := num_small (cell := cell) (on := on) e hi hm al s0 s1 c
      exact ⟨_, _, q, wh, lf, _, _, _, rfl, rfl, by simp [hl], mem _⟩

/-! ### the state -/
/-- at p a state: a list of a list of ints and a place -/
def Sta (h : Hv) (p : Nat) : Prop := ∃ (q : Nat) (at_ : Nat) (nums : List W), h[p]? = some (.lst [.ref q, .int at_]) ∧ p ≠ q ∧ h[q]? = some (.lst nums) ∧ ∀ w ∈ nums, IsI w
/-- what a piece that draws leaves: the state, and all else as it was -/
structure Go (p : Nat) (h h' : Hv) : Prop where
  st : Sta h' p
  ln : h.length ≤ h'.length
  kp : ∀ i o, i ≠ p → h[i]? = some o → h'[i]? = some o
theorem Go.refl {p : Nat} {h : Hv} (s : Sta h p) : Go p h h := ⟨s, Nat.le_refl _, fun _ _ _ e => e⟩
theorem Go.trans {p : Nat} {h h1 h2 : Hv} (a : Go p h h1) (b : Go p h1 h2) : Go p h h2 := ⟨b.st, Nat.le_trans a.ln b.ln, fun i o n e => b.kp i o n (a.kp i o n e)⟩
theorem Sta.more {p : Nat} {h : Hv} (s : Sta h p) (t : Hv) : Sta (h ++ t) p := by
  obtain ⟨q, k, nums, e1, ne, e2, hn⟩ := s
  exact ⟨q, k, nums, get_old e1, ne, get_old e2, hn⟩
theorem Go.more {p : Nat} {h h1 : Hv} (a : Go p h h1) (t : Hv) : Go p h (h1 ++ t) := ⟨a.st.more t, by simp; have := a.ln; omega, fun i o n e => get_old (a.kp i o n e)⟩
theorem Sta.lt {p : Nat} {h : Hv} (s : Sta h p) : p < h.length := by
  obtain ⟨q, k, nums, e1, _⟩ := s
  exact (List.getElem?_eq_some_iff.mp e1).1
theorem Go.pr {p : Nat} {h h1 : Hv} (a : Go p h h1) (s : Sta h p) {x : Nat} {i j : Int} (e : Pr h x i j) : Pr h1 x i j := a.kp x _ (fun z => by
  obtain ⟨q, k, nums, e1, _⟩ := s
  unfold Pr at e
  rw [z, e1] at e
  cases e) e
theorem draw_ok {h : Hv} {p : Nat} {many : Int} (s : Sta h p) (hm : 0 < many) : ∃ v h', m__law_draw [.ref p, .int many] h = .val (.int v) h' ∧ 0 ≤ v ∧ v < many ∧ Go p h h' := by
  obtain ⟨q, k, nums, e1, ne, e2, hn⟩ := s
  have hp : p < h.length := (List.getElem?_eq_some_iff.mp e1).1
  have s1 : (h.set p (.lst [.ref q, .int ((k : Int) + 1)]))[p]? = some (.lst [.ref q, .int ((k : Int) + 1)]) := List.getElem?_set_self hp
  have s2 : (h.set p (.lst [.ref q, .int ((k : Int) + 1)]))[q]? = some (.lst nums) := by rw [List.getElem?_set_ne ne]; exact e2
  have go : Go p h (h.set p (.lst [.ref q, .int ((k : Int) + 1)])) := ⟨⟨q, k + 1, nums, by simpa using s1, ne, s2, hn⟩, by simp, fun i o n e => by rw [List.getElem?_set_ne (Ne.symm n)]; exact e⟩
  have ix1 : mIx (.ref p) (.int 1) h = .val (.int k) h := mIx_lst e1 atI1
  have x0 : mIx (.ref p) (.int 0) (h.set p (.lst [.ref q, .int ((k : Int) + 1)])) = .val (.ref q) (h.set p (.lst [.ref q, .int ((k : Int) + 1)])) := mIx_lst s1 atI0
  have ln : mLen [.ref q] (h.set p (.lst [.ref q, .int ((k : Int) + 1)])) = .val (.int nums.length) (h.set p (.lst [.ref q, .int ((k : Int) + 1)])) := by simp [mLen, s2]
  have n1 : ixN 2 1 = some 1 := by decide
  have m0 : many ≠ 0 := by omega
  by_cases hk : k < nums.length
  · obtain ⟨z, hz⟩ := hn nums[k] (List.getElem_mem hk)
    have xk : mIx (.ref q) (.int k) (h.set p (.lst [.ref q, .int ((k : Int) + 1)])) = .val (.int z) (h.set p (.lst [.ref q, .int ((k : Int) + 1)])) := mIx_lst s2 (atI_nat (by simp [hk, hz]))
    obtain ⟨f1, f2⟩ := fmod_in z hm
    refine ⟨_, _, ?_, f1, f2, go⟩
    simp [m__law_draw, mDef_eq, startW, ix1, mAsg, mSub1, e1, n1, x0, ln, hk, xk, mMod_int m0]
  · refine ⟨0, _, ?_, Int.le_refl _, hm, go⟩
    simp [m__law_draw, mDef_eq, startW, ix1, mAsg, mSub1, e1, n1, x0, ln, hk]
end K04
end
section
namespace K04
open PySem L2 VL
/-! ### what the law asks of odd values does not hang on the script -/
def isT : Res W → Bool
  | .val (.bl true) _ => true
  | _ => false
theorem odd_true : isT (m__law_odd_right [] []) = true := by decide +kernel
theorem odd_ok {r : Ws} {h : Hv} : mFresh m__law_odd_right r h = .val (.bl true) h := by
  have e := odd_true
  unfold mFresh
  generalize m__law_odd_right [] [] = x at e
  match x, e with
  | .val (.bl true) _, _ => rfl

/-! ### pairs as data -/
theorem toD_pr {h : Hv} {p : Nat} {a b : Int} (e : Pr h p a b) : toD dF h (.ref p) = some (.tuple [.int a, .int b]) := by
  unfold Pr at e
  simp [dF, toD, e, optAll]
theorem shaped_pr (a b : Int) : SeqAt.shaped (.tuple [.int a, .int b]) = true := by
  simp [SeqAt.shaped, PyData.canLay0, PyData.canLayAll0, PyData.depth, PyData.depthAll]
theorem ne_pr {h : Hv} {p q : Nat} {a b : Int} (e1 : Pr h p a b) (e2 : Pr h q a b) : mEq true (.ref p) (.ref q) h = .val (.bl false) h := by
  simp [mEq, toD_pr e1, toD_pr e2, shaped_pr, PyData.eqv, PyData.eqvAll]
theorem eq_pr {h : Hv} {p q : Nat} {a b : Int} (e1 : Pr h p a b) (e2 : Pr h q a b) : mEq false (.ref p) (.ref q) h = .val (.bl true) h := by
  simp [mEq, toD_pr e1, toD_pr e2, shaped_pr, PyData.eqv, PyData.eqvAll]
theorem shaped_none : SeqAt.shaped .none = true := by
  simp [SeqAt.shaped, PyData.canLay0, PyData.depth]
theorem ne_non {h : Hv} : mEq true .non .non h = .val (.bl false) h := by
  have e : toD dF h .non = some .none := rfl
  simp [mEq, e, shaped_none, PyData.eqv]
theorem strOk_of (s : String) : PyData.strOk (Str.ofString s) = true := by
  rw [Str.ofString_eq_toList]
  simp only [PyData.strOk, List.all_toArray, List.all_map, List.all_eq_true]
  intro c hc
  have := c.valid
  simp only [Function.comp, decide_eq_true_eq]
  have h : c.toNat < 0x110000 := by
    rcases this with q | q
    · have : c.val.toNat < 0xd800 := q
      show c.val.toNat < 0x110000
      omega
    · exact q.2
  exact h
theorem strOk_app {a b : Str} (h1 : PyData.strOk a = true) (h2 : PyData.strOk b = true) : PyData.strOk (a ++ b) = true := by
  unfold PyData.strOk at *
  rw [Str.cps_append]
  simp only [Array.all_append, h1, h2, Bool.and_self]
theorem shown_pr (a b : Int) : (PyData.tuple [.int a, .int b]).shown = ((("(" : Str) ++ ((Str.ofString (toString a) ++ (", " : Str)) ++ Str.ofString (toString b))) ++ (")" : Str)) := rfl
theorem repr_ok (a b : Int) : PyData.strOk (PyData.tuple [.int a, .int b]).shown = true := by
  rw [shown_pr]
  exact strOk_app (strOk_app (strOk_of _) (strOk_app (strOk_app (strOk_of _) (strOk_of _)) (strOk_of _))) (strOk_of _)
theorem repr_len {a b : Int} (ha : a.natAbs.log2 < 1920) (hb : b.natAbs.log2 < 1920) : (PyData.tuple [.int a, .int b]).shown.length ≤ 100000 := by
  rw [shown_pr]
  have l1 := PyProof.Rows.int_text_len_1921 ha
  have l2 := PyProof.Rows.int_text_len_1921 hb
  have k1 : ("(" : Str).length = 1 := by decide +kernel
  have k2 : (", " : Str).length = 2 := by decide +kernel
  have k3 : (")" : Str).length = 1 := by decide +kernel
  rw [Str.length_append, Str.length_append, Str.length_append, Str.length_append, k1, k2, k3]
  omega
theorem repr_pr {h : Hv} {p : Nat} {a b : Int} (e : Pr h p a b) (ha : a.natAbs.log2 < 1920) (hb : b.natAbs.log2 < 1920) : mReprE [.ref p] h = .val (.str (PyData.tuple [.int a, .int b]).shown) h := by
  have e0 : h[p]? = some (.tup [.int a, .int b]) := e
  have sh : (PyData.tuple [.int a, .int b]).showable = true := by simp [PyData.showable, PyData.showableAll, ha, hb]
  have hd : (PyData.tuple [.int a, .int b]).hasDict = false := by simp [PyData.hasDict, PyData.hasDictAll]
  have dp : (PyData.tuple [.int a, .int b]).depth ≤ 60 := by simp [PyData.depth, PyData.depthAll]
  have ln := repr_len ha hb
  have r1 : mRepr [.ref p] h = .val (.str (PyData.tuple [.int a, .int b]).shown) h := by
    simp only [mRepr, toD_pr e, sh, hd, dp, ln, decide_true, Bool.not_false, Bool.and_self, if_true]
  unfold mReprE
  simp only [e0]
  exact r1
theorem ne_str {h : Hv} {s : Str} (hs : PyData.strOk s = true) : mEq true (.str s) (.str s) h = .val (.bl false) h := by
  have e : toD dF h (.str s) = some (.str s) := rfl
  have sh : SeqAt.shaped (.str s) = true := by simp [SeqAt.shaped, PyData.canLay0, PyData.depth, hs]
  simp [mEq, e, sh, PyData.eqv]

end K04
end
section
namespace K04
open PySem L2 VL
/-! ### bounds -/
def Bn (k : Nat) (i : Int) : Prop := i.natAbs < 2 ^ k
theorem Bn.mono {k l : Nat} {i : Int} (h : Bn k i) (hl : k ≤ l) : Bn l i := Nat.lt_of_lt_of_le h (Nat.pow_le_pow_right (by decide) hl)
theorem Bn.sm {k : Nat} {i : Int} (h : Bn k i) (hk : k ≤ 1000) : Sm i := Nat.lt_of_lt_of_le h (Nat.pow_le_pow_right (by decide) hk)
theorem Bn.mul {k l : Nat} {i j : Int} (h : Bn k i) (g : Bn l j) : Bn (k + l) (i * j) := by
  unfold Bn at *
  simp only [Int.natAbs_mul, Nat.pow_add]
  exact Nat.mul_lt_mul_of_lt_of_lt h g
theorem Bn.add {k : Nat} {i j : Int} (h : Bn k i) (g : Bn k j) : Bn (k + 1) (i + j) := by
  unfold Bn at *
  rw [Nat.pow_succ]
  generalize (2 : Nat) ^ k = u at *
  omega
theorem Bn.sub {k : Nat} {i j : Int} (h : Bn k i) (g : Bn k j) : Bn (k + 1) (i - j) := by
  unfold Bn at *
  rw [Nat.pow_succ]
  generalize (2 : Nat) ^ k = u at *
  omega
theorem fdiv_le {i d : Int} (hd : 0 < d) : (i.fdiv d).natAbs ≤ i.natAbs := by
  rw [Int.fdiv_eq_ediv_of_nonneg i (Int.le_of_lt hd)]
  exact Int.natAbs_ediv_le_natAbs i d
/-! ### signs -/
def sg (i : Int) : Int := if i < 0 then -1 else if 0 < i then 1 else 0
theorem sg_cases (i : Int) : (i < 0 ∧ sg i = -1) ∨ (i = 0 ∧ sg i = 0) ∨ (0 < i ∧ sg i = 1) := by
  unfold sg
  rcases Int.lt_trichotomy i 0 with h | h | h
  · exact .inl ⟨h, by simp [h]⟩
  · exact .inr (.inl ⟨h, by simp [h]⟩)
  · exact .inr (.inr ⟨h, by simp [h, show ¬ i < 0 by omega]⟩)
theorem sg_pos {p v : Int} (hp : 0 < p) : sg (p * v) = sg v := by
  rcases Int.lt_trichotomy v 0 with h | h | h
  · have : p * v < 0 := Int.mul_neg_of_pos_of_neg hp h
    simp [sg, h, this]
  · subst h; simp
  · have : 0 < p * v := Int.mul_pos hp h
    simp [sg, h, this, show ¬ v < 0 by omega, show ¬ p * v < 0 by omega]
theorem sg_fr {v d : Int} (hd : 0 < d) : sg (fr v d).1 = sg v := by
  have e := fr_mul_left v d
  have g := gcd_pos (n := v) (show d ≠ 0 by omega)
  have fg : frG v d = (Int.gcd v d : Int) := by simp [frG, show ¬ d < 0 by omega]
  rw [fg] at e
  rw [← sg_pos g, e]
theorem sg_neg (v : Int) : sg (-v) = -sg v := by
  rcases sg_cases v with ⟨h, e⟩ | ⟨h, e⟩ | ⟨h, e⟩ <;> rcases sg_cases (-v) with ⟨h2, e2⟩ | ⟨h2, e2⟩ | ⟨h2, e2⟩ <;> first | omega | (rw [e, e2]; rfl)
theorem sg_int (l : Int) : (if decide (0 < l) = true then (1 : Int) else 0) - (if decide (l < 0) = true then 1 else 0) = sg l := by
  rcases sg_cases l with ⟨h, e⟩ | ⟨h, e⟩ | ⟨h, e⟩
  · rw [e]; simp [h, show ¬ 0 < l by omega]
  · subst h; simp [sg]
  · rw [e]; simp [h, show ¬ l < 0 by omega]
/-- what is told of two signs -/
def dueW (s t : Int) : W := if s * t < 0 then .non else .int (sg (s + t))
def S1 (s : Int) : Prop := s = -1 ∨ s = 0 ∨ s = 1
theorem sg_S1 (i : Int) : S1 (sg i) := by
  rcases sg_cases i with ⟨_, e⟩ | ⟨_, e⟩ | ⟨_, e⟩ <;> rw [e]
  · exact .inl rfl
  · exact .inr (.inl rfl)
  · exact .inr (.inr rfl)
theorem mix {u v p q : Int} (hp : 0 < p) (hq : 0 < q) (h : ¬ sg u * sg v < 0) : sg (p * u + q * v) = sg (sg u + sg v) := by
  have pu : ∀ x : Int, 0 < x → 0 < p * x := fun x hx => Int.mul_pos hp hx
  have qu : ∀ x : Int, 0 < x → 0 < q * x := fun x hx => Int.mul_pos hq hx
  have pn : ∀ x : Int, x < 0 → p * x < 0 := fun x hx => Int.mul_neg_of_pos_of_neg hp hx
  have qn : ∀ x : Int, x < 0 → q * x < 0 := fun x hx => Int.mul_neg_of_pos_of_neg hq hx
  rcases sg_cases u with ⟨hu, eu⟩ | ⟨hu, eu⟩ | ⟨hu, eu⟩ <;> rcases sg_cases v with ⟨hv, ev⟩ | ⟨hv, ev⟩ | ⟨hv, ev⟩ <;> rw [eu, ev] at h ⊢
  · have a := pn u hu; have b := qn v hv
    have c : p * u + q * v < 0 := by omega
    simp [sg, c]
  · have a := pn u hu
    subst hv
    simp [sg, a]
  · simp at h
  · have b := qn v hv
    subst hu
    simp [sg, b]
  · subst hu; subst hv; simp [sg]
  · have b := qu v hv
    subst hu
    simp [sg, b, show ¬ q * v < 0 by omega]
  · simp at h
  · have a := pu u hu
    subst hv
    simp [sg, a, show ¬ p * u < 0 by omega]
  · have a := pu u hu; have b := qu v hv
    have c : 0 < p * u + q * v := by omega
    simp [sg, c, show ¬ p * u + q * v < 0 by omega]
/-! ### the program -/
theorem sign_eq {i : Int} {h : Hv} : m_sign_of [.int i] h = .val (.int (sg i)) h := by
  unfold sg
  by_cases h1 : i < 0
  · simp [m_sign_of, mDef_eq, startW, h1]
  · by_cases h2 : 0 < i
    · simp [m_sign_of, mDef_eq, startW, h1, h2]
    · simp [m_sign_of, mDef_eq, startW, h1, h2]
/-- a reduced pair -/
structure Rp (x : Int × Int) : Prop where
  ps : 0 < x.2
  on : Int.gcd x.1 x.2 = 1
theorem order_eq {h : Hv} {p q : Nat} {a b n d : Int} (e1 : Pr h p a b) (e2 : Pr h q n d) (sa : Sm a) (sb : Sm b) (sn : Sm n) (sd : Sm d) : m_order_of [.ref p, .ref q] h = .val (.int (sg (a * d - n * b))) h := by
  simp [m_order_of, mDef_eq, startW, e1.ix0, e1.ix1, e2.ix0, e2.ix1, mul_sm sa sd, mul_sm sn sb, sign_eq]
theorem compared_eq {h : Hv} {p q : Nat} {x y : Int × Int} (e1 : Pr h p x.1 x.2) (e2 : Pr h q y.1 y.2) (r1 : Rp x) (r2 : Rp y) (sa : Sm x.1) (sb : Sm x.2) (sn : Sm y.1) (sd : Sm y.2) : m_compared [.ref p, .ref q] h = .val (.int (sg (x.1 * y.2 - y.1 * x.2))) h := by
  simp [m_compared, mDef_eq, startW, req_eq e1 r1.ps r1.on, req_eq e2 r2.ps r2.on, order_eq e1 e2 sa sb sn sd]
theorem signat_eq {h : Hv} {p q : Nat} {a b : Int} {x : Int × Int} (e1 : Pr h p a b) (e2 : Pr h q x.1 x.2) (r : Rp x) (sa : Sm a) (sb : Sm b) (sn : Sm x.1) (sd : Sm x.2) : ∃ t : Hv, m_sign_at [.ref p, .ref q] h = .val (.int (sg (a * x.1 + b * x.2))) (h ++ t) := by
  have v := value_eq e1 e2 r.ps r.on sa sb sn sd
  refine ⟨[.tup [.int (fr (a * x.1 + b * x.2) x.2).1, .int (fr (a * x.1 + b * x.2) x.2).2]], ?_⟩
  let h1 : Hv := h ++ [.tup [.int (fr (a * x.1 + b * x.2) x.2).1, .int (fr (a * x.1 + b * x.2) x.2).2]]
  have i0 : mIx (.ref h.length) (.int 0) h1 = .val (.int (fr (a * x.1 + b * x.2) x.2).1) h1 := (Pr.new (h := h) (a := (fr (a * x.1 + b * x.2) x.2).1) (b := (fr (a * x.1 + b * x.2) x.2).2)).ix0
  have v' : m_value_at [.ref p, .ref q] h = .val (.ref h.length) h1 := v
  have s := sg_fr (v := a * x.1 + b * x.2) r.ps
  show m_sign_at [.ref p, .ref q] h = .val (.int (sg (a * x.1 + b * x.2))) h1
  clear_value h1
  simp only [m_sign_at, mDef_eq, startW, List.map, List.length, List.replicate, List.append_nil, Nat.reduceSub, mRet_eq, mCall_eq, mCons_eq, m2_eq, mVar0, mVarS, bind_val, mNil_eq, Nat.zero_add, Nat.reduceAdd, List.length_cons, List.length_nil, if_true, v', mC_eq, i0, sign_eq, s, andS_val, endS_rt]
@[simp] theorem is_non_non {neg : Bool} {h : Hv} : mIs neg .non .non h = .val (.bl (!neg)) h := by cases neg <;> rfl
@[simp] theorem is_ref_non {neg : Bool} {p : Nat} {h : Hv} : mIs neg (.ref p) .non h = .val (.bl neg) h := by cases neg <;> rfl
@[simp] theorem is_int_non {neg : Bool} {p : Int} {h : Hv} : mIs neg (.int p) .non h = .val (.bl neg) h := by cases neg <;> rfl
/-- high: None, or a reduced pair behind low -/
def HiP (h : Hv) (x : Int × Int) (w : W) : Option (Int × Int) → Prop
  | none => w = .non
  | some y => ∃ p, w = .ref p ∧ Pr h p y.1 y.2 ∧ Rp y ∧ Bn 200 y.1 ∧ Bn 200 y.2 ∧ x.1 * y.2 < y.1 * x.2
theorem HiP.old {h : Hv} {x : Int × Int} {w : W} : ∀ {hi : Option (Int × Int)}, HiP h x w hi → ∀ t : Hv, HiP (h ++ t) x w hi
  | none, e, _ => e
  | some y, ⟨p, e1, e2, e3⟩, t => ⟨p, e1, e2.old t, e3⟩
def lastS (a b : Int) : Option (Int × Int) → Int
  | none => sg a
  | some y => sg (a * y.1 + b * y.2)
theorem lastS_S1 (a b : Int) : ∀ hi, S1 (lastS a b hi)
  | none => sg_S1 a
  | some y => sg_S1 _
theorem tow_eq {h : Hv} {p : Nat} {a b : Int} {x : Int × Int} {w : W} {hi : Option (Int × Int)} (e1 : Pr h p a b) (e2 : HiP h x w hi) (sa : Sm a) (sb : Sm b) : ∃ t : Hv, m_sign_towards [.ref p, w] h = .val (.int (lastS a b hi)) (h ++ t) := by
  cases hi with
  | none =>
    obtain rfl : w = .non := e2
    exact ⟨[], by simp [m_sign_towards, mDef_eq, startW, e1.ix0, sign_eq, lastS]⟩
  | some y =>
    obtain ⟨q, rfl, eq, r, b1, b2, lt⟩ := e2
    obtain ⟨t, et⟩ := signat_eq e1 eq r sa sb (b1.sm (by decide)) (b2.sm (by decide))
    exact ⟨t, by simp [m_sign_towards, mDef_eq, startW, et, lastS]⟩
theorem mulS {s t : Int} {h : Hv} (hs : S1 s) (ht : S1 t) : mMul (.int s) (.int t) h = .val (.int (s * t)) h := by
  have bs : s.natAbs < 2 ^ 64 := by rcases hs with rfl | rfl | rfl <;> decide
  have bt : t.natAbs < 2 ^ 64 := by rcases ht with rfl | rfl | rfl <;> decide
  exact mul64 bs bt
abbrev oTail : MS := (mSeq (mSet 4 (mTup (mCons (m2 mSub (m2 mIx (mVar 0) (mC (.int 0))) (m2 mIx (mVar 1) (mC (.int 0)))) (mCons (m2 mSub (m2 mIx (mVar 0) (mC (.int 1))) (m2 mIx (mVar 1) (mC (.int 1)))) mNil))))
    (mSeq (mSet 5 (mCall 2 m_sign_at (mCons (mVar 4) (mCons (mVar 2) mNil))))
    (mSeq (mSet 6 (mCall 2 m_sign_towards (mCons (mVar 4) (mCons (mVar 3) mNil))))
    (mSeq (mIfS (mT (m2 mLt (m2 mMul (mVar 5) (mVar 6)) (mC (.int 0)))) (mRet (mC .non)) mNext)
    (mRet (mCall 1 m_sign_of (mCons (m2 mAdd (mVar 5) (mVar 6)) mNil)))))))
theorem otail_eq {h : Hv} {p q l : Nat} {w : W} {a1 b1 a2 b2 : Int} {x : Int × Int} {hi : Option (Int × Int)} (e1 : Pr h p a1 b1) (e2 : Pr h q a2 b2) (e3 : Pr h l x.1 x.2) (r : Rp x) (eh : HiP h x w hi)
    (s1 : Bn 200 a1) (s2 : Bn 200 b1) (s3 : Bn 200 a2) (s4 : Bn 200 b2) (s5 : Bn 200 x.1) (s6 : Bn 200 x.2) :
    ∃ t : Hv, oTail [some (.ref p), some (.ref q), some (.ref l), some w, none, none, none] h = .rt (dueW (sg ((a1 - a2) * x.1 + (b1 - b2) * x.2)) (lastS (a1 - a2) (b1 - b2) hi)) (h ++ t) := by
  have sa : Sm (a1 - a2) := (s1.sub s3).sm (by decide)
  have sb : Sm (b1 - b2) := (s2.sub s4).sm (by decide)
  let h1 : Hv := h ++ [.tup [.int (a1 - a2), .int (b1 - b2)]]
  have k1 : Pr h1 h.length (a1 - a2) (b1 - b2) := Pr.new
  obtain ⟨t1, f1⟩ := signat_eq k1 (e3.old _) r sa sb (s5.sm (by decide)) (s6.sm (by decide))
  let h2 : Hv := h1 ++ t1
  obtain ⟨t2, f2⟩ := tow_eq (k1.old t1) ((eh.old _).old t1) sa sb
  let h3 : Hv := h2 ++ t2
  have n1 : mNew (.tup [.int (a1 - a2), .int (b1 - b2)]) h = .val (.ref h.length) h1 := rfl
  have f1' : m_sign_at [.ref h.length, .ref l] h1 = .val (.int (sg ((a1 - a2) * x.1 + (b1 - b2) * x.2))) h2 := f1
  have f2' : m_sign_towards [.ref h.length, w] h2 = .val (.int (lastS (a1 - a2) (b1 - b2) hi)) h3 := f2
  have c1 := sg_S1 ((a1 - a2) * x.1 + (b1 - b2) * x.2)
  have c2 := lastS_S1 (a1 - a2) (b1 - b2) hi
  refine ⟨[.tup [.int (a1 - a2), .int (b1 - b2)]] ++ (t1 ++ t2), ?_⟩
  have hh : h ++ ([O.tup [.int (a1 - a2), .int (b1 - b2)]] ++ (t1 ++ t2)) = h3 := by simp only [h3, h2, h1, List.append_assoc]
  rw [hh]
  generalize sg ((a1 - a2) * x.1 + (b1 - b2) * x.2) = u at *
  generalize lastS (a1 - a2) (b1 - b2) hi = v at *
  have ml := mulS (h := h3) c1 c2
  clear_value h1 h2 h3
  simp only [oTail, mSeq_eq, mSet_eq, mTup_eq, mCons_eq, m2_eq, mVar0, mVarS, bind_val, mC_eq, e1.ix0, e1.ix1, e2.ix0, e2.ix1, mSub_int, mNil_eq, List.length_cons, List.length_nil, Nat.zero_add, Nat.reduceAdd, show (2 : Nat) ≤ 100000 from by decide, if_true, n1, andS_val, List.set, thenS_nx, mCall_eq, f1', f2', mIfS_eq, mT_eq, ml, mLt_int, asB_bl]
  unfold dueW
  by_cases z : u * v < 0
  · simp [z]
  · simp [z, sign_eq]
theorem within_eq {h : Hv} {p q l : Nat} {w : W} {a1 b1 a2 b2 : Int} {x : Int × Int} {hi : Option (Int × Int)} (e1 : Pr h p a1 b1) (e2 : Pr h q a2 b2) (e3 : Pr h l x.1 x.2) (r : Rp x) (eh : HiP h x w hi)
    (s1 : Bn 200 a1) (s2 : Bn 200 b1) (s3 : Bn 200 a2) (s4 : Bn 200 b2) (s5 : Bn 200 x.1) (s6 : Bn 200 x.2) :
    ∃ t : Hv, m_order_within [.ref p, .ref q, .ref l, w] h = .val (dueW (sg ((a1 - a2) * x.1 + (b1 - b2) * x.2)) (lastS (a1 - a2) (b1 - b2) hi)) (h ++ t) := by
  obtain ⟨t, et⟩ := otail_eq e1 e2 e3 r eh s1 s2 s3 s4 s5 s6
  refine ⟨t, ?_⟩
  unfold m_order_within
  rw [mDef_eq]
  let en : Ws := [some (.ref p), some (.ref q), some (.ref l), some w, none, none, none]
  have st : startW ["one", "other", "low", "high", "difference", "first", "last"] [.ref p, .ref q, .ref l, w] = en := rfl
  have g1 : (mExpr (mCall 1 m_require_line (mCons (mVar 0) mNil))) en h = .nx en h := by simp [en, reql_eq e1]
  have g2 : (mExpr (mCall 1 m_require_line (mCons (mVar 1) mNil))) en h = .nx en h := by simp [en, reql_eq e2]
  have g3 : (mExpr (mCall 1 m_require_fraction (mCons (mVar 2) mNil))) en h = .nx en h := by simp [en, req_eq e3 r.ps r.on]
  have g4 : (mIfS (mT (m2 (mIs true) (mVar 3) (mC .non))) (mSeq (mExpr (mCall 1 m_require_fraction (mCons (mVar 3) mNil)))
    (mIfS (mT (m2 mGe (mCall 2 m_compared (mCons (mVar 2) (mCons (mVar 3) mNil))) (mC (.int 0)))) (mRaise "InvalidRange" "value" (mCons (mTup (mCons (mVar 2) (mCons (mVar 3) mNil))) mNil)) mNext)) mNext) en h = .nx en h := by
    cases hi with
    | none =>
      obtain rfl : w = .non := eh
      simp [en]
    | some y =>
      obtain ⟨m, rfl, em, rm, bm1, bm2, lt⟩ := eh
      have c := compared_eq e3 em r rm (s5.sm (by decide)) (s6.sm (by decide)) (bm1.sm (by decide)) (bm2.sm (by decide))
      have cs : sg (x.1 * y.2 - y.1 * x.2) = -1 := by simp [sg, show x.1 * y.2 - y.1 * x.2 < 0 by omega]
      rw [cs] at c
      simp [en, req_eq em rm.ps rm.on, c]
  rw [st, mSeq_eq, g1, thenS_nx, mSeq_eq, g2, thenS_nx, mSeq_eq, g3, thenS_nx, mSeq_eq, g4, thenS_nx]
  show endS (oTail en h) = _
  rw [et]
  rfl
end K04
end
section
namespace K04
open PySem L2 VL
theorem lsign_eq {h : Hv} {p q : Nat} {a b n d : Int} (e1 : Pr h p a b) (e2 : Pr h q n d) (sa : Sm a) (sb : Sm b) (sn : Sm n) (sd : Sm d) : m__law_sign [.ref p, .ref q] h = .val (.int (sg (a * n + b * d))) h := by
  have s := sg_int (a * n + b * d)
  simp only [m__law_sign, mDef_eq, startW, List.map, List.length, List.replicate, List.cons_append, List.nil_append, Nat.reduceSub, Nat.reduceAdd, mSeq_eq, mSet_eq, m2_eq, mVar0, mVarS, bind_val, mC_eq, e1.ix0, e1.ix1, e2.ix0, e2.ix1, mul_sm sa sn, mul_sm sb sd, mAdd_int, andS_val, List.set, thenS_nx, mRet_eq, mB_eq, mCons_eq, mNil_eq, mGt_int, mLt_int, mInt_bl, mSub_int, s, endS_rt]
/-! ### what the law thinks due -/
def lawW (s t : Int) : W := if (s = -1 ∧ t = 1) ∨ (s = 1 ∧ t = -1) then .non else .int (if s = 0 then t else s)
theorem law_due {s t : Int} (hs : S1 s) (ht : S1 t) : lawW s t = dueW s t := by
  rcases hs with rfl | rfl | rfl <;> rcases ht with rfl | rfl | rfl <;> decide
theorem shaped2 (u v : Int) : SeqAt.shaped (.list [.int u, .int v]) = true := by
  simp [SeqAt.shaped, PyData.canLay0, PyData.canLayAll0, PyData.depth, PyData.depthAll]
theorem toD2 {h : Hv} {p : Nat} {u v : Int} (e : h[p]? = some (.lst [.int u, .int v])) : toD dF h (.ref p) = some (.list [.int u, .int v]) := by
  simp [dF, toD, e, optAll]
theorem eq2 {h : Hv} {p q : Nat} {u v : Int} (e1 : h[p]? = some (.lst [.int u, .int v])) (e2 : h[q]? = some (.lst [.int (-1), .int 1])) : mEq false (.ref p) (.ref q) h = .val (.bl (decide (u = -1) && decide (v = 1))) h := by
  simp [mEq, toD2 e1, toD2 e2, shaped2, PyData.eqv, PyData.eqvAll, Bool.beq_eq_decide_eq]
abbrev dTail : MS := (mRet (mIf (mT (m2 (mEq false) (mB mSorted (mCons (mVar 7) mNil)) (mLst (mCons (m1 mNeg (mC (.int 1))) (mCons (mC (.int 1)) mNil))))) (mC .non) (m2 mIx (m2 mAdd (mVar 7) (mLst (mCons (mC (.int 0)) mNil))) (mB mInt (mCons (m2 (mEq false) (m2 mIx (mVar 7) (mC (.int 0))) (mC (.int 0))) mNil)))))
theorem sort2 (u v : Int) : ∃ x y : Int, sortI [u, v] = [x, y] ∧ (x = -1 ∧ y = 1 ↔ (u = -1 ∧ v = 1) ∨ (u = 1 ∧ v = -1)) := by
  by_cases c : u ≤ v
  · exact ⟨u, v, by simp [sortI, insI, c], by omega⟩
  · exact ⟨v, u, by simp [sortI, insI, c], by omega⟩
theorem dtail {h : Hv} {P : Nat} {u v : Int} {r : Ws} (hr : ∀ g, mVar 7 r g = .val (.ref P) g) (e : h[P]? = some (.lst [.int u, .int v])) : ∃ t : Hv, dTail r h = .rt (lawW u v) (h ++ t) := by
  obtain ⟨x, y, es, hc⟩ := sort2 u v
  let h1 : Hv := h ++ [.lst [.int x, .int y]]
  let h2 : Hv := h1 ++ [.lst [.int (-1), .int 1]]
  let h3 : Hv := h2 ++ [.lst [.int 0]]
  let h4 : Hv := h3 ++ [.lst [.int u, .int v, .int 0]]
  have so : mSorted [.ref P] h = .val (.ref h.length) h1 := by
    simp only [mSorted, e, intsOf, Option.map_some, es, List.length_cons, List.length_nil, Nat.zero_add, Nat.reduceAdd, show (2 : Nat) < 64 from by decide, if_true, List.map_cons, List.map_nil]
    rfl
  have n2 : mNew (.lst [.int (-1), .int 1]) h1 = .val (.ref h1.length) h2 := rfl
  have q2 : mEq false (.ref h.length) (.ref h1.length) h2 = .val (.bl (decide (x = -1) && decide (y = 1))) h2 := eq2 (get_old get_last) get_last
  have n3 : mNew (.lst [.int 0]) h2 = .val (.ref h2.length) h3 := rfl
  have e3 : h3[P]? = some (.lst [.int u, .int v]) := get_old (get_old (get_old e))
  have l3 : h3[h2.length]? = some (.lst [.int 0]) := get_last
  have a4 : mAdd (.ref P) (.ref h2.length) h3 = .val (.ref h3.length) h4 := by
    simp [mAdd, e3, l3, h4]
  have i4 : mIx (.ref P) (.int 0) h4 = .val (.int u) h4 := mIx_lst (get_old e3) atI0
  have j4 : ∀ b : Bool, mIx (.ref h3.length) (.int (if b then 1 else 0)) h4 = .val (.int (if b then v else u)) h4 := fun b => by
    cases b
    · exact mIx_lst get_last atI0
    · exact mIx_lst get_last atI1
  by_cases c : (u = -1 ∧ v = 1) ∨ (u = 1 ∧ v = -1)
  · obtain ⟨rfl, rfl⟩ := hc.mpr c
    refine ⟨[.lst [.int (-1), .int 1]] ++ [.lst [.int (-1), .int 1]], ?_⟩
    have hh : h ++ ([O.lst [.int (-1), .int 1]] ++ [.lst [.int (-1), .int 1]]) = h2 := by simp only [h2, h1, List.append_assoc]
    rw [hh]
    clear_value h1 h2 h3 h4
    simp only [dTail, mRet_eq, mIf_eq, mT_eq, m2_eq, mB_eq, mCons_eq, hr, bind_val, mNil_eq, so, mLst_eq, m1_eq, mC_eq, mNeg_int, List.length_cons, List.length_nil, Nat.zero_add, Nat.reduceAdd, show (2 : Nat) ≤ 100000 from by decide, if_true, n2, q2, decide_true, Bool.and_self, asB_bl, andS_val, lawW, c]
  · have f : (decide (x = -1) && decide (y = 1)) = false := by
      rw [Bool.and_eq_false_iff, decide_eq_false_iff_not, decide_eq_false_iff_not]
      rcases Decidable.em (x = -1) with a | a
      · exact .inr fun b => c (hc.mp ⟨a, b⟩)
      · exact .inl a
    rw [f] at q2
    refine ⟨[.lst [.int x, .int y]] ++ ([.lst [.int (-1), .int 1]] ++ ([.lst [.int 0]] ++ [.lst [.int u, .int v, .int 0]])), ?_⟩
    have hh : h ++ ([O.lst [.int x, .int y]] ++ ([.lst [.int (-1), .int 1]] ++ ([.lst [.int 0]] ++ [.lst [.int u, .int v, .int 0]]))) = h4 := by simp only [h4, h3, h2, h1, List.append_assoc]
    rw [hh]
    have jj := j4 (decide (u = 0))
    clear_value h1 h2 h3 h4
    simp only [dTail, mRet_eq, mIf_eq, mT_eq, m2_eq, mB_eq, mCons_eq, hr, bind_val, mNil_eq, so, mLst_eq, m1_eq, mC_eq, mNeg_int, List.length_cons, List.length_nil, Nat.zero_add, Nat.reduceAdd, show (2 : Nat) ≤ 100000 from by decide, show (1 : Nat) ≤ 100000 from by decide, if_true, n2, q2, asB_bl, Bool.false_eq_true, if_false, n3, a4, i4, mEq_int, mInt_bl, jj, andS_val, lawW, c]
    by_cases z : u = 0
    · simp [z]
    · simp [z]
abbrev dEnv (p q l : Nat) (w : W) (g f s t : Option W) : Ws := [some (.ref p), some (.ref q), some (.ref l), some w, g, f, s, t]
theorem due_eq {h : Hv} {p q l : Nat} {w : W} {a1 b1 a2 b2 : Int} {x : Int × Int} {hi : Option (Int × Int)} (e1 : Pr h p a1 b1) (e2 : Pr h q a2 b2) (e3 : Pr h l x.1 x.2) (r : Rp x) (eh : HiP h x w hi)
    (s1 : Bn 200 a1) (s2 : Bn 200 b1) (s3 : Bn 200 a2) (s4 : Bn 200 b2) (s5 : Bn 200 x.1) (s6 : Bn 200 x.2) :
    ∃ t : Hv, m__law_due [.ref p, .ref q, .ref l, w] h = .val (dueW (sg ((a1 - a2) * x.1 + (b1 - b2) * x.2)) (lastS (a1 - a2) (b1 - b2) hi)) (h ++ t) := by
  have sa : Sm (a1 - a2) := (s1.sub s3).sm (by decide)
  have sb : Sm (b1 - b2) := (s2.sub s4).sm (by decide)
  have z1 : Sm 1 := Bn.sm (k := 1) (show (1 : Int).natAbs < 2 ^ 1 from by decide) (by decide)
  have z0 : Sm 0 := Bn.sm (k := 1) (show (0 : Int).natAbs < 2 ^ 1 from by decide) (by decide)
  let h1 : Hv := h ++ [.tup [.int (a1 - a2), .int (b1 - b2)]]
  have k1 : Pr h1 h.length (a1 - a2) (b1 - b2) := Pr.new
  have n1 : mNew (.tup [.int (a1 - a2), .int (b1 - b2)]) h = .val (.ref h.length) h1 := rfl
  have ls : m__law_sign [.ref h.length, .ref l] h1 = .val (.int (sg ((a1 - a2) * x.1 + (b1 - b2) * x.2))) h1 := lsign_eq k1 (e3.old _) sa sb (s5.sm (by decide)) (s6.sm (by decide))
  have c1 := sg_S1 ((a1 - a2) * x.1 + (b1 - b2) * x.2)
  unfold m__law_due
  rw [mDef_eq]
  have st : startW ["_law_one", "_law_other", "_law_low", "_law_high", "_law_gap", "_law_far", "_law_last", "_law_signs"] [.ref p, .ref q, .ref l, w] = dEnv p q l w none none none none := rfl
  have g1 : (mSet 4 (mTup (mCons (m2 mSub (m2 mIx (mVar 0) (mC (.int 0))) (m2 mIx (mVar 1) (mC (.int 0)))) (mCons (m2 mSub (m2 mIx (mVar 0) (mC (.int 1))) (m2 mIx (mVar 1) (mC (.int 1)))) mNil)))) (dEnv p q l w none none none none) h = .nx (dEnv p q l w (some (.ref h.length)) none none none) h1 := by
    clear_value h1
    simp only [dEnv, mSet_eq, mTup_eq, mCons_eq, m2_eq, mVar0, mVarS, bind_val, mC_eq, e1.ix0, e1.ix1, e2.ix0, e2.ix1, mSub_int, mNil_eq, List.length_cons, List.length_nil, Nat.zero_add, Nat.reduceAdd, show (2 : Nat) ≤ 100000 from by decide, if_true, n1, andS_val, List.set]
  rw [st, mSeq_eq, g1, thenS_nx, mSeq_eq]
  cases hi with
  | none =>
    obtain rfl : w = .non := eh
    let c : Int := if a1 - a2 = 0 then b1 - b2 else a1 - a2
    have sc : Sm c := by
      show Sm (if a1 - a2 = 0 then b1 - b2 else a1 - a2)
      split
      · exact sb
      · exact sa
    let h2 : Hv := h1 ++ [.tup [.int 0, .int c]]
    let h3 : Hv := h2 ++ [.tup [.int 0, .int 1]]
    have lz : m__law_sign [.ref h1.length, .ref h2.length] h3 = .val (.int (sg (0 * 0 + c * 1))) h3 := lsign_eq (Pr.old Pr.new _) Pr.new z0 sc z0 z1
    have ez : (0 : Int) * 0 + c * 1 = c := by omega
    rw [ez] at lz
    let h4 : Hv := h3 ++ [.lst [.int (sg ((a1 - a2) * x.1 + (b1 - b2) * x.2)), .int (sg c)]]
    have ls3 : m__law_sign [.ref h.length, .ref l] h3 = .val (.int (sg ((a1 - a2) * x.1 + (b1 - b2) * x.2))) h3 := lsign_eq ((k1.old _).old _) (((e3.old _).old _).old _) sa sb (s5.sm (by decide)) (s6.sm (by decide))
    have n2 : mNew (.tup [.int 0, .int c]) h1 = .val (.ref h1.length) h2 := rfl
    have n3 : mNew (.tup [.int 0, .int 1]) h2 = .val (.ref h2.length) h3 := rfl
    have n4 : mNew (.lst [.int (sg ((a1 - a2) * x.1 + (b1 - b2) * x.2)), .int (sg c)]) h3 = .val (.ref h3.length) h4 := rfl
    have i0 := k1.ix0
    have i1 := k1.ix1
    obtain ⟨t, et⟩ := dtail (h := h4) (P := h3.length) (u := sg ((a1 - a2) * x.1 + (b1 - b2) * x.2)) (v := sg c) (r := dEnv p q l .non (some (.ref h.length)) (some (.ref h.length)) (some (.int (sg c))) (some (.ref h3.length))) (fun g => rfl) get_last
    have res : lawW (sg ((a1 - a2) * x.1 + (b1 - b2) * x.2)) (sg c) = dueW (sg ((a1 - a2) * x.1 + (b1 - b2) * x.2)) (sg (a1 - a2)) := by
      rw [law_due c1 (sg_S1 c)]
      by_cases z : a1 - a2 = 0
      · have hc : c = b1 - b2 := if_pos z
        rw [hc, z, Int.zero_mul, Int.zero_add, Int.mul_comm, sg_pos r.ps]
        rcases sg_S1 (b1 - b2) with e | e | e <;> rw [e] <;> decide
      · have hc : c = a1 - a2 := if_neg z
        rw [hc]
    have h5 : (mSet 5 (mIf (mT (m2 (mIs false) (mVar 3) (mC .non))) (mVar 4) (mVar 3))) (dEnv p q l .non (some (.ref h.length)) none none none) h1 = .nx (dEnv p q l .non (some (.ref h.length)) (some (.ref h.length)) none none) h1 := by simp [dEnv]
    have h6 : (mSet 6 (mIf (mT (m2 (mIs true) (mVar 3) (mC .non))) (mCall 2 m__law_sign (mCons (mVar 4) (mCons (mVar 3) mNil))) (mCall 2 m__law_sign (mCons (mTup (mCons (mC (.int 0)) (mCons (mIf (mT (m2 (mEq true) (m2 mIx (mVar 5) (mC (.int 0))) (mC (.int 0)))) (m2 mIx (mVar 5) (mC (.int 0))) (m2 mIx (mVar 5) (mC (.int 1)))) mNil))) (mCons (mTup (mCons (mC (.int 0)) (mCons (mC (.int 1)) mNil))) mNil))))) (dEnv p q l .non (some (.ref h.length)) (some (.ref h.length)) none none) h1 = .nx (dEnv p q l .non (some (.ref h.length)) (some (.ref h.length)) (some (.int (sg c))) none) h3 := by
      have ci : (mIf (mT (m2 (mEq true) (m2 mIx (mVar 5) (mC (.int 0))) (mC (.int 0)))) (m2 mIx (mVar 5) (mC (.int 0))) (m2 mIx (mVar 5) (mC (.int 1)))) (dEnv p q l .non (some (.ref h.length)) (some (.ref h.length)) none none) h1 = .val (.int c) h1 := by
        by_cases z : a1 - a2 = 0
        · have hc : c = b1 - b2 := if_pos z
          simp [dEnv, i0, i1, z, hc]
        · have hc : c = a1 - a2 := if_neg z
          simp [dEnv, i0, i1, z, hc]
      generalize (mIf (mT (m2 (mEq true) (m2 mIx (mVar 5) (mC (.int 0))) (mC (.int 0)))) (m2 mIx (mVar 5) (mC (.int 0))) (m2 mIx (mVar 5) (mC (.int 1)))) = F at ci ⊢
      clear_value h1 h2 h3 h4 c
      simp only [mSet_eq, mIf_eq, mT_eq, m2_eq, mC_eq, bind_val, mTup_eq, mCall_eq, mCons_eq, mNil_eq, ci, n2, n3, lz, is_non_non, List.length_cons, List.length_nil, Nat.zero_add, Nat.reduceAdd, show (2 : Nat) ≤ 100000 from by decide, if_true, asB_bl, Bool.not_true, Bool.false_eq_true, if_false, andS_val, show mVar 3 (dEnv p q l .non (some (.ref h.length)) (some (.ref h.length)) none none) h1 = .val .non h1 from rfl]
      rfl
    have h7 : (mSet 7 (mLst (mCons (mCall 2 m__law_sign (mCons (mVar 4) (mCons (mVar 2) mNil))) (mCons (mVar 6) mNil)))) (dEnv p q l .non (some (.ref h.length)) (some (.ref h.length)) (some (.int (sg c))) none) h3 = .nx (dEnv p q l .non (some (.ref h.length)) (some (.ref h.length)) (some (.int (sg c))) (some (.ref h3.length))) h4 := by
      clear_value h1 h2 h3 h4 c
      simp only [dEnv, mSet_eq, mLst_eq, mCons_eq, mCall_eq, mVar0, mVarS, bind_val, mNil_eq, List.length_cons, List.length_nil, Nat.zero_add, Nat.reduceAdd, if_true, ls3, show (2 : Nat) ≤ 100000 from by decide, n4, andS_val, List.set]
    refine ⟨[.tup [.int (a1 - a2), .int (b1 - b2)]] ++ ([.tup [.int 0, .int c]] ++ ([.tup [.int 0, .int 1]] ++ ([.lst [.int (sg ((a1 - a2) * x.1 + (b1 - b2) * x.2)), .int (sg c)]] ++ t))), ?_⟩
    have hh : h ++ ([O.tup [.int (a1 - a2), .int (b1 - b2)]] ++ ([.tup [.int 0, .int c]] ++ ([.tup [.int 0, .int 1]] ++ ([.lst [.int (sg ((a1 - a2) * x.1 + (b1 - b2) * x.2)), .int (sg c)]] ++ t)))) = h4 ++ t := by simp only [h4, h3, h2, h1, List.append_assoc]
    rw [hh, h5, thenS_nx, mSeq_eq, h6, thenS_nx, mSeq_eq, h7, thenS_nx]
    show endS (dTail _ h4) = _
    rw [et, res]
    rfl
  | some y =>
    obtain ⟨m, rfl, em, rm, bm1, bm2, lt⟩ := eh
    have ly : m__law_sign [.ref h.length, .ref m] h1 = .val (.int (sg ((a1 - a2) * y.1 + (b1 - b2) * y.2))) h1 := lsign_eq k1 (em.old _) sa sb (bm1.sm (by decide)) (bm2.sm (by decide))
    let h4 : Hv := h1 ++ [.lst [.int (sg ((a1 - a2) * x.1 + (b1 - b2) * x.2)), .int (sg ((a1 - a2) * y.1 + (b1 - b2) * y.2))]]
    have n4 : mNew (.lst [.int (sg ((a1 - a2) * x.1 + (b1 - b2) * x.2)), .int (sg ((a1 - a2) * y.1 + (b1 - b2) * y.2))]) h1 = .val (.ref h1.length) h4 := rfl
    obtain ⟨t, et⟩ := dtail (h := h4) (P := h1.length) (u := sg ((a1 - a2) * x.1 + (b1 - b2) * x.2)) (v := sg ((a1 - a2) * y.1 + (b1 - b2) * y.2)) (r := dEnv p q l (.ref m) (some (.ref h.length)) (some (.ref m)) (some (.int (sg ((a1 - a2) * y.1 + (b1 - b2) * y.2)))) (some (.ref h1.length))) (fun g => rfl) get_last
    have h5 : (mSet 5 (mIf (mT (m2 (mIs false) (mVar 3) (mC .non))) (mVar 4) (mVar 3))) (dEnv p q l (.ref m) (some (.ref h.length)) none none none) h1 = .nx (dEnv p q l (.ref m) (some (.ref h.length)) (some (.ref m)) none none) h1 := by simp [dEnv]
    have h6 : (mSet 6 (mIf (mT (m2 (mIs true) (mVar 3) (mC .non))) (mCall 2 m__law_sign (mCons (mVar 4) (mCons (mVar 3) mNil))) (mCall 2 m__law_sign (mCons (mTup (mCons (mC (.int 0)) (mCons (mIf (mT (m2 (mEq true) (m2 mIx (mVar 5) (mC (.int 0))) (mC (.int 0)))) (m2 mIx (mVar 5) (mC (.int 0))) (m2 mIx (mVar 5) (mC (.int 1)))) mNil))) (mCons (mTup (mCons (mC (.int 0)) (mCons (mC (.int 1)) mNil))) mNil))))) (dEnv p q l (.ref m) (some (.ref h.length)) (some (.ref m)) none none) h1 = .nx (dEnv p q l (.ref m) (some (.ref h.length)) (some (.ref m)) (some (.int (sg ((a1 - a2) * y.1 + (b1 - b2) * y.2)))) none) h1 := by
      clear_value h1
      simp only [dEnv, mSet_eq, mIf_eq, mT_eq, m2_eq, mC_eq, mVar0, mVarS, bind_val, mCall_eq, mCons_eq, mNil_eq, ly, is_ref_non, List.length_cons, List.length_nil, Nat.zero_add, Nat.reduceAdd, if_true, asB_bl, andS_val, List.set]
    have h7 : (mSet 7 (mLst (mCons (mCall 2 m__law_sign (mCons (mVar 4) (mCons (mVar 2) mNil))) (mCons (mVar 6) mNil)))) (dEnv p q l (.ref m) (some (.ref h.length)) (some (.ref m)) (some (.int (sg ((a1 - a2) * y.1 + (b1 - b2) * y.2)))) none) h1 = .nx (dEnv p q l (.ref m) (some (.ref h.length)) (some (.ref m)) (some (.int (sg ((a1 - a2) * y.1 + (b1 - b2) * y.2)))) (some (.ref h1.length))) h4 := by
      clear_value h1 h4
      simp only [dEnv, mSet_eq, mLst_eq, mCons_eq, mCall_eq, mVar0, mVarS, bind_val, mNil_eq, List.length_cons, List.length_nil, Nat.zero_add, Nat.reduceAdd, if_true, ls, show (2 : Nat) ≤ 100000 from by decide, n4, andS_val, List.set]
    refine ⟨[.tup [.int (a1 - a2), .int (b1 - b2)]] ++ ([.lst [.int (sg ((a1 - a2) * x.1 + (b1 - b2) * x.2)), .int (sg ((a1 - a2) * y.1 + (b1 - b2) * y.2))]] ++ t), ?_⟩
    have hh : h ++ ([O.tup [.int (a1 - a2), .int (b1 - b2)]] ++ ([.lst [.int (sg ((a1 - a2) * x.1 + (b1 - b2) * x.2)), .int (sg ((a1 - a2) * y.1 + (b1 - b2) * y.2))]] ++ t)) = h4 ++ t := by simp only [h4, h1, List.append_assoc]
    rw [hh, h5, thenS_nx, mSeq_eq, h6, thenS_nx, mSeq_eq, h7, thenS_nx]
    show endS (dTail _ h4) = _
    rw [et, law_due c1 (sg_S1 _)]
    rfl
end K04
end
section
namespace K04
open PySem L2 VL
theorem pow25 {h : Hv} : mPow (.int 10) (.int 25) h = .val (.int 10000000000000000000000000) h := mPow_int (by decide) (by decide) (by decide)
theorem pow45 {h : Hv} : mPow (.int 10) (.int 45) h = .val (.int 1000000000000000000000000000000000000000000000) h := mPow_int (by decide) (by decide) (by decide)
theorem five {α : Type} (x0 x1 x2 x3 x4 : α) {v : Int} (h0 : 0 ≤ v) (h1 : v < 5) : ∃ y, (y = x0 ∨ y = x1 ∨ y = x2 ∨ y = x3 ∨ y = x4) ∧ atI [x0, x1, x2, x3, x4] v = some y := by
  have c : v = 0 ∨ v = 1 ∨ v = 2 ∨ v = 3 ∨ v = 4 := by omega
  rcases c with rfl | rfl | rfl | rfl | rfl
  · exact ⟨x0, .inl rfl, atI_nat (j := 0) rfl⟩
  · exact ⟨x1, .inr (.inl rfl), atI_nat (j := 1) rfl⟩
  · exact ⟨x2, .inr (.inr (.inl rfl)), atI_nat (j := 2) rfl⟩
  · exact ⟨x3, .inr (.inr (.inr (.inl rfl))), atI_nat (j := 3) rfl⟩
  · exact ⟨x4, .inr (.inr (.inr (.inr rfl))), atI_nat (j := 4) rfl⟩
theorem two {α : Type} (x0 x1 : α) {v : Int} (h0 : 0 ≤ v) (h1 : v < 2) : ∃ y, (y = x0 ∨ y = x1) ∧ atI [x0, x1] v = some y := by
  have c : v = 0 ∨ v = 1 := by omega
  rcases c with rfl | rfl
  · exact ⟨x0, .inl rfl, atI_nat (j := 0) rfl⟩
  · exact ⟨x1, .inr rfl, atI_nat (j := 1) rfl⟩
theorem small_ok {h : Hv} {p : Nat} (s : Sta h p) : ∃ v h', m__law_small [.ref p] h = .val (.int v) h' ∧ Bn 90 v ∧ Go p h h' := by
  obtain ⟨v1, h1, e1, a1, b1, g1⟩ := draw_ok s (show (0 : Int) < 9 by decide)
  obtain ⟨v2, h2, e2, a2, b2, g2⟩ := draw_ok g1.st (show (0 : Int) < 9 by decide)
  have g02 := g1.trans g2
  have g3 := (Go.refl g02.st).more [.lst [.int 0, .int 1, .int 2, .int v1, .int (10000000000000000000000000 + v2)]]
  obtain ⟨v3, h4, e3, a3, b3, g4⟩ := draw_ok g3.st (show (0 : Int) < 5 by decide)
  have g5 := (Go.refl g4.st).more [.lst [.int 1, .int (-1)]]
  obtain ⟨v4, h6, e4, a4, b4, g6⟩ := draw_ok g5.st (show (0 : Int) < 2 by decide)
  have ne1 : h2.length ≠ p := by have := g02.st.lt; omega
  have ne2 : h4.length ≠ p := by have := g4.st.lt; omega
  have k1 : h4[h2.length]? = some (.lst [.int 0, .int 1, .int 2, .int v1, .int (10000000000000000000000000 + v2)]) := g4.kp _ _ ne1 get_last
  have k2 : h6[h4.length]? = some (.lst [.int 1, .int (-1)]) := g6.kp _ _ ne2 get_last
  obtain ⟨y, hy, iy⟩ := five (W.int 0) (.int 1) (.int 2) (.int v1) (.int (10000000000000000000000000 + v2)) a3 b3
  obtain ⟨z, hz, iz⟩ := two (W.int 1) (.int (-1)) a4 b4
  have x1 : mIx (.ref h2.length) (.int v3) h4 = .val y h4 := mIx_lst k1 iy
  have x2 : mIx (.ref h4.length) (.int v4) h6 = .val z h6 := mIx_lst k2 iz
  obtain ⟨i, rfl, bi⟩ : ∃ i : Int, y = .int i ∧ i.natAbs ≤ 10000000000000000000000000 + 9 := by
    rcases hy with rfl | rfl | rfl | rfl | rfl
    · exact ⟨0, rfl, by decide⟩
    · exact ⟨1, rfl, by decide⟩
    · exact ⟨2, rfl, by decide⟩
    · exact ⟨v1, rfl, by omega⟩
    · exact ⟨_, rfl, by omega⟩
  obtain ⟨j, rfl, bj⟩ : ∃ j : Int, z = .int j ∧ (j = 1 ∨ j = -1) := by
    rcases hz with rfl | rfl
    · exact ⟨1, rfl, .inl rfl⟩
    · exact ⟨-1, rfl, .inr rfl⟩
  have pw : (10000000000000000000000000 : Nat) + 9 < 2 ^ 90 := by decide +kernel
  have bi2 : i.natAbs < 2 ^ 90 := Nat.lt_of_le_of_lt bi pw
  have lg := log_le bi2 (by decide)
  have ml : mMul (.int i) (.int j) h6 = .val (.int (i * j)) h6 := mMul_int (by
    have : j.natAbs.log2 < 64 := by rcases bj with rfl | rfl <;> decide +kernel
    omega)
  refine ⟨i * j, h6, ?_, ?_, ((g02.trans g3).trans (g4.trans g5)).trans g6⟩
  · simp [m__law_small, mDef_eq, startW, e1, pow25, e2, e3, x1, e4, x2, ml]
  · unfold Bn
    rcases bj with rfl | rfl
    · simpa using bi2
    · simpa using bi2
theorem fr_le1 {n d : Int} (hd : d ≠ 0) : (fr n d).1.natAbs ≤ n.natAbs := by
  have h := congrArg Int.natAbs (fr_mul_left n d)
  rw [Int.natAbs_mul] at h
  have g : 1 ≤ (frG n d).natAbs := by have := frG_ne (n := n) hd; omega
  calc (fr n d).1.natAbs = 1 * (fr n d).1.natAbs := by rw [Nat.one_mul]
    _ ≤ (frG n d).natAbs * (fr n d).1.natAbs := Nat.mul_le_mul_right _ g
    _ = n.natAbs := h
theorem fr_le2 {n d : Int} (hd : d ≠ 0) : (fr n d).2.natAbs ≤ d.natAbs := by
  have h := congrArg Int.natAbs (fr_mul_right n d)
  rw [Int.natAbs_mul] at h
  have g : 1 ≤ (frG n d).natAbs := by have := frG_ne (n := n) hd; omega
  calc (fr n d).2.natAbs = 1 * (fr n d).2.natAbs := by rw [Nat.one_mul]
    _ ≤ (frG n d).natAbs * (fr n d).2.natAbs := Nat.mul_le_mul_right _ g
    _ = d.natAbs := h
theorem Bn.fr1 {k : Nat} {n d : Int} (h : Bn k n) (hd : d ≠ 0) : Bn k (fr n d).1 := Nat.lt_of_le_of_lt (fr_le1 hd) h
theorem Bn.fr2 {k : Nat} {n d : Int} (h : Bn k d) (hd : d ≠ 0) : Bn k (fr n d).2 := Nat.lt_of_le_of_lt (fr_le2 hd) h
theorem Bn.of {i : Int} {k : Nat} (h : i.natAbs < 2 ^ k) : Bn k i := h
theorem fr_pos1 {n d : Int} (hn : 0 < n) (hd : 0 < d) : 0 < (fr n d).1 := by
  have e := sg_fr (v := n) hd
  rcases sg_cases n with ⟨h, e1⟩ | ⟨h, e1⟩ | ⟨h, e1⟩
  · omega
  · omega
  · rw [e1] at e
    rcases sg_cases (fr n d).1 with ⟨h2, e2⟩ | ⟨h2, e2⟩ | ⟨h2, e2⟩
    · rw [e2] at e; omega
    · rw [e2] at e; omega
    · exact h2
theorem range_ok {h : Hv} {p : Nat} (s : Sta h p) : ∃ (L l : Nat) (x : Int × Int) (w : W) (hi : Option (Int × Int)) (h' : Hv), m__law_range [.ref p] h = .val (.ref L) h' ∧ h'[L]? = some (.lst [.ref l, w]) ∧ Pr h' l x.1 x.2 ∧ Rp x ∧ Bn 90 x.1 ∧ Bn 4 x.2 ∧ HiP h' x w hi ∧ Go p h h' := by
  obtain ⟨v, h1, e1, b1, g1⟩ := small_ok s
  obtain ⟨d0, h2, e2, a2, c2, g2⟩ := draw_ok g1.st (show (0 : Int) < 12 by decide)
  have g02 := g1.trans g2
  have dp : 0 < 1 + d0 := by omega
  have db : Bn 4 (1 + d0) := Bn.of (by omega)
  have D0 : (1 + d0) ≠ 0 := by omega
  obtain ⟨n, d, hx⟩ : ∃ n d, fr v (1 + d0) = (n, d) := ⟨_, _, rfl⟩
  have rx : Rp (n, d) := by rw [← hx]; exact ⟨fr_pos D0, fr_one D0⟩
  have bn : Bn 90 n := by have := b1.fr1 D0; rw [hx] at this; exact this
  have bd : Bn 4 d := by have := db.fr2 (n := v) D0; rw [hx] at this; exact this
  let h3 : Hv := h2 ++ [.tup [.int n, .int d]]
  have f3 : m__law_fraction [.int v, .int (1 + d0)] h2 = .val (.ref h2.length) h3 := by
    have z := lfr_eq (h := h2) (n := v) dp (db.sm (by decide))
    rw [hx] at z
    exact z
  have k3 : Pr h3 h2.length n d := Pr.new
  have g3 : Go p h h3 := g02.more _
  obtain ⟨p0, h4, e4, a4, c4, g4⟩ := draw_ok g3.st (show (0 : Int) < 30 by decide)
  obtain ⟨q0, h5, e5, a5, c5, g5⟩ := draw_ok g4.st (show (0 : Int) < 12 by decide)
  have g35 := g4.trans g5
  have pp : 0 < 1 + p0 := by omega
  have qp : 0 < 1 + q0 := by omega
  have Q0 : (1 + q0) ≠ 0 := by omega
  have bp : Bn 5 (1 + p0) := Bn.of (by omega)
  have bq : Bn 4 (1 + q0) := Bn.of (by omega)
  obtain ⟨m, e, hy⟩ : ∃ m e, fr (1 + p0) (1 + q0) = (m, e) := ⟨_, _, rfl⟩
  have mp : 0 < m := by have := fr_pos1 pp qp; rw [hy] at this; exact this
  have ep : 0 < e := by have := fr_pos (n := 1 + p0) Q0; rw [hy] at this; exact this
  have bm : Bn 5 m := by have := bp.fr1 Q0; rw [hy] at this; exact this
  have be : Bn 4 e := by have := bq.fr2 (n := 1 + p0) Q0; rw [hy] at this; exact this
  let h6 : Hv := h5 ++ [.tup [.int m, .int e]]
  have f6 : m__law_fraction [.int (1 + p0), .int (1 + q0)] h5 = .val (.ref h5.length) h6 := by
    have z := lfr_eq (h := h5) (n := 1 + p0) qp (bq.sm (by decide))
    rw [hy] at z
    exact z
  have g6 : Go p h h6 := (g3.trans g35).more _
  have k6 : Pr h6 h2.length n d := (g35.pr g3.st k3).old _
  have j6 : Pr h6 h5.length m e := Pr.new
  have dpos : 0 < d := rx.ps
  have de : 0 < d * e := Int.mul_pos dpos ep
  have bde : Bn 8 (d * e) := bd.mul be
  have bnum : Bn 95 (n * e + m * d) := (((bn.mul be).mono (show 90 + 4 ≤ 94 by decide)).add ((bm.mul bd).mono (by decide)))
  obtain ⟨u, t, hz⟩ : ∃ u t, fr (n * e + m * d) (d * e) = (u, t) := ⟨_, _, rfl⟩
  have rz : Rp (u, t) := by rw [← hz]; exact ⟨fr_pos (by omega), fr_one (by omega)⟩
  have bu : Bn 95 u := by have := bnum.fr1 (show d * e ≠ 0 by omega); rw [hz] at this; exact this
  have bt : Bn 8 t := by have := bde.fr2 (n := n * e + m * d) (by omega); rw [hz] at this; exact this
  have val : u * (d * e) = (n * e + m * d) * t := by have := fr_val (n * e + m * d) (d * e); rw [hz] at this; exact this
  have tp : 0 < t := rz.ps
  have lt : n * t < u * d := by
    refine Int.lt_of_mul_lt_mul_right (a := e) ?_ (Int.le_of_lt ep)
    have z : 0 < m * d * t := Int.mul_pos (Int.mul_pos mp dpos) tp
    have w1 : u * d * e = u * (d * e) := Int.mul_assoc ..
    have w2 : (n * e + m * d) * t = n * t * e + m * d * t := by rw [Int.add_mul]; congr 1; ac_rfl
    rw [w1, val, w2]
    omega
  let h7 : Hv := h6 ++ [.tup [.int u, .int t]]
  have f7 : m__law_fraction [.int (n * e + m * d), .int (d * e)] h6 = .val (.ref h6.length) h7 := by
    have y := lfr_eq (h := h6) (n := n * e + m * d) de (bde.sm (by decide))
    rw [hz] at y
    exact y
  have g7 : Go p h h7 := g6.more _
  have k7 : Pr h7 h2.length n d := k6.old _
  have j7 : Pr h7 h6.length u t := Pr.new
  obtain ⟨k, h8, e8, a8, c8, g8⟩ := draw_ok g7.st (show (0 : Int) < 4 by decide)
  have k8 : Pr h8 h2.length n d := g8.pr g7.st k7
  have j8 : Pr h8 h6.length u t := g8.pr g7.st j7
  have g78 := g7.trans g8
  have m1 := mul_sm (i := n) (j := e) (h := h6) (bn.sm (by decide)) (be.sm (by decide))
  have m2' := mul_sm (i := m) (j := d) (h := h6) (bm.sm (by decide)) (bd.sm (by decide))
  have m3 := mul_sm (i := d) (j := e) (h := h6) (bd.sm (by decide)) (be.sm (by decide))
  let w : W := if 0 < k then .ref h6.length else .non
  let h9 : Hv := h8 ++ [.lst [.ref h2.length, w]]
  have n9 : mNew (.lst [.ref h2.length, w]) h8 = .val (.ref h8.length) h9 := rfl
  have iw : (mIf (mT (m2 mGt (mCall 2 m__law_draw (mCons (mVar 0) (mCons (mC (.int 4)) mNil))) (mC (.int 0)))) (mVar 3) (mC .non)) [some (.ref p), some (.ref h2.length), some (.ref h5.length), some (.ref h6.length)] h7 = .val w h8 := by
    by_cases z : 0 < k
    · have hw : w = .ref h6.length := if_pos z
      simp [e8, z, hw]
    · have hw : w = .non := if_neg z
      simp [e8, z, hw]
  have hip : ∃ hi, HiP h9 (n, d) w hi := by
    by_cases z : 0 < k
    · exact ⟨some (u, t), h6.length, if_pos z, j8.old _, rz, bu.mono (by decide), bt.mono (by decide), lt⟩
    · exact ⟨none, if_neg z⟩
  obtain ⟨hi, hip⟩ := hip
  refine ⟨h8.length, h2.length, (n, d), w, hi, h9, ?_, get_last, k8.old _, rx, bn, bd, hip, g78.more _⟩
  have x60 := k6.ix0
  have x61 := k6.ix1
  have y60 := j6.ix0
  have y61 := j6.ix1
  have st1 : (mSet 1 (mCall 2 m__law_fraction (mCons (mCall 1 m__law_small (mCons (mVar 0) mNil)) (mCons (m2 mAdd (mC (.int 1)) (mCall 2 m__law_draw (mCons (mVar 0) (mCons (mC (.int 12)) mNil)))) mNil)))) [some (.ref p), none, none, none] h = .nx [some (.ref p), some (.ref h2.length), none, none] h3 := by
    clear_value h3
    simp only [mSet_eq, mCall_eq, mCons_eq, m2_eq, mVar0, bind_val, mC_eq, mNil_eq, List.length_cons, List.length_nil, Nat.zero_add, Nat.reduceAdd, if_true, e1, e2, mAdd_int, f3, andS_val, List.set]
  have st2 : (mSet 2 (mCall 2 m__law_fraction (mCons (m2 mAdd (mC (.int 1)) (mCall 2 m__law_draw (mCons (mVar 0) (mCons (mC (.int 30)) mNil)))) (mCons (m2 mAdd (mC (.int 1)) (mCall 2 m__law_draw (mCons (mVar 0) (mCons (mC (.int 12)) mNil)))) mNil)))) [some (.ref p), some (.ref h2.length), none, none] h3 = .nx [some (.ref p), some (.ref h2.length), some (.ref h5.length), none] h6 := by
    clear_value h3 h6
    simp only [mSet_eq, mCall_eq, mCons_eq, m2_eq, mVar0, bind_val, mC_eq, mNil_eq, List.length_cons, List.length_nil, Nat.zero_add, Nat.reduceAdd, if_true, e4, e5, mAdd_int, f6, andS_val, List.set]
  have st3 : (mSet 3 (mCall 2 m__law_fraction (mCons (m2 mAdd (m2 mMul (m2 mIx (mVar 1) (mC (.int 0))) (m2 mIx (mVar 2) (mC (.int 1)))) (m2 mMul (m2 mIx (mVar 2) (mC (.int 0))) (m2 mIx (mVar 1) (mC (.int 1))))) (mCons (m2 mMul (m2 mIx (mVar 1) (mC (.int 1))) (m2 mIx (mVar 2) (mC (.int 1)))) mNil)))) [some (.ref p), some (.ref h2.length), some (.ref h5.length), none] h6 = .nx [some (.ref p), some (.ref h2.length), some (.ref h5.length), some (.ref h6.length)] h7 := by
    clear_value h3 h6 h7
    simp only [mSet_eq, mCall_eq, mCons_eq, m2_eq, mVar0, mVarS, bind_val, mC_eq, mNil_eq, List.length_cons, List.length_nil, Nat.zero_add, Nat.reduceAdd, if_true, x60, x61, y60, y61, m1, m2', m3, mAdd_int, f7, andS_val, List.set]
  unfold m__law_range
  rw [mDef_eq, mSeq_eq]
  have st0 : startW ["_law_state", "_law_low", "_law_more", "_law_high"] [.ref p] = [some (.ref p), none, none, none] := rfl
  rw [st0, st1, thenS_nx, mSeq_eq, st2, thenS_nx, mSeq_eq, st3, thenS_nx]
  generalize (mIf (mT (m2 mGt (mCall 2 m__law_draw (mCons (mVar 0) (mCons (mC (.int 4)) mNil))) (mC (.int 0)))) (mVar 3) (mC .non)) = F at iw
  clear_value h3 h6 h7 h9 w
  simp only [mRet_eq, mLst_eq, mCons_eq, mVar0, mVarS, bind_val, iw, mNil_eq, List.length_cons, List.length_nil, Nat.zero_add, Nat.reduceAdd, show (2 : Nat) ≤ 100000 from by decide, if_true, n9, andS_val, endS_rt]
/-! ### inner slownesses -/
theorem seq_step {P : Nat} {L : List W} {g : MG} {b : MS} {i : Nat} {k : Nat} {r r1 r2 : Ws} {h h2 h3 : Hv} {w : W} (e : h[P]? = some (.lst L)) (ew : L[i]? = some w) (hg : g w r h = .nx r1 h2) (hb : b r1 h2 = .nx r2 h3) :
    VL.forM (nxSeq P) g b (k + 1) i r h = VL.forM (nxSeq P) g b k (i + 1) r2 h3 := by
  conv => lhs; unfold VL.forM
  simp only [nxSeq, e, ew, hg, hb]
theorem seq_stop {P : Nat} {L : List W} {g : MG} {b : MS} {i : Nat} {k : Nat} {r : Ws} {h : Hv} (e : h[P]? = some (.lst L)) (ew : L.length ≤ i) : VL.forM (nxSeq P) g b (k + 1) i r h = .nx r h := by
  unfold VL.forM
  simp only [nxSeq, e, List.getElem?_eq_none ew]
/-- a slowness within -/
def In (h : Hv) (x : Int × Int) (hi : Option (Int × Int)) (w : W) : Prop := ∃ p n d, w = .ref p ∧ Pr h p n d ∧ Bn 300 n ∧ Bn 300 d ∧ ∀ a b : Int, ¬ sg (a * x.1 + b * x.2) * lastS a b hi < 0 → sg (a * n + b * d) = sg (sg (a * x.1 + b * x.2) + lastS a b hi)
theorem In.old {h : Hv} {x : Int × Int} {hi : Option (Int × Int)} {w : W} (e : In h x hi w) (t : Hv) : In (h ++ t) x hi w := by
  obtain ⟨p, n, d, e1, e2, e3⟩ := e
  exact ⟨p, n, d, e1, e2.old t, e3⟩
theorem inner_ok {h : Hv} {l : Nat} {x : Int × Int} {w : W} {hi : Option (Int × Int)} (e : Pr h l x.1 x.2) (r : Rp x) (b1 : Bn 90 x.1) (b2 : Bn 4 x.2) (eh : HiP h x w hi) :
    ∃ (I : Nat) (X : List W) (t : Hv), m__law_inner [.ref l, w] h = .val (.ref I) (h ++ t) ∧ (h ++ t)[I]? = some (.lst X) ∧ ∀ v ∈ X, In (h ++ t) x hi v := by
  have xp := r.ps
  cases hi with
  | none =>
    obtain rfl : w = .non := eh
    let h1 : Hv := h ++ [.tup [.int (x.1 + x.2), .int x.2]]
    let h2 : Hv := h1 ++ [.tup [.int (x.1 * 2 + 1000000000000000000000000000000000000000000000), .int (2 * x.2)]]
    let h3 : Hv := h2 ++ [.lst [.ref h.length, .ref h1.length]]
    have n1 : mNew (.tup [.int (x.1 + x.2), .int x.2]) h = .val (.ref h.length) h1 := rfl
    have n2 : mNew (.tup [.int (x.1 * 2 + 1000000000000000000000000000000000000000000000), .int (2 * x.2)]) h1 = .val (.ref h1.length) h2 := rfl
    have n3 : mNew (.lst [.ref h.length, .ref h1.length]) h2 = .val (.ref h2.length) h3 := rfl
    have two : Sm 2 := Bn.sm (k := 2) (show (2 : Int).natAbs < 2 ^ 2 from by decide) (by decide)
    have m1 := mul_sm (h := h1) (b1.sm (by decide)) two
    have m2' := mul_sm (h := h1) two (b2.sm (by decide))
    have i0 := (e.old [.tup [.int (x.1 + x.2), .int x.2]]).ix0
    have i1 := (e.old [.tup [.int (x.1 + x.2), .int x.2]]).ix1
    refine ⟨h2.length, [.ref h.length, .ref h1.length], [.tup [.int (x.1 + x.2), .int x.2]] ++ ([.tup [.int (x.1 * 2 + 1000000000000000000000000000000000000000000000), .int (2 * x.2)]] ++ [.lst [.ref h.length, .ref h1.length]]), ?_⟩
    have hh : h ++ ([O.tup [.int (x.1 + x.2), .int x.2]] ++ ([.tup [.int (x.1 * 2 + 1000000000000000000000000000000000000000000000), .int (2 * x.2)]] ++ [.lst [.ref h.length, .ref h1.length]])) = h3 := by simp only [h3, h2, h1, List.append_assoc]
    rw [hh]
    refine ⟨?_, get_last, fun v hv => ?_⟩
    · have i0' : mIx (.ref l) (.int 0) h1 = .val (.int x.1) h1 := i0
      have i1' : mIx (.ref l) (.int 1) h1 = .val (.int x.2) h1 := i1
      clear_value h1 h2 h3
      simp only [m__law_inner, mDef_eq, startW, List.map, List.length, List.replicate, List.append_nil, Nat.reduceSub, mSeq_eq, mIfS_eq, mT_eq, m2_eq, mVar0, mVarS, bind_val, mC_eq, is_non_non, Bool.not_false, asB_bl, andS_val, if_true, mRet_eq, mLst_eq, mCons_eq, mTup_eq, e.ix0, e.ix1, mAdd_int, mNil_eq, List.length_cons, List.length_nil, Nat.zero_add, Nat.reduceAdd, show (2 : Nat) ≤ 100000 from by decide, n1, i0', i1', m1, pow45, m2', n2, n3, thenS_rt, endS_rt]
    · have hv' : v = .ref h.length ∨ v = .ref h1.length := by simpa using hv
      rcases hv' with rfl | rfl
      · refine ⟨h.length, x.1 + x.2, x.2, rfl, (Pr.old Pr.new _).old _, (b1.add (b2.mono (by decide))).mono (by decide), b2.mono (by decide), fun a b hc => ?_⟩
        have z := mix (u := a * x.1 + b * x.2) (v := a) (p := 1) (q := x.2) (by decide) xp hc
        rw [Int.one_mul] at z
        have q : a * (x.1 + x.2) + b * x.2 = a * x.1 + b * x.2 + x.2 * a := by rw [Int.mul_add, Int.mul_comm x.2 a]; omega
        rw [q]
        exact z
      · have b45 : Bn 150 (1000000000000000000000000000000000000000000000 : Int) := by unfold Bn; decide +kernel
        have bt2 : Bn 2 (2 : Int) := by unfold Bn; decide
        refine ⟨h1.length, x.1 * 2 + 1000000000000000000000000000000000000000000000, 2 * x.2, rfl, Pr.old Pr.new _, (((b1.mul bt2).mono (show 90 + 2 ≤ 150 by decide)).add b45).mono (by decide), (bt2.mul b2).mono (by decide), fun a b hc => ?_⟩
        have z := mix (u := a * x.1 + b * x.2) (v := a) (p := 2) (q := 1000000000000000000000000000000000000000000000) (by decide) (by decide) hc
        have q : a * (x.1 * 2 + 1000000000000000000000000000000000000000000000) + b * (2 * x.2) = 2 * (a * x.1 + b * x.2) + 1000000000000000000000000000000000000000000000 * a := by
          rw [Int.mul_add, Int.mul_add 2, ← Int.mul_assoc a, Int.mul_left_comm b 2, Int.mul_comm (a * x.1) 2, Int.mul_comm a 1000000000000000000000000000000000000000000000]
          omega
        rw [q]
        exact z
  | some y =>
    obtain ⟨m, rfl, em, rm, bm1, bm2, lt⟩ := eh
    have two : Sm 2 := Bn.sm (k := 2) (show (2 : Int).natAbs < 2 ^ 2 from by decide) (by decide)
    have bt2 : Bn 2 (2 : Int) := by unfold Bn; decide
    have s2 : Bn 6 (2 * x.2) := bt2.mul b2
    let h1 : Hv := h ++ [.tup [.int (x.1 * y.2 + y.1 * x.2), .int (2 * x.2 * y.2)]]
    let h2 : Hv := h1 ++ [.lst [.ref h.length]]
    have n1 : mNew (.tup [.int (x.1 * y.2 + y.1 * x.2), .int (2 * x.2 * y.2)]) h = .val (.ref h.length) h1 := rfl
    have n2 : mNew (.lst [.ref h.length]) h1 = .val (.ref h1.length) h2 := rfl
    have m1 := mul_sm (h := h) (b1.sm (by decide)) (bm2.sm (by decide))
    have m2' := mul_sm (h := h) (bm1.sm (by decide)) (b2.sm (by decide))
    have m3 := mul_sm (h := h) two (b2.sm (by decide))
    have m4 := mul_sm (h := h) (s2.sm (by decide)) (bm2.sm (by decide))
    refine ⟨h1.length, [.ref h.length], [.tup [.int (x.1 * y.2 + y.1 * x.2), .int (2 * x.2 * y.2)]] ++ [.lst [.ref h.length]], ?_⟩
    have hh : h ++ ([O.tup [.int (x.1 * y.2 + y.1 * x.2), .int (2 * x.2 * y.2)]] ++ [.lst [.ref h.length]]) = h2 := by simp only [h2, h1, List.append_assoc]
    rw [hh]
    refine ⟨?_, get_last, fun v hv => ?_⟩
    · clear_value h1 h2
      simp only [m__law_inner, mDef_eq, startW, List.map, List.length, List.replicate, List.append_nil, Nat.reduceSub, mSeq_eq, mIfS_eq, mT_eq, m2_eq, mVar0, mVarS, bind_val, mC_eq, is_ref_non, asB_bl, andS_val, Bool.false_eq_true, if_false, mNext_eq, thenS_nx, mRet_eq, mLst_eq, mCons_eq, mTup_eq, e.ix0, e.ix1, em.ix0, em.ix1, m1, m2', m3, m4, mAdd_int, mNil_eq, List.length_cons, List.length_nil, Nat.zero_add, Nat.reduceAdd, show (2 : Nat) ≤ 100000 from by decide, show (1 : Nat) ≤ 100000 from by decide, if_true, n1, n2, endS_rt]
    · have hv' : v = .ref h.length := by simpa using hv
      subst hv'
      refine ⟨h.length, x.1 * y.2 + y.1 * x.2, 2 * x.2 * y.2, rfl, Pr.old Pr.new _, (((b1.mul bm2).mono (show 90 + 200 ≤ 290 by decide)).add ((bm1.mul b2).mono (by decide))).mono (by decide), (s2.mul bm2).mono (by decide), fun a b hc => ?_⟩
      have z := mix (u := a * x.1 + b * x.2) (v := a * y.1 + b * y.2) (p := y.2) (q := x.2) rm.ps xp hc
      have q : a * (x.1 * y.2 + y.1 * x.2) + b * (2 * x.2 * y.2) = y.2 * (a * x.1 + b * x.2) + x.2 * (a * y.1 + b * y.2) := by
        rw [Int.mul_add, Int.mul_add, Int.mul_add]
        have q1 : a * (x.1 * y.2) = y.2 * (a * x.1) := by ac_rfl
        have q2 : a * (y.1 * x.2) = x.2 * (a * y.1) := by ac_rfl
        have q3 : b * (2 * x.2 * y.2) = y.2 * (b * x.2) + x.2 * (b * y.2) := by
          have w1 : y.2 * (b * x.2) = b * (x.2 * y.2) := by ac_rfl
          have w2 : x.2 * (b * y.2) = b * (x.2 * y.2) := by ac_rfl
          have w3 : b * (2 * x.2 * y.2) = 2 * (b * (x.2 * y.2)) := by ac_rfl
          rw [w1, w2, w3]
          omega
        rw [q1, q2, q3]
        omega
      rw [q]
      exact z
end K04
end
section
namespace K04
open PySem L2 VL
def negW : W → W
  | .int i => .int (-i)
  | w => w
theorem dueW_neg {s t : Int} (hs : S1 s) (ht : S1 t) : dueW (-s) (-t) = negW (dueW s t) := by
  rcases hs with rfl | rfl | rfl <;> rcases ht with rfl | rfl | rfl <;> decide
theorem lastS_neg (a b : Int) : ∀ hi, lastS (-a) (-b) hi = -lastS a b hi
  | none => sg_neg a
  | some y => by
    show sg (-a * y.1 + -b * y.2) = -sg (a * y.1 + b * y.2)
    rw [← sg_neg]
    congr 1
    rw [Int.neg_mul, Int.neg_mul]
    omega
theorem turn_eq (a1 b1 a2 b2 : Int) (x : Int × Int) (hi : Option (Int × Int)) : dueW (sg ((a2 - a1) * x.1 + (b2 - b1) * x.2)) (lastS (a2 - a1) (b2 - b1) hi) = negW (dueW (sg ((a1 - a2) * x.1 + (b1 - b2) * x.2)) (lastS (a1 - a2) (b1 - b2) hi)) := by
  have e1 : a2 - a1 = -(a1 - a2) := by omega
  have e2 : b2 - b1 = -(b1 - b2) := by omega
  have e3 : -(a1 - a2) * x.1 + -(b1 - b2) * x.2 = -((a1 - a2) * x.1 + (b1 - b2) * x.2) := by
    rw [Int.neg_mul, Int.neg_mul]
    omega
  rw [e1, e2, lastS_neg, e3, sg_neg, dueW_neg (sg_S1 _) (lastS_S1 ..)]
/-- None or a sign -/
def Dw (w : W) : Prop := w = .non ∨ ∃ i, w = .int i ∧ S1 i
theorem dueW_Dw (s t : Int) : Dw (dueW s t) := by
  unfold dueW
  split
  · exact .inl rfl
  · exact .inr ⟨_, rfl, sg_S1 _⟩
theorem repr_int {i : Int} {h : Hv} (hi : i.natAbs.log2 < 1920) (hl : (Str.ofString (toString i)).length ≤ 100000) : mReprE [.int i] h = .val (.str (Str.ofString (toString i))) h := by
  have e : toD dF h (.int i) = some (.int i) := rfl
  have s : (PyData.int i).shown = Str.ofString (toString i) := rfl
  simp only [mReprE, mRepr, e, PyData.showable, PyData.hasDict, PyData.depth, hi, s, hl, decide_true, Bool.not_false, Bool.and_self, Nat.zero_le, if_true]
theorem repr_Dw {w : W} (d : Dw w) : ∃ S : Str, PyData.strOk S = true ∧ ∀ h : Hv, mReprE [w] h = .val (.str S) h := by
  rcases d with rfl | ⟨i, rfl, hi⟩
  · refine ⟨"None", strOk_of _, fun h => ?_⟩
    have e : toD dF h .non = some .none := rfl
    have s : PyData.none.shown = ("None" : Str) := by decide +kernel
    have l : ("None" : Str).length ≤ 100000 := by decide +kernel
    simp only [mReprE, mRepr, e, PyData.showable, PyData.hasDict, PyData.depth, s, l, decide_true, Bool.not_false, Bool.and_self, Nat.zero_le, if_true]
  · have li : i.natAbs.log2 < 1920 := by rcases hi with rfl | rfl | rfl <;> decide +kernel
    have tl := PyProof.Rows.int_text_len_1921 li
    exact ⟨_, strOk_of (toString i), fun h => repr_int li (by omega)⟩
theorem ne_Dw {w : W} {h : Hv} (d : Dw w) : mEq true w w h = .val (.bl false) h := by
  rcases d with rfl | ⟨i, rfl, _⟩
  · exact ne_non
  · simp
theorem neg_Dw {w : W} (d : Dw w) : Dw (negW w) := by
  rcases d with rfl | ⟨i, rfl, hi⟩
  · exact .inl rfl
  · refine .inr ⟨-i, rfl, ?_⟩
    rcases hi with rfl | rfl | rfl
    · exact .inr (.inr rfl)
    · exact .inr (.inl rfl)
    · exact .inl rfl
abbrev rEnv (p one l : Nat) (w : W) (sl ga : Int) (cr : Nat) (o d t u x : Option W) : Ws := [some (.ref p), some (.ref one), some (.ref l), some w, some (.int sl), some (.int ga), some (.ref cr), o, d, t, u, x]
abbrev iBody : MS := (mIfS (mAndT (mT (m2 (mIs true) (mVar 8) (mC .non))) (mT (m2 (mEq true) (mCall 2 m__law_sign (mCons (mTup (mCons (m2 mSub (m2 mIx (mVar 1) (mC (.int 0))) (m2 mIx (mVar 7) (mC (.int 0)))) (mCons (m2 mSub (m2 mIx (mVar 1) (mC (.int 1))) (m2 mIx (mVar 7) (mC (.int 1)))) mNil))) (mCons (mVar 11) mNil))) (mVar 8)))) (mRet (mC (.bl false))) mNext)
section
variable {p one l cr o : Nat} {w : W} {sl ga a1 b1 a2 b2 : Int} {x : Int × Int} {hi : Option (Int × Int)} {t u : Option W}
theorem i_step {h : Hv} {v : W} (e1 : Pr h one a1 b1) (e2 : Pr h o a2 b2) (s1 : Bn 200 a1) (s2 : Bn 200 b1) (s3 : Bn 200 a2) (s4 : Bn 200 b2) (iv : In h x hi v) :
    ∃ z : Hv, iBody (rEnv p one l w sl ga cr (some (.ref o)) (some (dueW (sg ((a1 - a2) * x.1 + (b1 - b2) * x.2)) (lastS (a1 - a2) (b1 - b2) hi))) t u (some v)) h = .nx (rEnv p one l w sl ga cr (some (.ref o)) (some (dueW (sg ((a1 - a2) * x.1 + (b1 - b2) * x.2)) (lastS (a1 - a2) (b1 - b2) hi))) t u (some v)) (h ++ z) := by
  obtain ⟨q, n, d, rfl, eq, bn, bd, hin⟩ := iv
  by_cases c : sg ((a1 - a2) * x.1 + (b1 - b2) * x.2) * lastS (a1 - a2) (b1 - b2) hi < 0
  · have dd : dueW (sg ((a1 - a2) * x.1 + (b1 - b2) * x.2)) (lastS (a1 - a2) (b1 - b2) hi) = .non := if_pos c
    rw [dd]
    exact ⟨[], by simp [iBody, rEnv]⟩
  · have dd : dueW (sg ((a1 - a2) * x.1 + (b1 - b2) * x.2)) (lastS (a1 - a2) (b1 - b2) hi) = .int (sg (sg ((a1 - a2) * x.1 + (b1 - b2) * x.2) + lastS (a1 - a2) (b1 - b2) hi)) := if_neg c
    rw [dd]
    have hs := hin (a1 - a2) (b1 - b2) c
    let h1 : Hv := h ++ [.tup [.int (a1 - a2), .int (b1 - b2)]]
    have n1 : mNew (.tup [.int (a1 - a2), .int (b1 - b2)]) h = .val (.ref h.length) h1 := rfl
    have ls : m__law_sign [.ref h.length, .ref q] h1 = .val (.int (sg ((a1 - a2) * n + (b1 - b2) * d))) h1 := lsign_eq Pr.new (eq.old _) ((s1.sub s3).sm (by decide)) ((s2.sub s4).sm (by decide)) (bn.sm (by decide)) (bd.sm (by decide))
    rw [hs] at ls
    generalize sg (sg ((a1 - a2) * x.1 + (b1 - b2) * x.2) + lastS (a1 - a2) (b1 - b2) hi) = D at *
    refine ⟨[.tup [.int (a1 - a2), .int (b1 - b2)]], ?_⟩
    show _ = ResS.nx _ h1
    clear_value h1
    have nd : mEq true (.int D) (.int D) h1 = .val (.bl false) h1 := by simp
    simp only [iBody, rEnv, mIfS_eq, mAndT_eq, mT_eq, m2_eq, mVar0, mVarS, bind_val, mC_eq, is_int_non, asB_bl, if_true, mCall_eq, mCons_eq, mTup_eq, e1.ix0, e1.ix1, e2.ix0, e2.ix1, mSub_int, mNil_eq, List.length_cons, List.length_nil, Nat.zero_add, Nat.reduceAdd, show (2 : Nat) ≤ 100000 from by decide, n1, ls, nd, andS_val, Bool.false_eq_true, if_false, mNext_eq]
theorem i_loop {I : Nat} {X : List W} (s1 : Bn 200 a1) (s2 : Bn 200 b1) (s3 : Bn 200 a2) (s4 : Bn 200 b2) : ∀ (k i : Nat) (h : Hv) (y : Option W), i + k = X.length → h[I]? = some (.lst X) → (∀ v ∈ X, In h x hi v) → Pr h one a1 b1 → Pr h o a2 b2 →
    ∃ (z : Hv) (y' : Option W), VL.forM (nxSeq I) (mGn 11) iBody (k + 1) i (rEnv p one l w sl ga cr (some (.ref o)) (some (dueW (sg ((a1 - a2) * x.1 + (b1 - b2) * x.2)) (lastS (a1 - a2) (b1 - b2) hi))) t u y) h = .nx (rEnv p one l w sl ga cr (some (.ref o)) (some (dueW (sg ((a1 - a2) * x.1 + (b1 - b2) * x.2)) (lastS (a1 - a2) (b1 - b2) hi))) t u y') (h ++ z)
  | 0, i, h, y, hk, eI, iv, e1, e2 => ⟨[], y, by rw [seq_stop eI (by omega), List.append_nil]⟩
  | k + 1, i, h, y, hk, eI, iv, e1, e2 => by
    have hi : i < X.length := by omega
    have ew := List.getElem?_eq_getElem hi
    obtain ⟨z, e3⟩ := i_step (p := p) (one := one) (l := l) (cr := cr) (o := o) (w := w) (sl := sl) (ga := ga) (t := t) (u := u) e1 e2 s1 s2 s3 s4 (iv X[i] (List.getElem_mem hi))
    obtain ⟨z2, y', e4⟩ := i_loop s1 s2 s3 s4 k (i + 1) (h ++ z) (some X[i]) (by omega) (get_old eI) (fun v hv => (iv v hv).old z) (e1.old z) (e2.old z)
    refine ⟨z ++ z2, y', ?_⟩
    rw [seq_step eI ew (by rw [mGn_eq]; rfl) e3, e4, List.append_assoc]
end
abbrev bBody : MS := (mSeq (mPar 8 9 (mCons (mCall 4 m__law_due (mCons (mVar 1) (mCons (mVar 7) (mCons (mVar 2) (mCons (mVar 3) mNil))))) (mCons (mCall 4 m_order_within (mCons (mVar 1) (mCons (mVar 7) (mCons (mVar 2) (mCons (mVar 3) mNil))))) mNil)))
    (mSeq (mSet 10 (mCall 4 m_order_within (mCons (mVar 7) (mCons (mVar 1) (mCons (mVar 2) (mCons (mVar 3) mNil))))))
    (mSeq (mIfS (mOrT (mT (m2 (mEq true) (mB mReprE (mCons (mVar 9) mNil)) (mB mReprE (mCons (mVar 8) mNil)))) (mT (m2 (mEq true) (mVar 10) (mIf (mT (m2 (mIs false) (mVar 8) (mC .non))) (mC .non) (m1 mNeg (mVar 8)))))) (mRet (mC (.bl false))) mNext)
    (mFor (mSrc (mCall 2 m__law_inner (mCons (mVar 2) (mCons (mVar 3) mNil)))) (mGn 11) iBody))))
theorem b_step {h : Hv} {p one l cr o : Nat} {w : W} {sl ga a1 b1 a2 b2 : Int} {x : Int × Int} {hi : Option (Int × Int)} {d t u y : Option W} (e1 : Pr h one a1 b1) (e2 : Pr h o a2 b2) (e3 : Pr h l x.1 x.2) (r : Rp x) (eh : HiP h x w hi)
    (s1 : Bn 200 a1) (s2 : Bn 200 b1) (s3 : Bn 200 a2) (s4 : Bn 200 b2) (s5 : Bn 90 x.1) (s6 : Bn 4 x.2) :
    ∃ (z : Hv) (d' t' u' y' : Option W), bBody (rEnv p one l w sl ga cr (some (.ref o)) d t u y) h = .nx (rEnv p one l w sl ga cr (some (.ref o)) d' t' u' y') (h ++ z) := by
  have q5 : Bn 200 x.1 := s5.mono (by decide)
  have q6 : Bn 200 x.2 := s6.mono (by decide)
  obtain ⟨t1, f1⟩ := due_eq e1 e2 e3 r eh s1 s2 s3 s4 q5 q6
  obtain ⟨t2, f2⟩ := within_eq (e1.old t1) (e2.old t1) (e3.old t1) r (eh.old t1) s1 s2 s3 s4 q5 q6
  obtain ⟨t3, f3⟩ := within_eq ((e2.old t1).old t2) ((e1.old t1).old t2) ((e3.old t1).old t2) r ((eh.old t1).old t2) s3 s4 s1 s2 q5 q6
  rw [turn_eq] at f3
  obtain ⟨I, X, t4, f4, eI, iX⟩ := inner_ok (((e3.old t1).old t2).old t3) r s5 s6 (((eh.old t1).old t2).old t3)
  have dw := dueW_Dw (sg ((a1 - a2) * x.1 + (b1 - b2) * x.2)) (lastS (a1 - a2) (b1 - b2) hi)
  obtain ⟨S, so, sr⟩ := repr_Dw dw
  let h1 : Hv := h ++ t1
  let h2 : Hv := h1 ++ t2
  let h3 : Hv := h2 ++ t3
  let h4 : Hv := h3 ++ t4
  obtain ⟨t5, y', f5⟩ := i_loop (p := p) (one := one) (l := l) (cr := cr) (o := o) (w := w) (sl := sl) (ga := ga) (x := x) (hi := hi) (t := some (dueW (sg ((a1 - a2) * x.1 + (b1 - b2) * x.2)) (lastS (a1 - a2) (b1 - b2) hi))) (u := some (negW (dueW (sg ((a1 - a2) * x.1 + (b1 - b2) * x.2)) (lastS (a1 - a2) (b1 - b2) hi)))) s1 s2 s3 s4 X.length 0 h4 y (by omega) eI iX ((((e1.old t1).old t2).old t3).old t4) ((((e2.old t1).old t2).old t3).old t4)
  let h5 : Hv := h4 ++ t5
  have f1' : m__law_due [.ref one, .ref o, .ref l, w] h = .val (dueW (sg ((a1 - a2) * x.1 + (b1 - b2) * x.2)) (lastS (a1 - a2) (b1 - b2) hi)) h1 := f1
  have f2' : m_order_within [.ref one, .ref o, .ref l, w] h1 = .val (dueW (sg ((a1 - a2) * x.1 + (b1 - b2) * x.2)) (lastS (a1 - a2) (b1 - b2) hi)) h2 := f2
  have f3' : m_order_within [.ref o, .ref one, .ref l, w] h2 = .val (negW (dueW (sg ((a1 - a2) * x.1 + (b1 - b2) * x.2)) (lastS (a1 - a2) (b1 - b2) hi))) h3 := f3
  have f4' : m__law_inner [.ref l, w] h3 = .val (.ref I) h4 := f4
  generalize dueW (sg ((a1 - a2) * x.1 + (b1 - b2) * x.2)) (lastS (a1 - a2) (b1 - b2) hi) = D at *
  refine ⟨t1 ++ (t2 ++ (t3 ++ (t4 ++ t5))), some D, some D, some (negW D), y', ?_⟩
  have hh : h ++ (t1 ++ (t2 ++ (t3 ++ (t4 ++ t5)))) = h5 := by simp only [h5, h4, h3, h2, h1, List.append_assoc]
  rw [hh]
  have g1 : (mPar 8 9 (mCons (mCall 4 m__law_due (mCons (mVar 1) (mCons (mVar 7) (mCons (mVar 2) (mCons (mVar 3) mNil))))) (mCons (mCall 4 m_order_within (mCons (mVar 1) (mCons (mVar 7) (mCons (mVar 2) (mCons (mVar 3) mNil))))) mNil))) (rEnv p one l w sl ga cr (some (.ref o)) d t u y) h = .nx (rEnv p one l w sl ga cr (some (.ref o)) (some D) (some D) u y) h2 := by
    clear_value h1 h2 h3 h4 h5
    simp only [rEnv, mPar, mCons_eq, mCall_eq, mVar0, mVarS, bind_val, mNil_eq, List.length_cons, List.length_nil, Nat.zero_add, Nat.reduceAdd, if_true, f1', f2', andS_val, List.set]
  have g2 : (mSet 10 (mCall 4 m_order_within (mCons (mVar 7) (mCons (mVar 1) (mCons (mVar 2) (mCons (mVar 3) mNil)))))) (rEnv p one l w sl ga cr (some (.ref o)) (some D) (some D) u y) h2 = .nx (rEnv p one l w sl ga cr (some (.ref o)) (some D) (some D) (some (negW D)) y) h3 := by
    clear_value h1 h2 h3 h4 h5
    simp only [rEnv, mSet_eq, mCons_eq, mCall_eq, mVar0, mVarS, bind_val, mNil_eq, List.length_cons, List.length_nil, Nat.zero_add, Nat.reduceAdd, if_true, f3', andS_val, List.set]
  have g3 : (mIfS (mOrT (mT (m2 (mEq true) (mB mReprE (mCons (mVar 9) mNil)) (mB mReprE (mCons (mVar 8) mNil)))) (mT (m2 (mEq true) (mVar 10) (mIf (mT (m2 (mIs false) (mVar 8) (mC .non))) (mC .non) (m1 mNeg (mVar 8)))))) (mRet (mC (.bl false))) mNext) (rEnv p one l w sl ga cr (some (.ref o)) (some D) (some D) (some (negW D)) y) h3 = .nx (rEnv p one l w sl ga cr (some (.ref o)) (some D) (some D) (some (negW D)) y) h3 := by
    have nn : (mIf (mT (m2 (mIs false) (mVar 8) (mC .non))) (mC .non) (m1 mNeg (mVar 8))) (rEnv p one l w sl ga cr (some (.ref o)) (some D) (some D) (some (negW D)) y) h3 = .val (negW D) h3 := by
      rcases dw with rfl | ⟨i, rfl, _⟩
      · simp [rEnv, negW]
      · simp [rEnv, negW]
    have ns := ne_str (h := h3) so
    have nw := ne_Dw (h := h3) (neg_Dw dw)
    generalize (mIf (mT (m2 (mIs false) (mVar 8) (mC .non))) (mC .non) (m1 mNeg (mVar 8))) = F at nn ⊢
    have v8 : mVar 8 (rEnv p one l w sl ga cr (some (.ref o)) (some D) (some D) (some (negW D)) y) h3 = .val D h3 := rfl
    have v9 : mVar 9 (rEnv p one l w sl ga cr (some (.ref o)) (some D) (some D) (some (negW D)) y) h3 = .val D h3 := rfl
    have v10 : mVar 10 (rEnv p one l w sl ga cr (some (.ref o)) (some D) (some D) (some (negW D)) y) h3 = .val (negW D) h3 := rfl
    clear_value h1 h2 h3 h4 h5
    simp only [mIfS_eq, mOrT_eq, mT_eq, m2_eq, mB_eq, mCons_eq, v8, v9, v10, bind_val, mNil_eq, sr, ns, asB_bl, Bool.false_eq_true, if_false, nn, nw, andS_val, mNext_eq]
  have g4 : (mFor (mSrc (mCall 2 m__law_inner (mCons (mVar 2) (mCons (mVar 3) mNil)))) (mGn 11) iBody) (rEnv p one l w sl ga cr (some (.ref o)) (some D) (some D) (some (negW D)) y) h3 = .nx (rEnv p one l w sl ga cr (some (.ref o)) (some D) (some D) (some (negW D)) y') h5 := by
    have sc : mSrc (mCall 2 m__law_inner (mCons (mVar 2) (mCons (mVar 3) mNil))) (rEnv p one l w sl ga cr (some (.ref o)) (some D) (some D) (some (negW D)) y) h3 = .val ⟨X.length + 1, nxSeq I⟩ h4 := by
      have eI' : h4[I]? = some (.lst X) := eI
      clear_value h1 h2 h3 h4 h5
      simp only [mSrc, rEnv, mCall_eq, mCons_eq, mVar0, mVarS, bind_val, mNil_eq, List.length_cons, List.length_nil, Nat.zero_add, Nat.reduceAdd, if_true, f4', srcOf, eI']
    unfold mFor
    rw [sc, andS_val]
    exact f5
  unfold bBody
  rw [mSeq_eq, g1, thenS_nx, mSeq_eq, g2, thenS_nx, mSeq_eq, g3, thenS_nx, g4]
theorem b_loop {p one l cr : Nat} {w : W} {sl ga a1 b1 : Int} {x : Int × Int} {hi : Option (Int × Int)} {P : Nat} {L : List W} (r : Rp x) (s1 : Bn 200 a1) (s2 : Bn 200 b1) (s5 : Bn 90 x.1) (s6 : Bn 4 x.2) :
    ∀ (k i : Nat) (h : Hv) (o d t u y : Option W), i + k = L.length → h[P]? = some (.lst L) → (∀ v ∈ L, ∃ q a2 b2, v = .ref q ∧ Pr h q a2 b2 ∧ Bn 200 a2 ∧ Bn 200 b2) → Pr h one a1 b1 → Pr h l x.1 x.2 → HiP h x w hi →
    ∃ (z : Hv) (o' d' t' u' y' : Option W), VL.forM (nxSeq P) (mGn 7) bBody (k + 1) i (rEnv p one l w sl ga cr o d t u y) h = .nx (rEnv p one l w sl ga cr o' d' t' u' y') (h ++ z)
  | 0, i, h, o, d, t, u, y, hk, eP, iv, e1, e3, eh => ⟨[], o, d, t, u, y, by rw [seq_stop eP (by omega), List.append_nil]⟩
  | k + 1, i, h, o, d, t, u, y, hk, eP, iv, e1, e3, eh => by
    have hi : i < L.length := by omega
    have ew := List.getElem?_eq_getElem hi
    obtain ⟨q, a2, b2, ev, e2, s3, s4⟩ := iv L[i] (List.getElem_mem hi)
    obtain ⟨z, d1, t1, u1, y1, f1⟩ := b_step (p := p) (cr := cr) (sl := sl) (ga := ga) (d := d) (t := t) (u := u) (y := y) e1 e2 e3 r eh s1 s2 s3 s4 s5 s6
    obtain ⟨z2, o', d', t', u', y', f2⟩ := b_loop r s1 s2 s5 s6 k (i + 1) (h ++ z) (some (.ref q)) d1 t1 u1 y1 (by omega) (get_old eP) (fun v hv => by
      obtain ⟨q, a, b, c1, c2, c3⟩ := iv v hv
      exact ⟨q, a, b, c1, c2.old z, c3⟩) (e1.old z) (e3.old z) (eh.old z)
    refine ⟨z ++ z2, o', d', t', u', y', ?_⟩
    rw [seq_step eP ew (by rw [mGn_eq, ev]; rfl) f1, f2, List.append_assoc]
end K04
end
section
namespace K04
open PySem L2 VL
theorem Go.hip {p : Nat} {h h1 : Hv} (a : Go p h h1) (s : Sta h p) {x : Int × Int} {w : W} : ∀ {hi : Option (Int × Int)}, HiP h x w hi → HiP h1 x w hi
  | none, e => e
  | some y, ⟨q, e1, e2, e3⟩ => ⟨q, e1, a.pr s e2, e3⟩
theorem right_ok {h : Hv} {p : Nat} (s : Sta h p) : ∃ h', m__law_right [.ref p] h = .val (.bl true) h' ∧ Go p h h' := by
  obtain ⟨u1, h1, e1, b1, g1⟩ := small_ok s
  obtain ⟨u2, h2, e2, b2, g2⟩ := small_ok g1.st
  have g02 := g1.trans g2
  let h3 : Hv := h2 ++ [.tup [.int u1, .int u2]]
  have g3 : Go p h h3 := g02.more _
  have k3 : Pr h3 h2.length u1 u2 := Pr.new
  obtain ⟨L, l, x, w, hi, h4, e4, eL, k4, rx, bx1, bx2, hp4, g34⟩ := range_ok g3.st
  have g4 := g3.trans g34
  have o4 : Pr h4 h2.length u1 u2 := g34.pr g3.st k3
  let h5 : Hv := h4 ++ [.tup [.ref h2.length, .ref L]]
  have g5 : Go p h h5 := g4.more _
  obtain ⟨sl, h6, e6, b6, g56⟩ := small_ok g5.st
  have g6 := g5.trans g56
  have o6 : Pr h6 h2.length u1 u2 := g56.pr g5.st (o4.old _)
  have l6 : Pr h6 l x.1 x.2 := g56.pr g5.st (k4.old _)
  have hp6 : HiP h6 x w hi := g56.hip g5.st (hp4.old _)
  have xp := rx.ps
  let ga : Int := u1 * x.1 + u2 * x.2 - sl * x.1
  have bga : Bn 183 ga := ((((b1.mul bx1).mono (show 90 + 90 ≤ 181 by decide)).add ((b2.mul bx2).mono (by decide)))).sub (((b6.mul bx1).mono (by decide)))
  have bcr : Bn 183 (ga.fdiv x.2) := Nat.lt_of_le_of_lt (fdiv_le xp) bga
  let h7 : Hv := h6 ++ [.tup [.int sl, .int (ga.fdiv x.2)]]
  have g7 : Go p h h7 := g6.more _
  obtain ⟨v1, h8, e8, c1, g78⟩ := small_ok g7.st
  obtain ⟨v2, h9, e9, c2, g89⟩ := small_ok g78.st
  have g79 := g78.trans g89
  have o9 : Pr h9 h2.length u1 u2 := g79.pr g7.st (o6.old _)
  have l9 : Pr h9 l x.1 x.2 := g79.pr g7.st (l6.old _)
  have hp9 : HiP h9 x w hi := g79.hip g7.st (hp6.old _)
  have c9 : Pr h9 h6.length sl (ga.fdiv x.2) := g79.pr g7.st Pr.new
  let h10 : Hv := h9 ++ [.tup [.int v1, .int v2]]
  let h11 : Hv := h10 ++ [.tup [.int u1, .int (u2 + 1)]]
  let h12 : Hv := h11 ++ [.tup [.int (u1 + 1), .int u2]]
  let LL : List W := [.ref h9.length, .ref h6.length, .ref h2.length, .ref h10.length, .ref h11.length]
  let h13 : Hv := h12 ++ [.lst LL]
  have one1 : Bn 90 1 := by unfold Bn; decide
  have w13 : ∀ v ∈ LL, ∃ q a2 b2, v = .ref q ∧ Pr h13 q a2 b2 ∧ Bn 200 a2 ∧ Bn 200 b2 := fun v hv => by
    have hv' : v = .ref h9.length ∨ v = .ref h6.length ∨ v = .ref h2.length ∨ v = .ref h10.length ∨ v = .ref h11.length := by simpa [LL] using hv
    rcases hv' with rfl | rfl | rfl | rfl | rfl
    · exact ⟨_, v1, v2, rfl, ((Pr.old Pr.new _).old _).old _, c1.mono (by decide), c2.mono (by decide)⟩
    · exact ⟨_, sl, _, rfl, (((c9.old _).old _).old _).old _, b6.mono (by decide), bcr.mono (by decide)⟩
    · exact ⟨_, u1, u2, rfl, (((o9.old _).old _).old _).old _, b1.mono (by decide), b2.mono (by decide)⟩
    · exact ⟨_, u1, u2 + 1, rfl, (Pr.old Pr.new _).old _, b1.mono (by decide), (b2.add one1).mono (by decide)⟩
    · exact ⟨_, u1 + 1, u2, rfl, Pr.old Pr.new _, (b1.add one1).mono (by decide), b2.mono (by decide)⟩
  have o13 : Pr h13 h2.length u1 u2 := (((o9.old _).old _).old _).old _
  have l13 : Pr h13 l x.1 x.2 := (((l9.old _).old _).old _).old _
  have hp13 : HiP h13 x w hi := (((hp9.old _).old _).old _).old _
  have eP : h13[h12.length]? = some (.lst LL) := get_last
  obtain ⟨z, o', d', t', u', y', f13⟩ := b_loop (p := p) (cr := h6.length) (sl := sl) (ga := ga) (P := h12.length) (L := LL) rx (b1.mono (by decide)) (b2.mono (by decide)) bx1 bx2 5 0 h13 none none none none none rfl eP w13 o13 l13 hp13
  have go : Go p h (h13 ++ z) := ((((((g7.trans g79).more _).more _).more _).more _).more z)
  refine ⟨h13 ++ z, ?_, go⟩
  have n3 : mNew (.tup [.int u1, .int u2]) h2 = .val (.ref h2.length) h3 := rfl
  have n5 : mNew (.tup [.ref h2.length, .ref L]) h4 = .val (.ref h4.length) h5 := rfl
  have t5 : h5[h4.length]? = some (.tup [.ref h2.length, .ref L]) := get_last
  have L5 : h5[L]? = some (.lst [.ref l, w]) := get_old eL
  have n7 : mNew (.tup [.int sl, .int (ga.fdiv x.2)]) h6 = .val (.ref h6.length) h7 := rfl
  have n10 : mNew (.tup [.int v1, .int v2]) h9 = .val (.ref h9.length) h10 := rfl
  have n11 : mNew (.tup [.int u1, .int (u2 + 1)]) h10 = .val (.ref h10.length) h11 := rfl
  have n12 : mNew (.tup [.int (u1 + 1), .int u2]) h11 = .val (.ref h11.length) h12 := rfl
  have n13 : mNew (.lst LL) h12 = .val (.ref h12.length) h13 := rfl
  have st1 : (mAsg (mTup (mCons (mTup (mCons (mCall 1 m__law_small (mCons (mVar 0) mNil)) (mCons (mCall 1 m__law_small (mCons (mVar 0) mNil)) mNil))) (mCons (mCall 1 m__law_range (mCons (mVar 0) mNil)) mNil))) (mGs 2 (mGcons (mGn 1) (mGcons (mGs 2 (mGcons (mGn 2) (mGcons (mGn 3) mGnil))) mGnil)))) [some (.ref p), none, none, none, none, none, none, none, none, none, none, none] h = .nx [some (.ref p), some (.ref h2.length), some (.ref l), some w, none, none, none, none, none, none, none, none] h5 := by
    clear_value h3 h5
    simp only [mAsg, mTup_eq, mCons_eq, mCall_eq, mVar0, bind_val, mNil_eq, List.length_cons, List.length_nil, Nat.zero_add, Nat.reduceAdd, if_true, e1, e2, show (2 : Nat) ≤ 100000 from by decide, n3, e4, n5, andS_val]
    simp [mGs, mGcons, mGnil, t5, L5]
  have st2 : (mSet 4 (mCall 1 m__law_small (mCons (mVar 0) mNil))) [some (.ref p), some (.ref h2.length), some (.ref l), some w, none, none, none, none, none, none, none, none] h5 = .nx [some (.ref p), some (.ref h2.length), some (.ref l), some w, some (.int sl), none, none, none, none, none, none, none] h6 := by
    clear_value h3 h5
    simp [e6]
  have m1 := mul_sm (h := h6) (b1.sm (by decide)) (bx1.sm (by decide))
  have m2' := mul_sm (h := h6) (b2.sm (by decide)) (bx2.sm (by decide))
  have m3 := mul_sm (h := h6) (b6.sm (by decide)) (bx1.sm (by decide))
  have st3 : (mSet 5 (m2 mSub (m2 mAdd (m2 mMul (m2 mIx (mVar 1) (mC (.int 0))) (m2 mIx (mVar 2) (mC (.int 0)))) (m2 mMul (m2 mIx (mVar 1) (mC (.int 1))) (m2 mIx (mVar 2) (mC (.int 1))))) (m2 mMul (mVar 4) (m2 mIx (mVar 2) (mC (.int 0)))))) [some (.ref p), some (.ref h2.length), some (.ref l), some w, some (.int sl), none, none, none, none, none, none, none] h6 = .nx [some (.ref p), some (.ref h2.length), some (.ref l), some w, some (.int sl), some (.int ga), none, none, none, none, none, none] h6 := by
    simp [o6.ix0, o6.ix1, l6.ix0, l6.ix1, m1, m2', m3, ga]
  have dv : mDiv (.int ga) (.int x.2) h6 = .val (.int (ga.fdiv x.2)) h6 := mDiv_int (by omega) (by have := (bx2.sm (by decide)).log; omega)
  have st4 : (mSet 6 (mTup (mCons (mVar 4) (mCons (mB mInt (mCons (m2 mDiv (mVar 5) (m2 mIx (mVar 2) (mC (.int 1)))) mNil)) mNil)))) [some (.ref p), some (.ref h2.length), some (.ref l), some w, some (.int sl), some (.int ga), none, none, none, none, none, none] h6 = .nx (rEnv p h2.length l w sl ga h6.length none none none none none) h7 := by
    clear_value h7 ga
    simp only [mSet_eq, mTup_eq, mCons_eq, mVar0, mVarS, bind_val, mB_eq, m2_eq, mC_eq, l6.ix1, dv, mInt_int, mNil_eq, List.length_cons, List.length_nil, Nat.zero_add, Nat.reduceAdd, show (2 : Nat) ≤ 100000 from by decide, if_true, n7, andS_val, List.set]
  have st5 : (mFor (mSrc (mLst (mCons (mTup (mCons (mCall 1 m__law_small (mCons (mVar 0) mNil)) (mCons (mCall 1 m__law_small (mCons (mVar 0) mNil)) mNil))) (mCons (mVar 6) (mCons (mVar 1) (mCons (mTup (mCons (m2 mIx (mVar 1) (mC (.int 0))) (mCons (m2 mAdd (m2 mIx (mVar 1) (mC (.int 1))) (mC (.int 1))) mNil))) (mCons (mTup (mCons (m2 mAdd (m2 mIx (mVar 1) (mC (.int 0))) (mC (.int 1))) (mCons (m2 mIx (mVar 1) (mC (.int 1))) mNil))) mNil))))))) (mGn 7) bBody) (rEnv p h2.length l w sl ga h6.length none none none none none) h7 = .nx (rEnv p h2.length l w sl ga h6.length o' d' t' u' y') (h13 ++ z) := by
    have i10 : mIx (.ref h2.length) (.int 0) h10 = .val (.int u1) h10 := (o9.old _).ix0
    have i11 : mIx (.ref h2.length) (.int 1) h10 = .val (.int u2) h10 := (o9.old _).ix1
    have j10 : mIx (.ref h2.length) (.int 0) h11 = .val (.int u1) h11 := ((o9.old _).old _).ix0
    have j11 : mIx (.ref h2.length) (.int 1) h11 = .val (.int u2) h11 := ((o9.old _).old _).ix1
    have sc : mSrc (mLst (mCons (mTup (mCons (mCall 1 m__law_small (mCons (mVar 0) mNil)) (mCons (mCall 1 m__law_small (mCons (mVar 0) mNil)) mNil))) (mCons (mVar 6) (mCons (mVar 1) (mCons (mTup (mCons (m2 mIx (mVar 1) (mC (.int 0))) (mCons (m2 mAdd (m2 mIx (mVar 1) (mC (.int 1))) (mC (.int 1))) mNil))) (mCons (mTup (mCons (m2 mAdd (m2 mIx (mVar 1) (mC (.int 0))) (mC (.int 1))) (mCons (m2 mIx (mVar 1) (mC (.int 1))) mNil))) mNil)))))) (rEnv p h2.length l w sl ga h6.length none none none none none) h7 = .val ⟨LL.length + 1, nxSeq h12.length⟩ h13 := by
      clear_value h3 h5 h7 h10 h11 h12 h13 ga
      simp only [mSrc, rEnv, mLst_eq, mCons_eq, mTup_eq, mCall_eq, mVar0, mVarS, bind_val, mNil_eq, List.length_cons, List.length_nil, Nat.zero_add, Nat.reduceAdd, if_true, e8, e9, show (2 : Nat) ≤ 100000 from by decide, n10, m2_eq, mC_eq, i10, i11, mAdd_int, n11, j10, j11, n12, show (5 : Nat) ≤ 100000 from by decide]
      have n13' : mNew (.lst [.ref h9.length, .ref h6.length, .ref h2.length, .ref h10.length, .ref h11.length]) h12 = .val (.ref h12.length) h13 := n13
      rw [n13', bind_val]
      simp only [srcOf, eP]
    unfold mFor
    rw [sc, andS_val]
    exact f13
  unfold m__law_right
  rw [mDef_eq, mSeq_eq]
  have st0 : startW ["_law_state", "_law_one", "_law_low", "_law_high", "_law_slope", "_law_gap", "_law_crossing", "_law_other", "_law_due_here", "_law_told", "_law_turned", "_law_x"] [.ref p] = [some (.ref p), none, none, none, none, none, none, none, none, none, none, none] := rfl
  rw [st0, st1, thenS_nx, mSeq_eq, st2, thenS_nx, mSeq_eq, st3, thenS_nx, mSeq_eq, st4, thenS_nx, mSeq_eq, st5, thenS_nx]
  rfl
end K04
end
section
namespace K04
open PySem L2 VL
theorem six {p P : Nat} {r : Ws} (hr : ∀ (w : W) (g : Hv), mVar 3 (r.set 4 (some w)) g = .val (.ref p) g) : ∀ (k i : Nat) (h : Hv), i + k = 6 → Sta h p → P ≠ p → h[P]? = some (.lst []) →
    ∃ h', compM (nxR 0 6) 4 (mNotT (mT (mCall 1 m__law_right (mCons (mVar 3) mNil)))) (mVar 4) P (k + 1) i r h = .val (.ref P) h' ∧ Go p h h' ∧ h'[P]? = some (.lst [])
  | 0, i, h, hk, s, hp, e => by
    refine ⟨h, ?_, Go.refl s, e⟩
    unfold compM
    simp [nxR, show i = 6 by omega]
  | k + 1, i, h, hk, s, hp, e => by
    obtain ⟨h1, e1, g⟩ := right_ok s
    obtain ⟨h2, c, g2, e2⟩ := six hr k (i + 1) h1 (by omega) g.st hp (g.kp _ _ hp e)
    refine ⟨h2, ?_, g.trans g2, e2⟩
    unfold compM
    simp only [nxR, show i < 6 by omega, if_true, mNotT_eq, mT_eq, mCall_eq, mCons_eq, hr, bind_val, mNil_eq, List.length_cons, List.length_nil, Nat.zero_add, e1, asB_bl, Bool.not_true, Bool.false_eq_true, if_false]
    exact c
theorem toD_ints {n : Nat} {h : Hv} : ∀ ns : List Int, optAll (toD (n + 1) h) (ns.map W.int) = some (ns.map PyData.int)
  | [] => rfl
  | z :: ns => by
    have ih := toD_ints (n := n) (h := h) ns
    simp only [List.map_cons, optAll, ih]
    rfl
theorem lay_ints : ∀ ns : List Int, PyData.canLayAll0 (ns.map PyData.int) = true
  | [] => rfl
  | z :: ns => by
    have ih := lay_ints ns
    simp [PyData.canLayAll0, PyData.canLay0, ih]
theorem deep_ints : ∀ ns : List Int, PyData.depthAll (ns.map PyData.int) = 0
  | [] => rfl
  | z :: ns => by
    have ih := deep_ints ns
    simp [PyData.depthAll, PyData.depth, ih]
theorem shaped_ints (ns : List Int) : SeqAt.shaped (.list (ns.map PyData.int)) = true := by
  simp [SeqAt.shaped, PyData.canLay0, PyData.depth, lay_ints, deep_ints]
theorem toD_lst {h : Hv} {p : Nat} {ns : List Int} (e : h[p]? = some (.lst (ns.map W.int))) : toD dF h (.ref p) = some (.list (ns.map PyData.int)) := by
  obtain ⟨k, hk⟩ : ∃ k, dF = k + 2 := ⟨dF - 2, by decide⟩
  rw [hk]
  have ti := toD_ints (n := k) (h := h) ns
  simp only [toD, e]
  exact congrArg (Option.map PyData.list) ti
theorem toD_rol {h : Hv} {p : Nat} {ns : List Int} (e : h[p]? = some (.rol (ns.map W.int))) : toD dF h (.ref p) = some (.list (ns.map PyData.int)) := by
  obtain ⟨k, hk⟩ : ∃ k, dF = k + 2 := ⟨dF - 2, by decide⟩
  rw [hk]
  have ti := toD_ints (n := k) (h := h) ns
  simp only [toD, e]
  exact congrArg (Option.map PyData.list) ti
theorem eq_empty {h : Hv} {p q : Nat} {ns : List Int} (e1 : h[p]? = some (.rol (ns.map W.int))) (e2 : h[q]? = some (.lst [])) : mEq false (.ref p) (.ref q) h = .val (.bl ns.isEmpty) h := by
  have t1 := toD_rol e1
  have t2 := toD_lst (ns := []) e2
  have s0 := shaped_ints []
  cases ns with
  | nil => simp only [mEq, t1, t2, s0, Bool.and_self, if_true]; rfl
  | cons z ns => 
    have s1 := shaped_ints (z :: ns)
    simp only [mEq, t1, t2, s0, s1, Bool.and_self, if_true]
    rfl
theorem ne_empty {h : Hv} {p q : Nat} (e1 : h[p]? = some (.lst [])) (e2 : h[q]? = some (.lst [])) : mEq true (.ref p) (.ref q) h = .val (.bl false) h := by
  have t1 := toD_lst (ns := []) e1
  have t2 := toD_lst (ns := []) e2
  have s0 := shaped_ints []
  simp only [mEq, t1, t2, s0, Bool.and_self, if_true]
  rfl
theorem for_enum {P : Nat} {L : List W} {b : MS} (I : Ws → Hv → Prop) (keep : ∀ r h, I r h → h[P]? = some (.lst L)) (step : ∀ (i : Nat) w, L[i]? = some w → ∀ r h, I r h → ∃ r' h', b ((r.set 1 (some (.int i))).set 2 (some w)) (h ++ [.tup [.int i, w]]) = .nx r' h' ∧ I r' h') :
    ∀ (k i : Nat) (r : Ws) (h : Hv), i + k = L.length → I r h → ∃ r' h', VL.forM (nxEnum P) (mGs 2 (mGcons (mGn 1) (mGcons (mGn 2) mGnil))) b (k + 1) i r h = .nx r' h' ∧ I r' h'
  | 0, i, r, h, hk, hi => by
    refine ⟨r, h, ?_, hi⟩
    unfold VL.forM
    simp [nxEnum, keep r h hi, show L.length ≤ i by omega]
  | k + 1, i, r, h, hk, hi => by
    have lt : i < L.length := by omega
    obtain ⟨r1, h1, e1, i1⟩ := step i L[i] (List.getElem?_eq_getElem lt) r h hi
    obtain ⟨r2, h2, e2, i2⟩ := for_enum I keep step k (i + 1) r1 h1 (by omega) i1
    refine ⟨r2, h2, ?_, i2⟩
    unfold VL.forM
    have gt : mGs 2 (mGcons (mGn 1) (mGcons (mGn 2) mGnil)) (.ref h.length) r (h ++ [.tup [.int i, L[i]]]) = .nx ((r.set 1 (some (.int i))).set 2 (some L[i])) (h ++ [.tup [.int i, L[i]]]) := by
      simp [mGs, mGcons, mGnil]
    simp only [nxEnum, keep r h hi, List.getElem?_eq_getElem lt, gt, e1]
    exact e2
abbrev lBody : MS := (mSeq (mSet 3 (mLst (mCons (mCall 3 m__law_numbers (mCons (mVar 2) (mCons (m2 mAdd (mC (.int 400)) (mVar 1)) (mCons (m2 mMul (mLst (mCons (mC (.int 420)) mNil)) (mC (.int 120))) mNil)))) (mCons (mC (.int 0)) mNil))))
    (mIfS (mOrT (mT (m2 (mEq true) (mLc (mRng (mCons (mC (.int 6)) mNil)) 4 (mNotT (mT (mCall 1 m__law_right (mCons (mVar 3) mNil)))) (mVar 4)) (mLst mNil))) (mNotT (mT (mFresh m__law_odd_right)))) (mRet (mC (.bl false))) mNext))
abbrev lEnv (k c s t : Option W) : Ws := [some (.ref 0), k, c, s, t]
theorem lturn {h : Hv} {i P : Nat} {cell : Int} {s t : Option W} {L : List W} (hi : i ≤ 1000) (eP : h[P]? = some (.lst L)) :
    ∃ s' h', lBody (lEnv (some (.int i)) (some (.int cell)) s t) h = .nx (lEnv (some (.int i)) (some (.int cell)) s' t) h' ∧ h'[P]? = some (.lst L) := by
  have hP : P < h.length := (List.getElem?_eq_some_iff.mp eP).1
  let h1 : Hv := h ++ [.lst [.int 420]]
  let h2 : Hv := h1 ++ [.lst (List.replicate 120 (.int 420))]
  have m80 : mMul (.ref h.length) (.int 120) h1 = .val (.ref h1.length) h2 := by
    simp only [mMul, h1, get_last]
    rfl
  have ez : h2[h1.length]? = some (.lst (List.replicate 120 (.int 420))) := get_last
  obtain ⟨acc, en, ha⟩ := numbers_ok (cell := cell) (salt := 400 + (i : Int)) ez (by decide) (by omega) (by omega)
  let h3 : Hv := h2 ++ [.lst acc]
  let h4 : Hv := h3 ++ [.lst [.ref h2.length, .int 0]]
  have en' : m__law_numbers [.int cell, .int (400 + (i : Int)), .ref h1.length] h2 = .val (.ref h2.length) h3 := en
  have sta : Sta h4 h3.length := ⟨h2.length, 0, acc, get_last, by simp [h3], get_old get_last, ha⟩
  have eP4 : h4[P]? = some (.lst L) := get_old (get_old (get_old (get_old eP)))
  have ln4 : h4.length = h3.length + 1 := by simp [h4]
  have ln3 : h.length ≤ h3.length := by simp [h3, h2, h1]
  have hn4 : mNew (.lst [.ref h2.length, .int 0]) h3 = .val (.ref h3.length) h4 := rfl
  have hn1 : mNew (.lst [.int 420]) h = .val (.ref h.length) h1 := rfl
  have ne : h4.length ≠ h3.length := by omega
  obtain ⟨h5, e5, g5, k5⟩ := six (r := lEnv (some (.int i)) (some (.int cell)) (some (.ref h3.length)) t) (p := h3.length) (P := h4.length) (fun w g => rfl) 6 0 (h4 ++ [.lst []]) (by decide) (sta.more _) ne get_last
  have rn := mRng_of (m := 6) (g := h4) (r := lEnv (some (.int i)) (some (.int cell)) (some (.ref h3.length)) t) (f := mCons (mC (.int 6)) mNil) (by decide) rfl
  have lc : mLc (mRng (mCons (mC (.int 6)) mNil)) 4 (mNotT (mT (mCall 1 m__law_right (mCons (mVar 3) mNil)))) (mVar 4) (lEnv (some (.int i)) (some (.int cell)) (some (.ref h3.length)) t) h4 = .val (.ref h4.length) h5 := by
    unfold mLc
    rw [rn, bind_val]
    exact e5
  have k6 : (h5 ++ [O.lst []])[h4.length]? = some (.lst []) := get_old k5
  have n6 := ne_empty k6 get_last
  have eP5 : h5[P]? = some (.lst L) := g5.kp _ _ (by omega) (get_old eP4)
  refine ⟨some (.ref h3.length), h5 ++ [.lst []], ?_, get_old eP5⟩
  have st : (mSet 3 (mLst (mCons (mCall 3 m__law_numbers (mCons (mVar 2) (mCons (m2 mAdd (mC (.int 400)) (mVar 1)) (mCons (m2 mMul (mLst (mCons (mC (.int 420)) mNil)) (mC (.int 120))) mNil)))) (mCons (mC (.int 0)) mNil)))) (lEnv (some (.int i)) (some (.int cell)) s t) h = .nx (lEnv (some (.int i)) (some (.int cell)) (some (.ref h3.length)) t) h4 := by
    clear_value h1 h2 h3 h4
    simp only [lEnv, mSet_eq, mLst_eq, mCons_eq, mCall_eq, mVar0, mVarS, bind_val, m2_eq, mC_eq, mAdd_int, mNil_eq, List.length_cons, List.length_nil, Nat.zero_add, show (1 : Nat) ≤ 100000 from by decide, if_true, hn1, m80, Nat.reduceAdd, en', show (2 : Nat) ≤ 100000 from by decide, hn4, andS_val, List.set]
  unfold lBody
  rw [mSeq_eq, st, thenS_nx, mIfS_eq, mOrT_eq, mT_eq, m2_eq, lc, bind_val, mLst_eq, mNil_eq, bind_val]
  simp only [List.length_nil, Nat.zero_le, if_true, mNew_eq, bind_val, n6, asB_bl, Bool.false_eq_true, if_false, mNotT_eq, mT_eq, odd_ok, Bool.not_true, andS_val, mNext_eq]
abbrev lSrc : Ws → Hv → Res Src := (mEnum (mCons (m2 mAdd (mSl (mVar 0) (mPart none) (mPart (some (mC (.int 5))))) (m2 mMul (mLst (mCons (mC (.int 7)) mNil)) (mB mInt (mCons (m2 (mEq false) (mVar 0) (mLst mNil)) mNil)))) mNil))
theorem cut_sub {xs : List W} {lo hi : Option Int} : ∀ w ∈ cutW xs lo hi, w ∈ xs := fun w hw => List.mem_of_mem_drop (List.mem_of_mem_take hw)
theorem cut_len {xs : List W} {lo hi : Option Int} : (cutW xs lo hi).length ≤ xs.length := by
  unfold cutW
  simp only [List.length_take, List.length_drop]
  omega
theorem lsrc_ok (ns : List Int) (h1 : ns.length ≤ 63) : ∃ (L : List W) (P : Nat) (h : Hv), lSrc (lEnv none none none none) [.rol (ns.map W.int)] = .val ⟨L.length + 1, nxEnum P⟩ h ∧ h[P]? = some (.lst L) ∧ L.length ≤ 64 ∧ ∀ w ∈ L, IsI w := by
  have c1 := cut_sub (xs := ns.map W.int) (lo := none) (hi := some 5)
  have c2 := cut_len (xs := ns.map W.int) (lo := none) (hi := some 5)
  generalize hC : cutW (ns.map W.int) none (some 5) = C at c1 c2
  have ci : ∀ w ∈ C, IsI w := fun w hw => by
    obtain ⟨z, _, rfl⟩ := List.mem_map.mp (c1 w hw)
    exact ⟨z, rfl⟩
  rw [List.length_map] at c2
  have eqe := eq_empty (h := [.rol (ns.map W.int), .lst C, .lst [.int 7], .lst []]) (p := 0) (q := 3) (ns := ns) rfl rfl
  cases hb : ns.isEmpty with
  | true =>
    rw [hb] at eqe
    refine ⟨C ++ [.int 7], 5, [.rol (ns.map W.int), .lst C, .lst [.int 7], .lst [], .lst [.int 7], .lst (C ++ [.int 7])], ?_, rfl, by simp; omega, fun w hw => ?_⟩
    · simp [lSrc, lEnv, mEnum, mSl, mPart, mCut, hC, eqe, mMul, mAdd, srcE, show C.length + 1 ≤ 100000 by omega]
    · rcases List.mem_append.mp hw with q | q
      · exact ci w q
      · exact ⟨7, List.mem_singleton.mp q⟩
  | false =>
    rw [hb] at eqe
    refine ⟨C ++ [], 5, [.rol (ns.map W.int), .lst C, .lst [.int 7], .lst [], .lst [], .lst (C ++ [])], ?_, rfl, by simp; omega, fun w hw => ?_⟩
    · simp [lSrc, lEnv, mEnum, mSl, mPart, mCut, hC, eqe, mMul, mAdd, srcE, show C.length ≤ 100000 by omega]
    · rw [List.append_nil] at hw
      exact ci w hw
theorem cB {k : Nat} {i : Int} (h : i.natAbs < 2 ^ k) (hk : k ≤ 200) : Bn 200 i := Bn.mono (k := k) h hk
abbrev T2 (a b : Int) : Ws → Hv → Res W := mTup (mCons (mC (.int a)) (mCons (mC (.int b)) mNil))
theorem T2_eq {a b : Int} {r : Ws} {h : Hv} : T2 a b r h = .val (.ref h.length) (h ++ [.tup [.int a, .int b]]) := by simp [T2]
theorem ow1 {r : Ws} {h : Hv} : ∃ h', (mCall 4 m_order_within (mCons (T2 2 1) (mCons (T2 0 4) (mCons (T2 0 1) (mCons (T2 3 2) mNil))))) r h = .val (.int (-1)) h' := by
  let h1 : Hv := h ++ [.tup [.int 2, .int 1]]
  let h2 : Hv := h1 ++ [.tup [.int 0, .int 4]]
  let h3 : Hv := h2 ++ [.tup [.int 0, .int 1]]
  let h4 : Hv := h3 ++ [.tup [.int 3, .int 2]]
  have n1 : T2 2 1 r h = .val (.ref h.length) h1 := T2_eq
  have n2 : T2 0 4 r h1 = .val (.ref h1.length) h2 := T2_eq
  have n3 : T2 0 1 r h2 = .val (.ref h2.length) h3 := T2_eq
  have n4 : T2 3 2 r h3 = .val (.ref h3.length) h4 := T2_eq
  have hp : HiP h4 (0, 1) (.ref h3.length) (some (3, 2)) := ⟨_, rfl, Pr.new, ⟨by decide, by decide⟩, cB (k := 4) (by decide) (by decide), cB (k := 4) (by decide) (by decide), by decide⟩
  obtain ⟨t, et⟩ := within_eq (h := h4) (p := h.length) (q := h1.length) (l := h2.length) (w := .ref h3.length) (a1 := 2) (b1 := 1) (a2 := 0) (b2 := 4) (x := (0, 1)) (hi := some (3, 2)) (((Pr.old Pr.new _).old _).old _) ((Pr.old Pr.new _).old _) (Pr.old Pr.new _) ⟨by decide, by decide⟩ hp (cB (k := 4) (by decide) (by decide)) (cB (k := 4) (by decide) (by decide)) (cB (k := 4) (by decide) (by decide)) (cB (k := 4) (by decide) (by decide)) (cB (k := 4) (by decide) (by decide)) (cB (k := 4) (by decide) (by decide))
  have v : dueW (sg ((2 - 0) * (0 : Int) + (1 - 4) * 1)) (lastS (2 - 0) (1 - 4) (some (3, 2))) = .int (-1) := by decide
  refine ⟨h4 ++ t, ?_⟩
  have et' : m_order_within [.ref h.length, .ref h1.length, .ref h2.length, .ref h3.length] h4 = .val (.int (-1)) (h4 ++ t) := et.trans (by rw [← v])
  clear_value h1 h2 h3 h4
  simp only [mCall_eq, mCons_eq, n1, n2, n3, n4, bind_val, mNil_eq, List.length_cons, List.length_nil, Nat.zero_add, Nat.reduceAdd, if_true, et']
theorem ow2 {r : Ws} {h : Hv} {a b : Int} {W0 : W} (hb : 0 < b) (ho : Int.gcd a b = 1) (ba : Bn 200 a) (bb : Bn 200 b) (v : dueW (sg (2 * a + -3 * b)) 1 = W0) : ∃ h', (mCall 4 m_order_within (mCons (T2 2 1) (mCons (T2 0 4) (mCons (T2 a b) (mCons (mC .non) mNil))))) r h = .val W0 h' := by
  let h1 : Hv := h ++ [.tup [.int 2, .int 1]]
  let h2 : Hv := h1 ++ [.tup [.int 0, .int 4]]
  let h3 : Hv := h2 ++ [.tup [.int a, .int b]]
  have n1 : T2 2 1 r h = .val (.ref h.length) h1 := T2_eq
  have n2 : T2 0 4 r h1 = .val (.ref h1.length) h2 := T2_eq
  have n3 : T2 a b r h2 = .val (.ref h2.length) h3 := T2_eq
  have hp : HiP h3 (a, b) .non none := rfl
  obtain ⟨t, et⟩ := within_eq (h := h3) (p := h.length) (q := h1.length) (l := h2.length) (w := .non) (a1 := 2) (b1 := 1) (a2 := 0) (b2 := 4) (x := (a, b)) (hi := none) ((Pr.old Pr.new _).old _) (Pr.old Pr.new _) Pr.new ⟨hb, ho⟩ hp (cB (k := 4) (by decide) (by decide)) (cB (k := 4) (by decide) (by decide)) (cB (k := 4) (by decide) (by decide)) (cB (k := 4) (by decide) (by decide)) ba bb
  refine ⟨h3 ++ t, ?_⟩
  have et' : m_order_within [.ref h.length, .ref h1.length, .ref h2.length, .non] h3 = .val W0 (h3 ++ t) := et.trans (by rw [← v]; rfl)
  clear_value h1 h2 h3
  simp only [mCall_eq, mCons_eq, n1, n2, n3, mC_eq, bind_val, mNil_eq, List.length_cons, List.length_nil, Nat.zero_add, Nat.reduceAdd, if_true, et']
theorem lend {r : Ws} {h : Hv} : ∃ h', (mSeq (mIfS (mOrT (mT (m2 (mEq true) (mCall 4 m_order_within (mCons (T2 2 1) (mCons (T2 0 4) (mCons (T2 0 1) (mCons (T2 3 2) mNil))))) (m1 mNeg (mC (.int 1))))) (mT (m2 (mEq true) (mCall 4 m_order_within (mCons (T2 2 1) (mCons (T2 0 4) (mCons (T2 3 2) (mCons (mC .non) mNil))))) (mC (.int 1))))) (mRet (mC (.bl false))) mNext)
    (mRet (m2 (mIs false) (mCall 4 m_order_within (mCons (T2 2 1) (mCons (T2 0 4) (mCons (T2 1 1) (mCons (mC .non) mNil))))) (mC .non)))) r h = .rt (.bl true) h' := by
  obtain ⟨h1, e1⟩ := ow1 (r := r) (h := h)
  obtain ⟨h2, e2⟩ := ow2 (r := r) (h := h1) (a := 3) (b := 2) (by decide) (by decide) (cB (k := 4) (by decide) (by decide)) (cB (k := 4) (by decide) (by decide)) (W0 := .int 1) (by decide)
  obtain ⟨h3, e3⟩ := ow2 (r := r) (h := h2) (a := 1) (b := 1) (by decide) (by decide) (cB (k := 4) (by decide) (by decide)) (cB (k := 4) (by decide) (by decide)) (W0 := .non) (by decide)
  refine ⟨h3, ?_⟩
  have q1 : mEq true (.int (-1)) (.int (-1)) h1 = .val (.bl false) h1 := by simp
  have q2 : mEq true (.int 1) (.int 1) h2 = .val (.bl false) h2 := by simp
  generalize (mCall 4 m_order_within (mCons (T2 2 1) (mCons (T2 0 4) (mCons (T2 0 1) (mCons (T2 3 2) mNil))))) = F1 at e1 ⊢
  generalize (mCall 4 m_order_within (mCons (T2 2 1) (mCons (T2 0 4) (mCons (T2 3 2) (mCons (mC .non) mNil))))) = F2 at e2 ⊢
  generalize (mCall 4 m_order_within (mCons (T2 2 1) (mCons (T2 0 4) (mCons (T2 1 1) (mCons (mC .non) mNil))))) = F3 at e3 ⊢
  simp only [mSeq_eq, mIfS_eq, mOrT_eq, mT_eq, m2_eq, e1, e2, e3, bind_val, m1_eq, mC_eq, mNeg_int, q1, q2, asB_bl, Bool.false_eq_true, if_false, andS_val, mNext_eq, thenS_nx, mRet_eq, is_non_non, Bool.not_false]
theorem true_ (ns : List Int) (h1 : ns.length ≤ 63) (h2 : ∀ z ∈ ns, Builtin.Int.intBits z ≤ 1048576) : ∃ h', m_law [.ref 0] [.rol (ns.map W.int)] = .val (.bl true) h' := by
  obtain ⟨L, P, h, e, eP, ll, li⟩ := lsrc_ok ns h1
  have lp := for_enum (P := P) (L := L) (b := lBody) (fun r g => ∃ k c s t, r = lEnv k c s t ∧ g[P]? = some (.lst L)) ?_ ?_
  · obtain ⟨r', h', e1, k, c, s, t, rfl, _⟩ := lp L.length 0 (lEnv none none none none) h (by omega) ⟨_, _, _, _, rfl, eP⟩
    obtain ⟨h9, e9⟩ := lend (h := h') (r := lEnv k c s t)
    refine ⟨h9, ?_⟩
    unfold m_law
    rw [mDef_eq]
    have e0 : startW ["_law_script", "_law_k", "_law_cell", "_law_state", "_law_turn"] [.ref 0] = lEnv none none none none := rfl
    have fe : mFor lSrc (mGs 2 (mGcons (mGn 1) (mGcons (mGn 2) mGnil))) lBody (lEnv none none none none) [.rol (ns.map W.int)] = .nx (lEnv k c s t) h' := by
      unfold mFor
      rw [e, andS_val]
      exact e1
    rw [e0, mSeq_eq, fe, thenS_nx]
    show endS _ = _
    rw [e9]
    rfl
  · rintro r g ⟨k, c, s, t, rfl, q⟩
    exact q
  · rintro i w ew r g ⟨k, c, s, t, rfl, q⟩
    have hi : i < L.length := (List.getElem?_eq_some_iff.mp ew).1
    obtain ⟨cell, rfl⟩ := li w (List.mem_of_getElem? ew)
    have se : ((lEnv k c s t).set 1 (some (.int i))).set 2 (some (.int cell)) = lEnv (some (.int i)) (some (.int cell)) s t := rfl
    rw [se]
    obtain ⟨s', h', e1, q1⟩ := lturn (i := i) (P := P) (cell := cell) (s := s) (t := t) (by omega) (get_old (t := [.tup [.int i, .int cell]]) q)
    exact ⟨_, _, e1, _, _, s', t, rfl, q1⟩
end K04
end
section
open PySem PyProof.Rows PySem.W

set_option maxRecDepth 110000 in
set_option maxHeartbeats 0 in
theorem PySem.Challenge.cw_whatiftimes_k04_order_of_lines_holds : PySem.Challenge.rw_whatiftimes_k04_order_of_lines.Holds := by
  w_on; o_law; km_head; (case hw => w_witness2)
  k_fill
  refine VL.walk_V (l := PySem.Challenge.rw_whatiftimes_k04_order_of_lines) (n := 63) (k := 13) rfl (by decide) rfl ⟨rfl, by decide, by decide⟩ (fun w h Y => PySem.W.km_in_of Y) ?F
  case F =>
    intro w mg fa h Y KX G hmg
    refine' K04.mk KX G hmg K04.true_ ?a_xiswhole ?l_xiswhole ?c_xiswhole1 ?k_xiswhole ?a_xiswholepair ?l_xiswholepair ?c_xiswholepair1 ?k_xiswholepair ?a_xsignof ?l_xsignof ?c_xsignof1 ?k_xsignof ?a_xcommondivisor ?l_xcommondivisor ?c_xcommondivisor1 ?k_xcommondivisor ?a_xisfraction ?l_xisfraction ?c_xisfraction1 ?k_xisfraction ?a_xrequirefraction ?l_xrequirefraction ?c_xrequirefraction1 ?k_xrequirefraction ?a_xfraction ?l_xfraction ?c_xfraction1 ?k_xfraction ?a_xorderof ?l_xorderof ?c_xorderof1 ?k_xorderof ?a_xcompared ?l_xcompared ?c_xcompared1 ?k_xcompared ?a_xisline ?l_xisline ?c_xisline1 ?k_xisline ?a_xrequireline ?l_xrequireline ?c_xrequireline1 ?k_xrequireline ?a_xvalueat ?l_xvalueat ?c_xvalueat1 ?k_xvalueat ?a_xsignat ?l_xsignat ?c_xsignat1 ?k_xsignat ?a_xsigntowards ?l_xsigntowards ?c_xsigntowards1 ?k_xsigntowards ?a_xorderwithin ?l_xorderwithin ?c_xorderwithin1 ?k_xorderwithin ?a_xlawnumbers ?l_xlawnumbers ?c_xlawnumbers1 ?k_xlawnumbers ?a_xlawdraw ?l_xlawdraw ?c_xlawdraw1 ?k_xlawdraw ?a_xlawfraction ?l_xlawfraction ?c_xlawfraction1 ?k_xlawfraction ?a_xlawsmall ?l_xlawsmall ?c_xlawsmall1 ?k_xlawsmall ?a_xlawsign ?l_xlawsign ?c_xlawsign1 ?k_xlawsign ?a_xlawdue ?l_xlawdue ?c_xlawdue1 ?k_xlawdue ?a_xlawrange ?l_xlawrange ?c_xlawrange1 ?k_xlawrange ?a_xlawinner ?l_xlawinner ?c_xlawinner1 ?k_xlawinner ?a_xlawheard ?l_xlawheard ?c_xlawheard1 ?k_xlawheard ?a_xlawright ?l_xlawright ?c_xlawright1 ?k_xlawright ?a_xlawoddright ?l_xlawoddright ?c_xlawoddright1 ?k_xlawoddright ?a_xlaw ?l_xlaw ?c_xlaw1 ?k_xlaw ?aC_InvalidNumber ?xL_InvalidNumber ?sa_InvalidNumber ?ga_InvalidNumber ?gg_InvalidNumber ?nb_InvalidNumber ?a1_InvalidNumber ?t1_InvalidNumber ?l1_InvalidNumber ?c1_InvalidNumber ?k1_InvalidNumber ?kC_InvalidNumber ?eC_InvalidNumber ?tC_InvalidNumber ?hC_InvalidNumber ?hcl_InvalidNumber ?hmo_InvalidNumber ?aC_InvalidRange ?xL_InvalidRange ?sa_InvalidRange ?ga_InvalidRange ?gg_InvalidRange ?nb_InvalidRange ?a1_InvalidRange ?t1_InvalidRange ?l1_InvalidRange ?c1_InvalidRange ?k1_InvalidRange ?kC_InvalidRange ?eC_InvalidRange ?tC_InvalidRange ?hC_InvalidRange ?hcl_InvalidRange ?hmo_InvalidRange ?sC_InvalidNumber_InvalidNumber ?sC_InvalidNumber_InvalidRange ?sC_InvalidRange_InvalidNumber ?sC_InvalidRange_InvalidRange ?hgs ?htk ?mTimesError ?ki_InvalidRange_TimesError ?z_abs ?z_bool ?z_enumerate ?z_int ?z_isinstance ?z_len ?z_max ?z_range ?z_repr ?z_sorted ?z_tuple (PySem.W.km_tabs_of Y _ List.mem_cons_self) ?nTxlawoddright ?hHxlawoddright ?Kl
    (case a_xiswhole => k_is)
    (case l_xiswhole => k_is)
    (case c_xiswhole1 => k_is)
    (case k_xiswhole => k_is)
    (case a_xiswholepair => k_is)
    (case l_xiswholepair => k_is)
    (case c_xiswholepair1 => k_is)
    (case k_xiswholepair => k_is)
    (case a_xsignof => k_is)
    (case l_xsignof => k_is)
    (case c_xsignof1 => k_is)
    (case k_xsignof => k_is)
    (case a_xcommondivisor => k_is)
    (case l_xcommondivisor => k_is)
    (case c_xcommondivisor1 => k_is)
    (case k_xcommondivisor => k_is)
    (case a_xisfraction => k_is)
    (case l_xisfraction => k_is)
    (case c_xisfraction1 => k_is)
    (case k_xisfraction => k_is)
    (case a_xrequirefraction => k_is)
    (case l_xrequirefraction => k_is)
    (case c_xrequirefraction1 => k_is)
    (case k_xrequirefraction => k_is)
    (case a_xfraction => k_is)
    (case l_xfraction => k_is)
    (case c_xfraction1 => k_is)
    (case k_xfraction => k_is)
    (case a_xorderof => k_is)
    (case l_xorderof => k_is)
    (case c_xorderof1 => k_is)
    (case k_xorderof => k_is)
    (case a_xcompared => k_is)
    (case l_xcompared => k_is)
    (case c_xcompared1 => k_is)
    (case k_xcompared => k_is)
    (case a_xisline => k_is)
    (case l_xisline => k_is)
    (case c_xisline1 => k_is)
    (case k_xisline => k_is)
    (case a_xrequireline => k_is)
    (case l_xrequireline => k_is)
    (case c_xrequireline1 => k_is)
    (case k_xrequireline => k_is)
    (case a_xvalueat => k_is)
    (case l_xvalueat => k_is)
    (case c_xvalueat1 => k_is)
    (case k_xvalueat => k_is)
    (case a_xsignat => k_is)
    (case l_xsignat => k_is)
    (case c_xsignat1 => k_is)
    (case k_xsignat => k_is)
    (case a_xsigntowards => k_is)
    (case l_xsigntowards => k_is)
    (case c_xsigntowards1 => k_is)
    (case k_xsigntowards => k_is)
    (case a_xorderwithin => k_is)
    (case l_xorderwithin => k_is)
    (case c_xorderwithin1 => k_is)
    (case k_xorderwithin => k_is)
    (case a_xlawnumbers => k_is)
    (case l_xlawnumbers => k_is)
    (case c_xlawnumbers1 => k_is)
    (case k_xlawnumbers => k_is)
    (case a_xlawdraw => k_is)
    (case l_xlawdraw => k_is)
    (case c_xlawdraw1 => k_is)
    (case k_xlawdraw => k_is)
    (case a_xlawfraction => k_is)
    (case l_xlawfraction => k_is)
    (case c_xlawfraction1 => k_is)
    (case k_xlawfraction => k_is)
    (case a_xlawsmall => k_is)
    (case l_xlawsmall => k_is)
    (case c_xlawsmall1 => k_is)
    (case k_xlawsmall => k_is)
    (case a_xlawsign => k_is)
    (case l_xlawsign => k_is)
    (case c_xlawsign1 => k_is)
    (case k_xlawsign => k_is)
    (case a_xlawdue => k_is)
    (case l_xlawdue => k_is)
    (case c_xlawdue1 => k_is)
    (case k_xlawdue => k_is)
    (case a_xlawrange => k_is)
    (case l_xlawrange => k_is)
    (case c_xlawrange1 => k_is)
    (case k_xlawrange => k_is)
    (case a_xlawinner => k_is)
    (case l_xlawinner => k_is)
    (case c_xlawinner1 => k_is)
    (case k_xlawinner => k_is)
    (case a_xlawheard => k_is)
    (case l_xlawheard => k_is)
    (case c_xlawheard1 => k_is)
    (case k_xlawheard => k_is)
    (case a_xlawright => k_is)
    (case l_xlawright => k_is)
    (case c_xlawright1 => k_is)
    (case k_xlawright => k_is)
    (case a_xlawoddright => k_is)
    (case l_xlawoddright => k_is)
    (case c_xlawoddright1 => k_is)
    (case k_xlawoddright => k_is)
    (case a_xlaw => k_is)
    (case l_xlaw => k_is)
    (case c_xlaw1 => k_is)
    (case k_xlaw => k_is)
    (case aC_InvalidNumber => k_is)
    (case xL_InvalidNumber => k_is)
    (case sa_InvalidNumber => k_is)
    (case ga_InvalidNumber => k_is)
    (case gg_InvalidNumber => k_is)
    (case nb_InvalidNumber => k_is)
    (case a1_InvalidNumber => k_is)
    (case t1_InvalidNumber => k_is)
    (case l1_InvalidNumber => k_is)
    (case c1_InvalidNumber => k_is)
    (case k1_InvalidNumber => k_is)
    (case kC_InvalidNumber => k_is)
    (case eC_InvalidNumber => k_is)
    (case tC_InvalidNumber => k_is)
    (case hC_InvalidNumber => k_is)
    (case hcl_InvalidNumber => k_is)
    (case hmo_InvalidNumber => k_is)
    (case aC_InvalidRange => k_is)
    (case xL_InvalidRange => k_is)
    (case sa_InvalidRange => k_is)
    (case ga_InvalidRange => k_is)
    (case gg_InvalidRange => k_is)
    (case nb_InvalidRange => k_is)
    (case a1_InvalidRange => k_is)
    (case t1_InvalidRange => k_is)
    (case l1_InvalidRange => k_is)
    (case c1_InvalidRange => k_is)
    (case k1_InvalidRange => k_is)
    (case kC_InvalidRange => k_is)
    (case eC_InvalidRange => k_is)
    (case tC_InvalidRange => k_is)
    (case hC_InvalidRange => k_is)
    (case hcl_InvalidRange => k_is)
    (case hmo_InvalidRange => k_is)
    (case sC_InvalidNumber_InvalidNumber => k_is)
    (case sC_InvalidNumber_InvalidRange => k_is)
    (case sC_InvalidRange_InvalidNumber => k_is)
    (case sC_InvalidRange_InvalidRange => k_is)
    (case hgs => k_is)
    (case htk => k_is)
    (case mTimesError => k_is)
    (case ki_InvalidRange_TimesError => kernel_rfl)
    (case z_abs => k_is)
    (case z_bool => k_is)
    (case z_enumerate => k_is)
    (case z_int => k_is)
    (case z_isinstance => k_is)
    (case z_len => k_is)
    (case z_max => k_is)
    (case z_range => k_is)
    (case z_repr => k_is)
    (case z_sorted => k_is)
    (case z_tuple => k_is)
    (case nTxlawoddright => kernel_rfl)
    (case hHxlawoddright => kernel_rfl)
    (case Kl => kernel_rfl)
end
