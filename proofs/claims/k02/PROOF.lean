import PyProof.Rows.All
import Wide.All
import OpenK.AllK
import Wide.FinOn
import HandS.ForMost
import HandS.IsInst
import HandS.Deep
import HandS.RaiseMore
import HandS.NoneIn
import PyProof.ReprRoads
import HandS.Style
import PySem.Challenge.RW_fourstones_k02_what_any_value_is
set_option Elab.async false
set_option linter.all false
set_option maxRecDepth 100000
set_option maxHeartbeats 4000000
/-! DL: data without addresses over the hand layer. -/
namespace DL
open PySem L2

/-- data -/
inductive D where
  | non | bl (b : Bool) | int (i : Int) | str (x : Str)
  | tup (xs : List D) | lst (xs : List D)
  | obj (C : Addr) (fs : List (Str × D))
  | dT (kvs : List (List Key × D))
  | dK (kvs : List (Key × D))
  | raw (v : V)
  /-- the well of draws -/
  | paw
  /-- what a slot owns, looked up when it is used -/
  | slot (i : Nat)

/-- a world: what changes (and so is no data), the heap, the well of draws -/
structure Wd where
  M : Addr → Prop
  H : Hp
  pa : Addr

/-- a tuple: tracked, or of the written part -/
def TupV (K : PySem.W.Frag) (H : Hp) (a : Addr) (xs : List V) : Prop := H a = some (.tup xs) ∨
  ∃ (o : Obj) (its : Array Value) (n : Nat), K.lookup a = some o ∧ o.cls = .type "tuple" ∧ o.data = .seq its n ∧ its.size ≤ sizeLine ∧ Vals xs its.toList
theorem TupV.sq {K : PySem.W.Frag} {H : Hp} {a : Addr} {xs : List V} (h : TupV K H a xs) : SqT K H a xs := h.imp (fun z => .inl z) id
mutual
inductive Rep (K : PySem.W.Frag) (W : Wd) : V → D → Prop
  | non : Rep K W .non .non
  | bl (b : Bool) : Rep K W (.bl b) (.bl b)
  | int (i : Int) : Rep K W (.int i) (.int i)
  | str (x : Str) : Rep K W (.str x) (.str x)
  | tup {a : Addr} {vs : List V} {ds : List D} : TupV K W.H a vs → Reps K W vs ds → Rep K W (.ref a) (.tup ds)
  | lst {a : Addr} {vs : List V} {ds : List D} : W.H a = some (.lst vs) → ¬ W.M a → Reps K W vs ds → Rep K W (.ref a) (.lst ds)
  | obj {a C dx : Addr} {vs : List (Str × V)} {fs : List (Str × D)} : W.H a = some (.ins C dx vs) → ¬ W.M a → vs.map (·.1) = fs.map (·.1) → Reps K W (vs.map (·.2)) (fs.map (·.2)) → Rep K W (.ref a) (.obj C fs)
  | dT {a : Addr} {vs : List (List Key × V)} {kvs : List (List Key × D)} : W.H a = some (.dT vs) → ¬ W.M a → vs.map (·.1) = kvs.map (·.1) → Reps K W (vs.map (·.2)) (kvs.map (·.2)) → Rep K W (.ref a) (.dT kvs)
  | dK {a : Addr} {vs : List (Key × V)} {kvs : List (Key × D)} : W.H a = some (.dK vs) → ¬ W.M a → vs.map (·.1) = kvs.map (·.1) → Reps K W (vs.map (·.2)) (kvs.map (·.2)) → Rep K W (.ref a) (.dK kvs)
  | raw (v : V) : Rep K W v (.raw v)
  | paw : Rep K W (.ref W.pa) .paw
inductive Reps (K : PySem.W.Frag) (W : Wd) : List V → List D → Prop
  | nil : Reps K W [] []
  | cons {v : V} {d : D} {vs : List V} {ds : List D} : Rep K W v d → Reps K W vs ds → Reps K W (v :: vs) (d :: ds)
end

/-- what never changes by its kind -/
def Fix : HO → Prop
  | .tup _ => True
  | .frz _ _ => True
  | _ => False
/-- later worlds -/
structure Pr (W W' : Wd) : Prop where
  at_ : ∀ a o, W.H a = some o → (¬ W.M a ∨ Fix o) → W'.H a = some o ∧ (¬ W.M a → ¬ W'.M a)
  pa : W'.pa = W.pa
theorem Pr.refl (W : Wd) : Pr W W := ⟨fun _ _ h _ => ⟨h, id⟩, rfl⟩
theorem Pr.trans {W W1 W2 : Wd} (a : Pr W W1) (b : Pr W1 W2) : Pr W W2 := ⟨fun x o h c => by
  obtain ⟨h1, m1⟩ := a.at_ x o h c
  have c' : ¬ W1.M x ∨ Fix o := c.imp m1 id
  obtain ⟨h2, m2⟩ := b.at_ x o h1 c'
  exact ⟨h2, fun n => m2 (m1 n)⟩, b.pa.trans a.pa⟩
theorem Pr.sqT {K : PySem.W.Frag} {W W' : Wd} (p : Pr W W') {a : Addr} {xs : List V} (h : TupV K W.H a xs) : TupV K W'.H a xs := h.imp (fun z => (p.at_ a _ z (.inr (show Fix (.tup xs) from trivial))).1) id
mutual
theorem Rep.mono {K : PySem.W.Frag} {W W' : Wd} (p : Pr W W') : ∀ {v : V} {d : D}, Rep K W v d → Rep K W' v d
  | _, _, .non => .non
  | _, _, .bl b => .bl b
  | _, _, .int i => .int i
  | _, _, .str x => .str x
  | _, _, .tup h r => .tup (p.sqT h) (Reps.mono p r)
  | _, _, .lst h n r => .lst (p.at_ _ _ h (.inl n)).1 ((p.at_ _ _ h (.inl n)).2 n) (Reps.mono p r)
  | _, _, .obj h n e r => .obj (p.at_ _ _ h (.inl n)).1 ((p.at_ _ _ h (.inl n)).2 n) e (Reps.mono p r)
  | _, _, .dT h n e r => .dT (p.at_ _ _ h (.inl n)).1 ((p.at_ _ _ h (.inl n)).2 n) e (Reps.mono p r)
  | _, _, .dK h n e r => .dK (p.at_ _ _ h (.inl n)).1 ((p.at_ _ _ h (.inl n)).2 n) e (Reps.mono p r)
  | _, _, .raw v => .raw v
  | _, _, .paw => p.pa ▸ .paw
theorem Reps.mono {K : PySem.W.Frag} {W W' : Wd} (p : Pr W W') : ∀ {vs : List V} {ds : List D}, Reps K W vs ds → Reps K W' vs ds
  | _, _, .nil => .nil
  | _, _, .cons a r => .cons (Rep.mono p a) (Reps.mono p r)
end
section
variable {K : PySem.W.Frag} {W : Wd}
theorem Reps.length : ∀ {vs : List V} {ds : List D}, Reps K W vs ds → vs.length = ds.length
  | _, _, .nil => rfl
  | _, _, .cons _ r => congrArg Nat.succ r.length
theorem Reps.append : ∀ {vs ws : List V} {ds es : List D}, Reps K W vs ds → Reps K W ws es → Reps K W (vs ++ ws) (ds ++ es)
  | _, _, _, _, .nil, s => s
  | _, _, _, _, .cons a r, s => .cons a (r.append s)
theorem Reps.get : ∀ {vs : List V} {ds : List D} {i : Nat} {d : D}, Reps K W vs ds → ds[i]? = some d → ∃ v, vs[i]? = some v ∧ Rep K W v d
  | _, _, _, _, .nil, h => by simp at h
  | _, _, 0, _, .cons (v := v) a _, h => by simp at h; subst h; exact ⟨v, rfl, a⟩
  | _, _, i + 1, d, .cons _ r, h => by
    obtain ⟨v, h1, h2⟩ := r.get (i := i) (d := d) (by simpa using h)
    exact ⟨v, by simpa using h1, h2⟩
theorem Reps.get' : ∀ {vs : List V} {ds : List D} {i : Nat} {v : V}, Reps K W vs ds → vs[i]? = some v → ∃ d, ds[i]? = some d ∧ Rep K W v d
  | _, _, _, _, .nil, h => by simp at h
  | _, _, 0, _, .cons (d := d) a _, h => by simp at h; subst h; exact ⟨d, rfl, a⟩
  | _, _, i + 1, d, .cons _ r, h => by
    obtain ⟨v, h1, h2⟩ := r.get' (i := i) (v := d) (by simpa using h)
    exact ⟨v, by simpa using h1, h2⟩
theorem Reps.drop : ∀ {vs : List V} {ds : List D} (n : Nat), Reps K W vs ds → Reps K W (vs.drop n) (ds.drop n)
  | _, _, 0, r => r
  | _, _, _ + 1, .nil => .nil
  | _, _, n + 1, .cons _ r => r.drop n
theorem Reps.take : ∀ {vs : List V} {ds : List D} (n : Nat), Reps K W vs ds → Reps K W (vs.take n) (ds.take n)
  | _, _, 0, _ => .nil
  | _, _, _ + 1, .nil => .nil
  | _, _, n + 1, .cons a r => .cons a (r.take n)
theorem Reps.set {v : V} {d : D} (a : Rep K W v d) : ∀ {vs : List V} {ds : List D} (i : Nat), Reps K W vs ds → Reps K W (vs.set i v) (ds.set i d)
  | _, _, _, .nil => .nil
  | _, _, 0, .cons _ t => .cons a t
  | _, _, i + 1, .cons q t => .cons q (Reps.set a i t)
theorem Reps.eraseIdx : ∀ {vs : List V} {ds : List D} (i : Nat), Reps K W vs ds → Reps K W (vs.eraseIdx i) (ds.eraseIdx i)
  | _, _, _, .nil => .nil
  | _, _, 0, .cons _ t => t
  | _, _, i + 1, .cons q t => .cons q (Reps.eraseIdx i t)
theorem Reps.dropLast {vs : List V} {ds : List D} (r : Reps K W vs ds) : Reps K W vs.dropLast ds.dropLast := by
  rw [List.dropLast_eq_take, List.dropLast_eq_take, r.length]
  exact r.take _
theorem Reps.reverse : ∀ {vs : List V} {ds : List D}, Reps K W vs ds → Reps K W vs.reverse ds.reverse
  | _, _, .nil => .nil
  | _, _, .cons a r => by
    rw [List.reverse_cons, List.reverse_cons]
    exact r.reverse.append (.cons a .nil)
theorem reps_ints : ∀ {vs : List V} {ns : List Int}, Reps K W vs (ns.map D.int) → vs = ns.map V.int
  | _, [], .nil => rfl
  | _, n :: ns, .cons a r => by
    cases a
    rw [reps_ints r]
    rfl
theorem ints_reps : ∀ {ns : List Int}, Reps K W (ns.map V.int) (ns.map D.int)
  | [] => .nil
  | n :: _ => .cons (.int n) ints_reps
end

/-! ### the state of a def: its slots, its draws -/
inductive EV where
  | un
  | fz (d : D)
  | own (xs : List D)
  | ownT (kvs : List (List Key × D))
  | ownK (kvs : List (Key × D))
  | ownI (C : Addr) (fs : List (Str × D))
structure DS where
  sl : List EV
  bud : Nat
def EV.isOwn : EV → Bool
  | .un => false
  | .fz _ => false
  | _ => true

/-- the fixed things of a def's run: mut, what stood at the entry and may change -/
structure C0 where
  M0 : Addr → Prop
  H0 : Hp
  pa : Addr
  pl : Addr
  mo : Addr → Prop

/-- the well of draws -/
def PawOk (K : PySem.W.Frag) (pa pl : Addr) (bud : Nat) (H : Hp) : Prop :=
  ∃ (t r : Int) (ns : List Int), H pa = some (.lst [.ref pl, .int t, .int r]) ∧ H pl = some (.lst (ns.map V.int)) ∧ ns.length ≤ 63 ∧ 0 ≤ t ∧ t + bud ≤ 1000000 ∧ 0 ≤ r
theorem PawOk.less {K : PySem.W.Frag} {pa pl : Addr} {b b' : Nat} {H : Hp} (p : PawOk K pa pl b H) (h : b' ≤ b) : PawOk K pa pl b' H := by
  obtain ⟨t, r, ns, h1, h2, h3, h4, h5, h6⟩ := p
  exact ⟨t, r, ns, h1, h2, h3, h4, by omega, h6⟩
theorem PawOk.same {K : PySem.W.Frag} {pa pl : Addr} {b : Nat} {H H' : Hp} (p : PawOk K pa pl b H) (e : Same H H') : PawOk K pa pl b H' := by
  obtain ⟨t, r, ns, h1, h2, h3⟩ := p
  exact ⟨t, r, ns, e _ _ h1, e _ _ h2, h3⟩

/-- at l stands something of the def's own -/
def C0.May (c : C0) (l : Addr) : Prop := l ≠ c.pa ∧ (c.H0 l = none ∨ c.mo l)
def EntOk (K : PySem.W.Frag) (c : C0) (W : Wd) (σ : St) (i : Nat) : EV → Prop
  | .un => True
  | .fz d => ∃ v, σ[i]? = some (some v) ∧ Rep K W v d
  | .own xs => ∃ l vs, σ[i]? = some (some (.ref l)) ∧ W.M l ∧ c.H0 l = none ∧ W.H l = some (.lst vs) ∧ Reps K W vs xs
  | .ownT kvs => ∃ l vs, σ[i]? = some (some (.ref l)) ∧ W.M l ∧ c.H0 l = none ∧ W.H l = some (.dT vs) ∧ vs.map (·.1) = kvs.map (·.1) ∧ Reps K W (vs.map (·.2)) (kvs.map (·.2))
  | .ownK kvs => ∃ l vs, σ[i]? = some (some (.ref l)) ∧ W.M l ∧ c.H0 l = none ∧ W.H l = some (.dK vs) ∧ vs.map (·.1) = kvs.map (·.1) ∧ Reps K W (vs.map (·.2)) (kvs.map (·.2))
  | .ownI C fs => ∃ l dx vs, σ[i]? = some (some (.ref l)) ∧ W.M l ∧ c.May l ∧ W.H l = some (.ins C dx vs) ∧ vs.map (·.1) = fs.map (·.1) ∧ Reps K W (vs.map (·.2)) (fs.map (·.2))
/-- slot i owns what stands at l -/
def Owns (s : DS) (σ : St) (i : Nat) (l : Addr) : Prop := (∃ e, s.sl[i]? = some e ∧ e.isOwn = true) ∧ σ[i]? = some (some (.ref l))

structure Rel (K : PySem.W.Frag) (c : C0) (W : Wd) (σ : St) (s : DS) : Prop where
  len : s.sl.length = σ.length
  m0 : ∀ a, c.M0 a → c.H0 a ≠ none
  wpa : W.pa = c.pa
  ent : ∀ i e, s.sl[i]? = some e → EntOk K c W σ i e
  dis : ∀ i j l, Owns s σ i l → Owns s σ j l → i = j
  sub : ∀ a, c.M0 a → W.M a
  kp : ∀ a o, c.H0 a = some o → ¬ c.mo a → W.H a = some o
  there : ∀ a, W.M a → ∃ o, W.H a = some o
  old : ∀ a, c.H0 a ≠ none → W.M a → c.M0 a
  mm : ∀ a, c.mo a → W.M a
  mo0 : ∀ a, c.mo a → c.H0 a ≠ none
  mop : c.mo c.pa
  mp : W.M c.pa
  npl : ¬ W.M c.pl
  paw : PawOk K c.pa c.pl s.bud W.H

section
variable {K : PySem.W.Frag} {c : C0} {W W' : Wd} {σ : St} {s : DS} {H' : Hp}
theorem Pr.same (e : Same W.H H') : Pr W ⟨W.M, H', W.pa⟩ := ⟨fun a o h _ => ⟨e a o h, id⟩, rfl⟩
theorem EntOk.same (e : Same W.H H') {i : Nat} : ∀ {x : EV}, EntOk K c W σ i x → EntOk K c ⟨W.M, H', W.pa⟩ σ i x
  | .un, _ => trivial
  | .fz _, ⟨v, h, r⟩ => ⟨v, h, r.mono (Pr.same e)⟩
  | .own _, ⟨l, vs, h1, h2, h3, h4, r⟩ => ⟨l, vs, h1, h2, h3, e _ _ h4, r.mono (Pr.same e)⟩
  | .ownT _, ⟨l, vs, h1, h2, h3, h4, h5, r⟩ => ⟨l, vs, h1, h2, h3, e _ _ h4, h5, r.mono (Pr.same e)⟩
  | .ownK _, ⟨l, vs, h1, h2, h3, h4, h5, r⟩ => ⟨l, vs, h1, h2, h3, e _ _ h4, h5, r.mono (Pr.same e)⟩
  | .ownI _ _, ⟨l, dx, vs, h1, h2, h3, h4, h5, r⟩ => ⟨l, dx, vs, h1, h2, h3, e _ _ h4, h5, r.mono (Pr.same e)⟩
/-- all that was tracked stays -/
theorem Rel.same (R : Rel K c W σ s) (e : Same W.H H') : Rel K c ⟨W.M, H', W.pa⟩ σ s :=
  ⟨R.len, R.m0, R.wpa, fun i x h => (R.ent i x h).same e, R.dis, R.sub, fun a o h n => e _ _ (R.kp a o h n), fun a h => let ⟨o, q⟩ := R.there a h; ⟨o, e _ _ q⟩, R.old, R.mm, R.mo0, R.mop, R.mp, R.npl, R.paw.same e⟩
theorem same_new {H : Hp} {p : Addr} {o : HO} (h : H p = none) : Same H (upd H p o) := fun b u e => by
  rw [upd_ne (ne_of_none e h)]
  exact e
end
end DL

namespace DL
open PySem L2

def RepT (K : PySem.W.Frag) (W : Wd) (σ : St) (v : V) : D → Prop
  | .slot i => σ[i]? = some (some v)
  | d => Rep K W v d
theorem RepT.mono {K : PySem.W.Frag} {W W' : Wd} {σ : St} {v : V} (p : Pr W W') : ∀ {d : D}, RepT K W σ v d → RepT K W' σ v d
  | .slot _, h => h
  | .non, h => Rep.mono p h
  | .bl _, h => Rep.mono p h
  | .int _, h => Rep.mono p h
  | .str _, h => Rep.mono p h
  | .tup _, h => Rep.mono p h
  | .lst _, h => Rep.mono p h
  | .obj _ _, h => Rep.mono p h
  | .dT _, h => Rep.mono p h
  | .dK _, h => Rep.mono p h
  | .raw _, h => Rep.mono p h
  | .paw, h => Rep.mono p h
def D.isSlot : D → Bool
  | .slot _ => true
  | _ => false
theorem Rep.t {K : PySem.W.Frag} {W : Wd} {σ : St} {v : V} {d : D} (h : Rep K W v d) : RepT K W σ v d := by
  cases d <;> first | exact h | cases h
theorem RepT.to {K : PySem.W.Frag} {W : Wd} {σ : St} {v : V} {d : D} (h : RepT K W σ v d) (n : d.isSlot = false) : Rep K W v d := by
  cases d <;> first | exact h | cases n
inductive RepsT (K : PySem.W.Frag) (W : Wd) (σ : St) : List V → List D → Prop
  | nil : RepsT K W σ [] []
  | cons {v : V} {d : D} {vs : List V} {ds : List D} : RepT K W σ v d → RepsT K W σ vs ds → RepsT K W σ (v :: vs) (d :: ds)
theorem RepsT.mono {K : PySem.W.Frag} {W W' : Wd} {σ : St} (p : Pr W W') : ∀ {vs : List V} {ds : List D}, RepsT K W σ vs ds → RepsT K W' σ vs ds
  | _, _, .nil => .nil
  | _, _, .cons a r => .cons (a.mono p) (r.mono p)
def noSlots : List D → Bool
  | [] => true
  | d :: ds => !d.isSlot && noSlots ds
theorem RepsT.to {K : PySem.W.Frag} {W : Wd} {σ : St} : ∀ {vs : List V} {ds : List D}, RepsT K W σ vs ds → noSlots ds = true → Reps K W vs ds
  | _, _, .nil, _ => .nil
  | _, _, .cons (d := d) a r, h => by
    have h' : (!d.isSlot && noSlots _) = true := h
    rw [Bool.and_eq_true] at h'
    exact .cons (a.to (by simpa using h'.1)) (r.to h'.2)
theorem Reps.t {K : PySem.W.Frag} {W : Wd} {σ : St} : ∀ {vs : List V} {ds : List D}, Reps K W vs ds → RepsT K W σ vs ds
  | _, _, .nil => .nil
  | _, _, .cons a r => .cons a.t r.t

/-! ### readings over data -/
abbrev DE := DS → (D → DS → Prop) → Prop
abbrev DT := DS → (Bool → DS → Prop) → Prop
abbrev DA := DS → (List D → DS → Prop) → Prop

def SndE (K : PySem.W.Frag) (te : TE) (t : DE) : Prop := ∀ (c : C0) (W : Wd) (σ : St) (s : DS) (Qv : VK) (Qd : D → DS → Prop), Rel K c W σ s → t s Qd →
  (∀ v W' d s', Rel K c W' σ s' → Pr W W' → RepT K W' σ v d → Qd d s' → Qv v W'.H) → te σ W.H Qv
def SndT (K : PySem.W.Frag) (tt : TT) (t : DT) : Prop := ∀ (c : C0) (W : Wd) (σ : St) (s : DS) (Qv : Bool → Hp → Prop) (Qd : Bool → DS → Prop), Rel K c W σ s → t s Qd →
  (∀ b W' s', Rel K c W' σ s' → Pr W W' → Qd b s' → Qv b W'.H) → tt σ W.H Qv
def SndA (K : PySem.W.Frag) (ta : TA) (t : DA) : Prop := ∀ (c : C0) (W : Wd) (σ : St) (s : DS) (Qv : List V → Hp → Prop) (Qd : List D → DS → Prop), Rel K c W σ s → t s Qd →
  (∀ vs W' ds s', Rel K c W' σ s' → Pr W W' → RepsT K W' σ vs ds → Qd ds s' → Qv vs W'.H) → ta σ W.H Qv
structure PD (X : Cx) (e : Expr) (te : TE) (t : DE) : Prop where
  pe : PE X e te
  snd : SndE X.K te t
structure PDT (X : Cx) (e : Expr) (tt : TT) (t : DT) : Prop where
  pt : PT X e tt
  snd : SndT X.K tt t
/-- the arguments' values, as many as there are arguments -/
structure PAL (X : Cx) (es : List Expr) (t : TA) : Prop where
  run : ∀ (pos : Pos) (pins : List (Addr × Obj)) (s : Shared) (σ : St) (H : Hp) (Q : List V → Hp → Prop), Inv X pins σ H s → t σ H Q →
    wpAny (model X.prog X.w) X.A (spliced (backTo pos (starEach es X.env))) (fun us s' => ∃ vs H', Inv X pins σ H' s' ∧ Vals vs us ∧ vs.length = es.length ∧ Q vs H') X.xe s
theorem PAL.pa {X : Cx} {es : List Expr} {t : TA} (h : PAL X es t) : PA X es t where
  run := fun pos pins s σ H Q I q => thn (h.run pos pins s σ H Q I q) fun us s' ⟨vs, H', I', r, _, q'⟩ => ⟨vs, H', I', r, q'⟩
theorem pal_nil {X : Cx} : PAL X [] tNil where
  run := fun _ _ _ _ H _ I h => Calls.spliced_nil ⟨[], H, I, .nil, rfl, h⟩
theorem pal_cons {X : Cx} {e : Expr} {es : List Expr} {te : TE} {t : TA} (ha : PE X e te) (hr : PAL X es t) (hs : starEach (e :: es) X.env = (false, eval e X.env) :: starEach es X.env) : PAL X (e :: es) (tCons te t) where
  run := by
    intro pos pins s σ H Q I h
    rw [hs]
    show wpAny _ _ (spliced ((false, eval e X.env) :: backTo pos (starEach es X.env))) _ _ s
    apply Calls.spliced_cons
    apply thn (ha.run pins s σ H _ I h)
    rintro u s1 ⟨x, H1, I1, r1, q1⟩
    apply thn (hr.run pos pins s1 σ H1 _ I1 q1)
    rintro us s2 ⟨xs, H2, I2, r2, l2, q2⟩
    exact ⟨x :: xs, H2, I2, .cons r1 r2, congrArg Nat.succ l2, q2⟩
structure PDA (X : Cx) (es : List Expr) (ta : TA) (t : DA) : Prop where
  pal : PAL X es ta
  snd : SndA X.K ta t

section
variable {X : Cx} {K : PySem.W.Frag} {c : C0} {a b e : Expr} {es : List Expr} {te tea teb : TE} {t ta tb : DE} {pos : Pos}
/-! ### names, constants -/
def dVar (i : Nat) : DE := fun s Q => match s.sl[i]? with
  | some .un => False
  | some (.fz d) => Q d s
  | some _ => Q (.slot i) s
  | none => False
theorem snd_var {i : Nat} : SndE K (tVar i) (dVar i) := by
  intro c W σ s Qv Qd R h k
  unfold dVar at h
  cases q : s.sl[i]? with
  | none => rw [q] at h; exact h.elim
  | some e =>
    rw [q] at h
    have en := R.ent i e q
    cases e with
    | un => exact h.elim
    | fz d =>
      obtain ⟨v, h1, r⟩ := en
      exact ⟨v, h1, k v W d s R (Pr.refl _) r.t h⟩
    | own xs =>
      obtain ⟨l, vs, h1, _⟩ := en
      exact ⟨_, h1, k _ W (.slot i) s R (Pr.refl _) h1 h⟩
    | ownT xs =>
      obtain ⟨l, vs, h1, _⟩ := en
      exact ⟨_, h1, k _ W (.slot i) s R (Pr.refl _) h1 h⟩
    | ownK xs =>
      obtain ⟨l, vs, h1, _⟩ := en
      exact ⟨_, h1, k _ W (.slot i) s R (Pr.refl _) h1 h⟩
    | ownI C fs =>
      obtain ⟨l, dx, vs, h1, _⟩ := en
      exact ⟨_, h1, k _ W (.slot i) s R (Pr.refl _) h1 h⟩
theorem dv (i : Nat) {x : Str} {pos : Pos} (hN : X.N[i]? = some x := by rfl) (hv : Vis X.env.scope x := by first | exact Or.inl rfl | exact Or.inr (Or.inl rfl) | exact Or.inr (Or.inr rfl)) (hd : (x == ("__debug__" : Str)) = false := by decide)
    (hcd : (x == ("__classdict__" : Str)) = false := by decide) : PD X (.Name x pos) (tVar i) (dVar i) := ⟨pv i hN hv hd hcd, snd_var⟩
def dC (d : D) : DE := fun s Q => Q d s
theorem snd_c {v : V} {d : D} (h : ∀ W, Rep K W v d) : SndE K (tC v) (dC d) := fun c W σ s Qv Qd R q k => k v W d s R (Pr.refl _) (h W).t q
theorem d_int {i j} : PD X (.Constant (.int i) j pos) (tC (.int i)) (dC (.int i)) := ⟨pe_int, snd_c fun _ => .int i⟩
theorem d_bl {b j} : PD X (.Constant (.bool b) j pos) (tC (.bl b)) (dC (.bl b)) := ⟨pe_bl, snd_c fun _ => .bl b⟩
theorem d_non {j} : PD X (.Constant .none j pos) (tC .non) (dC .non) := ⟨pe_non, snd_c fun _ => .non⟩
theorem d_str {x j} : PD X (.Constant (.str x) j pos) (tC (.str x)) (dC (.str x)) := ⟨pe_str, snd_c fun _ => .str x⟩
/-- a module's name whose value is known by data -/
theorem d_glob {x : Str} {v : V} {d : D} {u : Value} (hg : Gl X x) (hm : X.mg x = some u) (r : RelV v u) (h : ∀ W, Rep X.K W v d) (hd : (x == ("__debug__" : Str)) = false := by decide) : PD X (.Name x pos) (tC v) (dC d) := ⟨pe_glob hg hm r hd, snd_c h⟩
theorem d_bltn {x : Str} {v : V} {u : Value} (hg : Gl X x) (hm : X.mg x = none) (hv : bootBuiltins x = some u) (r : RelV v u) (hn : x ≠ "__name__" := by decide) (hd : (x == ("__debug__" : Str)) = false := by decide) : PD X (.Name x pos) (tC v) (dC (.raw v)) :=
  ⟨pe_bltn hg hm hv r hn hd, snd_c fun _ => .raw v⟩

/-! ### arguments -/
def dNil : DA := fun s Q => Q [] s
def dCons (t : DE) (r : DA) : DA := fun s Q => t s fun d s1 => r s1 fun ds s2 => Q (d :: ds) s2
theorem PDA.pa {r : DA} {taa : TA} (h : PDA X es taa r) : PA X es taa := h.pal.pa
theorem da_nil : PDA X [] tNil dNil := ⟨pal_nil, fun c W σ s Qv Qd R h k => k [] W [] s R (Pr.refl _) .nil h⟩
theorem snd_cons {taa : TA} {r : DA} (h1 : SndE K te t) (h2 : SndA K taa r) : SndA K (tCons te taa) (dCons t r) := by
  intro c W σ s Qv Qd R h k
  refine h1 c W σ s _ _ R h fun v W1 d s1 R1 p1 rv q1 => ?_
  exact h2 c W1 σ s1 _ _ R1 q1 fun vs W2 ds s2 R2 p2 rvs q2 => k (v :: vs) W2 (d :: ds) s2 R2 (p1.trans p2) (.cons (rv.mono p2) rvs) q2
theorem da_cons {taa : TA} {r : DA} (h1 : PD X e te t) (h2 : PDA X es taa r) (hs : starEach (e :: es) X.env = (false, eval e X.env) :: starEach es X.env := by rfl) : PDA X (e :: es) (tCons te taa) (dCons t r) := ⟨pal_cons h1.pe h2.pal hs, snd_cons h1.snd h2.snd⟩

/-! ### tuples and lists that are written -/
theorem Pr.new {W : Wd} {p : Addr} {o : HO} (h : W.H p = none) : Pr W ⟨W.M, upd W.H p o, W.pa⟩ := Pr.same (same_new h)
def dTup (r : DA) : DE := fun s Q => r s fun ds s1 => ds.length ≤ sizeLine ∧ noSlots ds = true ∧ Q (.tup ds) s1
theorem d_tup {x1} {taa : TA} {r : DA} (h : PDA X es taa r) : PD X (.Tuple es x1 pos) (tTup taa) (dTup r) := by
  refine ⟨pe_tup h.pa, ?_⟩
  intro c W σ s Qv Qd R hq k
  refine h.snd c W σ s _ _ R hq fun vs W1 ds s1 R1 p1 rv q1 => ?_
  obtain ⟨hz, hs, q⟩ := q1
  have rr := rv.to hs
  refine ⟨by rw [rr.length]; exact hz, fun p hp => ?_⟩
  exact k (.ref p) ⟨W1.M, upd W1.H p (.tup vs), W1.pa⟩ (.tup ds) s1 (R1.same (same_new hp)) (p1.trans (Pr.new hp)) (Rep.tup (.inl upd_same) (rr.mono (Pr.new hp))) q
/-- a list that is written, from then on as data -/
def dLst (r : DA) : DE := fun s Q => r s fun ds s1 => ds.length ≤ sizeLine ∧ noSlots ds = true ∧ Q (.lst ds) s1
theorem Rel.fresh (R : Rel K c W σ s) {p : Addr} (hp : W.H p = none) : ¬ W.M p := fun m => by
  obtain ⟨o, h⟩ := R.there p m
  rw [hp] at h
  cases h
theorem d_lst {taa : TA} {r : DA} (h : PDA X es taa r) : PD X (.List es pos) (tLst taa) (dLst r) := by
  refine ⟨pe_lst h.pa, ?_⟩
  intro c W σ s Qv Qd R hq k
  refine h.snd c W σ s _ _ R hq fun vs W1 ds s1 R1 p1 rv q1 => ?_
  obtain ⟨hz, hs, q⟩ := q1
  have rr := rv.to hs
  refine ⟨by rw [rr.length]; exact hz, fun p hp => ?_⟩
  exact k (.ref p) ⟨W1.M, upd W1.H p (.lst vs), W1.pa⟩ (.lst ds) s1 (R1.same (same_new hp)) (p1.trans (Pr.new hp)) (Rep.lst upd_same (R1.fresh hp) (rr.mono (Pr.new hp))) q

/-! ### operations by values -/
abbrev DR := DS → D → D → (D → Prop) → Prop
def SndR (K : PySem.W.Frag) (r : R2) (f : DR) : Prop := ∀ (c : C0) (W : Wd) (σ : St) (s : DS) (x y : V) (d1 d2 : D) (Qv : VK) (Qd : D → Prop), Rel K c W σ s → RepT K W σ x d1 → RepT K W σ y d2 → f s d1 d2 Qd →
  (∀ v W' d, Rel K c W' σ s → Pr W W' → RepT K W' σ v d → Qd d → Qv v W'.H) → r x y W.H Qv
def dOp (f : DR) (ta tb : DE) : DE := fun s Q => ta s fun d1 s1 => tb s1 fun d2 s2 => f s2 d1 d2 fun d => Q d s2
theorem snd_op {r : R2} {f : DR} (hr : SndR K r f) (ha : SndE K tea ta) (hb : SndE K teb tb) : SndE K (tOp r tea teb) (dOp f ta tb) := by
  intro c W σ s Qv Qd R h k
  refine ha c W σ s _ _ R h fun x W1 d1 s1 R1 p1 r1 q1 => ?_
  refine hb c W1 σ s1 _ _ R1 q1 fun y W2 d2 s2 R2 p2 r2 q2 => ?_
  exact hr c W2 σ s2 x y d1 d2 _ _ R2 (r1.mono p2) r2 q2 fun v W3 d R3 p3 r3 q3 => k v W3 d s2 R3 ((p1.trans p2).trans p3) r3 q3
theorem d_op {op : Operator} {r : R2} {f : DR} (h : OpR X (binaryOp op) r ∧ SndR X.K r f) (ha : PD X a tea ta) (hb : PD X b teb tb) : PD X (.BinOp a op b pos) (tOp r tea teb) (dOp f ta tb) := ⟨pe_op h.1 ha.pe hb.pe, snd_op h.2 ha.snd hb.snd⟩
theorem d_cmp {op : CmpOp} {r : R2} {f : DR} (h : OpR X (compareOp op) r ∧ SndR X.K r f) (ha : PD X a tea ta) (hb : PD X b teb tb) (hm : behindInMarks op b = false := by first | exact nobehind _ (by decide) (by decide) | rfl) :
    PD X (.Compare a [op] [b] pos) (tOp r tea teb) (dOp f ta tb) := ⟨pe_cmpR h.1 ha.pe hb.pe hm, snd_op h.2 ha.snd hb.snd⟩
def dB (t : DE) : DT := fun s Q => t s fun d s1 => match d with
  | .bl b => Q b s1
  | _ => False
theorem snd_test (h : SndE K te t) : SndT K (tTest te) (dB t) := by
  intro c W σ s Qv Qd R hq k
  refine h c W σ s _ _ R hq fun v W1 d s1 R1 p1 r1 q1 => ?_
  cases d with
  | bl b =>
    cases r1
    exact ⟨b, rfl, k b W1 s1 R1 p1 q1⟩
  | _ => exact q1.elim
theorem dt_cmp {op : CmpOp} {r : R2} {f : DR} (h : OpR X (compareOp op) r ∧ SndR X.K r f) (ha : PD X a tea ta) (hb : PD X b teb tb) (hm : behindInMarks op b = false := by first | exact nobehind _ (by decide) (by decide) | rfl) :
    PDT X (.Compare a [op] [b] pos) (tTest (tOp r tea teb)) (dB (dOp f ta tb)) := ⟨pt_cmpR h.1 ha.pe hb.pe hm, snd_test (snd_op h.2 ha.snd hb.snd)⟩
theorem OpR.or {f : Value → Value → Sem Value} {r r' : R2} (h : OpR X f r) (h' : OpR X f r') : OpR X f (fun x y H Q => r x y H Q ∨ r' x y H Q) := by
  intro pins s σ H x y v u Q I rx ry q
  rcases q with q | q
  · exact h pins s σ H x y v u Q I rx ry q
  · exact h' pins s σ H x y v u Q I rx ry q
def orR (f g : DR) : DR := fun s a b Q => f s a b Q ∨ g s a b Q
/-- two ints, a value out -/
def fI (C : Int → Int → Prop) (g : Int → Int → D) : DR := fun _ a b Q => match a, b with
  | .int i, .int j => C i j ∧ Q (g i j)
  | _, _ => False
theorem snd_I {C : Int → Int → Prop} {g : Int → Int → V} {g' : Int → Int → D} (hg : ∀ W i j, Rep K W (g i j) (g' i j)) : SndR K (rI C g) (fI C g') := by
  intro c W σ s x y d1 d2 Qv Qd R r1 r2 h k
  cases d1 with
  | int i =>
    cases d2 with
    | int j =>
      cases r1
      cases r2
      exact ⟨i, j, rfl, rfl, h.1, k _ W _ R (Pr.refl _) (hg W i j).t h.2⟩
    | _ => exact h.elim
  | _ => exact h.elim
def fI0 (g : Int → Int → D) : DR := fun _ a b Q => match a, b with
  | .int i, .int j => Q (g i j)
  | _, _ => False
theorem snd_I0 {g : Int → Int → V} {g' : Int → Int → D} (hg : ∀ W i j, Rep K W (g i j) (g' i j)) : SndR K (rI0 g) (fI0 g') := by
  intro c W σ s x y d1 d2 Qv Qd R r1 r2 h k
  cases d1 with
  | int i =>
    cases d2 with
    | int j =>
      cases r1
      cases r2
      exact ⟨i, j, rfl, rfl, k _ W _ R (Pr.refl _) (hg W i j).t h⟩
    | _ => exact h.elim
  | _ => exact h.elim
theorem o_sub : OpR X (binaryOp .Sub) (rI0 fun i j => .int (i - j)) ∧ SndR X.K (rI0 fun i j => .int (i - j)) (fI0 fun i j => .int (i - j)) := ⟨op_sub, snd_I0 fun _ _ _ => .int _⟩
theorem o_mulI : OpR X (binaryOp .Mult) (rI CMul fun i j => .int (i * j)) ∧ SndR X.K (rI CMul fun i j => .int (i * j)) (fI CMul fun i j => .int (i * j)) := ⟨op_mul, snd_I fun _ _ _ => .int _⟩
theorem o_fdiv : OpR X (binaryOp .FloorDiv) (rI CDiv fun i j => .int (i / j)) ∧ SndR X.K (rI CDiv fun i j => .int (i / j)) (fI CDiv fun i j => .int (i / j)) := ⟨op_fdiv, snd_I fun _ _ _ => .int _⟩
theorem o_mod : OpR X (binaryOp .Mod) (rI (fun _ j => 0 < j) fun i j => .int (i % j)) ∧ SndR X.K (rI (fun _ j => 0 < j) fun i j => .int (i % j)) (fI (fun _ j => 0 < j) fun i j => .int (i % j)) := ⟨op_mod, snd_I fun _ _ _ => .int _⟩
theorem o_pow : OpR X (binaryOp .Pow) (rI CPow fun i j => .int (i ^ j.toNat)) ∧ SndR X.K (rI CPow fun i j => .int (i ^ j.toNat)) (fI CPow fun i j => .int (i ^ j.toNat)) := ⟨op_pow, snd_I fun _ _ _ => .int _⟩
theorem o_shl : OpR X (binaryOp .LShift) (rI CPow fun i j => .int (i * 2 ^ j.toNat)) ∧ SndR X.K (rI CPow fun i j => .int (i * 2 ^ j.toNat)) (fI CPow fun i j => .int (i * 2 ^ j.toNat)) := ⟨op_shl, snd_I fun _ _ _ => .int _⟩
theorem o_lt : OpR X (compareOp .Lt) (rI0 fun i j => .bl (decide (i < j))) ∧ SndR X.K (rI0 fun i j => .bl (decide (i < j))) (fI0 fun i j => .bl (decide (i < j))) := ⟨op_lt, snd_I0 fun _ _ _ => .bl _⟩
theorem o_le : OpR X (compareOp .LtE) (rI0 fun i j => .bl (decide (i ≤ j))) ∧ SndR X.K (rI0 fun i j => .bl (decide (i ≤ j))) (fI0 fun i j => .bl (decide (i ≤ j))) := ⟨op_le, snd_I0 fun _ _ _ => .bl _⟩
theorem o_gt : OpR X (compareOp .Gt) (rI0 fun i j => .bl (decide (j < i))) ∧ SndR X.K (rI0 fun i j => .bl (decide (j < i))) (fI0 fun i j => .bl (decide (j < i))) := ⟨op_gt, snd_I0 fun _ _ _ => .bl _⟩
theorem o_ge : OpR X (compareOp .GtE) (rI0 fun i j => .bl (decide (j ≤ i))) ∧ SndR X.K (rI0 fun i j => .bl (decide (j ≤ i))) (fI0 fun i j => .bl (decide (j ≤ i))) := ⟨op_ge, snd_I0 fun _ _ _ => .bl _⟩
/-- is, of None, True, False -/
def dIs : D → D → Option Bool
  | .slot _, _ => none
  | .raw _, _ => none
  | .paw, _ => none
  | .non, .non => some true
  | .bl a, .bl b => some (a == b)
  | _, .non => some false
  | _, .bl _ => some false
  | _, _ => none
def fIs (neg : Bool) : DR := fun _ a b Q => match dIs a b with
  | some k => Q (.bl (if neg then !k else k))
  | none => False
def rIsS (neg : Bool) : R2 := fun x y H Q => (y = .non ∨ ∃ b, y = .bl b) ∧ Q (.bl (if neg then !decide (x = y) else decide (x = y))) H
theorem is_simple {pins : List (Addr × Obj)} {σ : St} {H : Hp} {s : Shared} {M : Model} {A : Around} {E : Value → Shared → Prop} {x y : V} {v u : Value} {R : Bool → Shared → Prop} (rx : RelV x v) (ry : RelV y u) (hy : y = .non ∨ ∃ b, y = .bl b)
    (q : R (decide (x = y)) s) : wpAny M A (isSame v u) R E s := by
  have go : plainIs v u = true → (v == u) = decide (x = y) → wpAny M A (isSame v u) R E s := fun h1 h2 => wpAny_isSame_plain h1 (by rw [h2]; exact q)
  rcases hy with rfl | ⟨b, rfl⟩
  · cases ry
    refine go (by cases x <;> first | (cases rx; rfl) | (obtain ⟨t, rfl⟩ := rx; rfl)) (rx.none_iff)
  · cases ry
    cases x with
    | bl a =>
      cases rx
      refine go rfl ?_
      by_cases e : a = b
      · subst e
        rw [decide_eq_true rfl]
        exact beq_self_eq_true _
      · rw [decide_eq_false (fun z => e (V.bl.inj z))]
        exact beq_eq_false_iff_ne.mpr fun z => e (Value.bool.inj z)
    | non => cases rx; exact go rfl rfl
    | int i => obtain ⟨t, rfl⟩ := rx; exact go rfl rfl
    | str x => obtain ⟨t, rfl⟩ := rx; exact go rfl rfl
    | byt x => obtain ⟨t, rfl⟩ := rx; exact go rfl rfl
    | flt x => obtain ⟨t, rfl⟩ := rx; exact go rfl rfl
    | ref a => cases rx; exact go rfl rfl
    | ty n => cases rx; exact go rfl rfl
theorem op_isS : OpR X (compareOp .Is) (rIsS false) := by
  intro pins s σ H x y v u Q I rx ry h
  obtain ⟨hy, q⟩ := h
  show wpAny _ _ ((isSame v u) >>= fun z => pure (Value.bool z)) _ _ s
  exact wpAny_bind (is_simple (pins := pins) (σ := σ) (H := H) (s := s) rx ry hy (wpAny_pure (fin_bl I q rfl)))
theorem op_isnotS : OpR X (compareOp .IsNot) (rIsS true) := by
  intro pins s σ H x y v u Q I rx ry h
  obtain ⟨hy, q⟩ := h
  show wpAny _ _ ((isSame v u) >>= fun z => pure (Value.bool (!z))) _ _ s
  exact wpAny_bind (is_simple (pins := pins) (σ := σ) (H := H) (s := s) rx ry hy (wpAny_pure (fin_bl I q rfl)))
theorem dIs_spec {K : PySem.W.Frag} {W : Wd} {σ : St} {x y : V} {a b : D} {k : Bool} (r1 : RepT K W σ x a) (r2 : RepT K W σ y b) (h : dIs a b = some k) : (y = .non ∨ ∃ b, y = .bl b) ∧ decide (x = y) = k := by
  cases a with
  | slot _ => simp [dIs] at h
  | raw _ => simp [dIs] at h
  | paw => simp [dIs] at h
  | _ =>
    cases b with
    | non =>
      cases r2
      cases r1
      all_goals exact ⟨.inl rfl, by first | (cases h; rfl)⟩
    | bl b =>
      cases r2
      cases r1
      all_goals
        refine ⟨.inr ⟨b, rfl⟩, ?_⟩
        first
        | (cases h; rfl)
        | (rw [dec_bl]; simpa [dIs] using h)
    | _ => simp [dIs] at h
theorem snd_is {neg : Bool} : SndR K (rIsS neg) (fIs neg) := by
  intro c W σ s x y d1 d2 Qv Qd R r1 r2 h k
  unfold fIs at h
  cases e : dIs d1 d2 with
  | none => rw [e] at h; exact h.elim
  | some b =>
    rw [e] at h
    obtain ⟨h1, h2⟩ := dIs_spec r1 r2 e
    refine ⟨h1, ?_⟩
    rw [h2]
    exact k _ W _ R (Pr.refl _) (Rep.bl _).t h
theorem o_is : OpR X (compareOp .Is) (rIsS false) ∧ SndR X.K (rIsS false) (fIs false) := ⟨op_isS, snd_is⟩
theorem o_isnt : OpR X (compareOp .IsNot) (rIsS true) ∧ SndR X.K (rIsS true) (fIs true) := ⟨op_isnotS, snd_is⟩
end
end DL

namespace DL
open PySem L2

/-! ### data that Python compares -/
mutual
def toPy : D → Option PyData
  | .non => some .none
  | .bl b => some (.bool b)
  | .int i => some (.int i)
  | .str x => some (.str x)
  | .tup xs => (toPys xs).map .tuple
  | .lst xs => (toPys xs).map .list
  | .obj _ _ => none
  | .dT _ => none
  | .dK _ => none
  | .raw _ => none
  | .paw => none
  | .slot _ => none
def toPys : List D → Option (List PyData)
  | [] => some []
  | x :: xs => (toPy x).bind fun p => (toPys xs).map fun ps => p :: ps
end
section
variable {K : PySem.W.Frag} {W : Wd}
mutual
theorem Rep.dp : ∀ {v : V} {d : D} {p : PyData}, Rep K W v d → toPy d = some p → Dp K W.H v p
  | _, _, _, .non, h => by cases h; exact .non
  | _, _, _, .bl b, h => by cases h; exact .bl b
  | _, _, _, .int i, h => by cases h; exact .int i
  | _, _, _, .str x, h => by cases h; exact .str x
  | _, _, p, .tup (ds := ds) q r, h => by
    have h' : (toPys ds).map PyData.tuple = some p := by rw [toPy] at h; exact h
    cases e : toPys ds with
    | none => rw [e] at h'; cases h'
    | some ps =>
      rw [e] at h'
      cases h'
      exact .tup q.sq (Reps.dp r e)
  | _, _, p, .lst (ds := ds) q n r, h => by
    have h' : (toPys ds).map PyData.list = some p := by rw [toPy] at h; exact h
    cases e : toPys ds with
    | none => rw [e] at h'; cases h'
    | some ps =>
      rw [e] at h'
      cases h'
      exact .lst (SqL.of q) (Reps.dp r e)
  | _, _, _, .obj _ _ _ _, h => by rw [toPy] at h; cases h
  | _, _, _, .dT _ _ _ _, h => by rw [toPy] at h; cases h
  | _, _, _, .dK _ _ _ _, h => by rw [toPy] at h; cases h
  | _, _, _, .raw _, h => by rw [toPy] at h; cases h
  | _, _, _, .paw, h => by rw [toPy] at h; cases h
theorem Reps.dp : ∀ {vs : List V} {ds : List D} {ps : List PyData}, Reps K W vs ds → toPys ds = some ps → DpAll K W.H vs ps
  | _, _, _, .nil, h => by cases h; exact .nil
  | _, _, ps, .cons (d := d) (ds := ds) a r, h => by
    have h' : (toPy d).bind (fun p => (toPys ds).map fun ps => p :: ps) = some ps := by rw [toPys] at h; exact h
    cases e : toPy d with
    | none => rw [e] at h'; cases h'
    | some p =>
      rw [e] at h'
      cases e2 : toPys ds with
      | none => rw [e2] at h'; cases h'
      | some qs =>
        rw [e2] at h'
        cases h'
        exact .cons (Rep.dp a e) (Reps.dp r e2)
end
end

/-! ### lists and tuples as their items; what a slot owns -/
def asL (s : DS) : D → Option (List D)
  | .lst xs => some xs
  | .slot i => match s.sl[i]? with
    | some (.own xs) => some xs
    | _ => none
  | _ => none
def asSeq (s : DS) : D → Option (List D)
  | .tup xs => some xs
  | d => asL s d
def toPyT (s : DS) : D → Option PyData
  | .slot i => match s.sl[i]? with
    | some (.own xs) => (toPys xs).map .list
    | _ => none
  | d => toPy d
section
variable {K : PySem.W.Frag} {c : C0} {W : Wd} {σ : St} {s : DS}
theorem asL_spec (R : Rel K c W σ s) {v : V} {d : D} {xs : List D} (r : RepT K W σ v d) (h : asL s d = some xs) : ∃ l vs, v = .ref l ∧ W.H l = some (.lst vs) ∧ Reps K W vs xs := by
  cases d with
  | lst ys =>
    cases h
    cases r with
    | lst q n r => exact ⟨_, _, rfl, q, r⟩
  | slot i =>
    have h' : (match s.sl[i]? with
      | some (.own xs) => some xs
      | _ => none) = some xs := h
    cases e : s.sl[i]? with
    | none => rw [e] at h'; cases h'
    | some x =>
      rw [e] at h'
      cases x with
      | own ys =>
        cases h'
        obtain ⟨l, vs, h1, h2, h3, h4, h5⟩ := R.ent i _ e
        have r' : σ[i]? = some (some v) := r
        rw [h1] at r'
        cases r'
        exact ⟨l, vs, rfl, h4, h5⟩
      | _ => cases h'
  | _ => cases h
theorem asSeq_spec (R : Rel K c W σ s) {v : V} {d : D} {xs : List D} (r : RepT K W σ v d) (h : asSeq s d = some xs) : ∃ l vs, v = .ref l ∧ (SqL K W.H l vs ∨ TupV K W.H l vs) ∧ Reps K W vs xs := by
  cases d with
  | tup ys =>
    cases h
    cases r with
    | tup q r => exact ⟨_, _, rfl, .inr q, r⟩
  | lst ys =>
    obtain ⟨l, vs, e, q, r⟩ := asL_spec R r h
    exact ⟨l, vs, e, .inl (SqL.of q), r⟩
  | slot i =>
    obtain ⟨l, vs, e, q, r⟩ := asL_spec R r h
    exact ⟨l, vs, e, .inl (SqL.of q), r⟩
  | _ => cases h
theorem toPyT_spec (R : Rel K c W σ s) {v : V} {d : D} {p : PyData} (r : RepT K W σ v d) (h : toPyT s d = some p) : Dp K W.H v p := by
  cases d with
  | slot i =>
    have h' : (match s.sl[i]? with
      | some (.own xs) => (toPys xs).map PyData.list
      | _ => none) = some p := h
    cases e : s.sl[i]? with
    | none => rw [e] at h'; cases h'
    | some x =>
      rw [e] at h'
      cases x with
      | own ys =>
        obtain ⟨l, vs, h1, h2, h3, h4, h5⟩ := R.ent i _ e
        have r' : σ[i]? = some (some v) := r
        rw [h1] at r'
        cases r'
        have h'' : (toPys ys).map PyData.list = some p := h'
        cases e2 : toPys ys with
        | none => rw [e2] at h''; cases h''
        | some ps =>
          rw [e2] at h''
          cases h''
          exact .lst (SqL.of h4) (Reps.dp h5 e2)
      | _ => cases h'
  | raw _ => cases h
  | paw => cases h
  | obj _ _ => cases h
  | dT _ => cases h
  | dK _ => cases h
  | non => exact Rep.dp r h
  | bl _ => exact Rep.dp r h
  | int _ => exact Rep.dp r h
  | str _ => exact Rep.dp r h
  | tup _ => exact Rep.dp r h
  | lst _ => exact Rep.dp r h
end

section
variable {X : Cx} {K : PySem.W.Frag} {c : C0} {a b e : Expr} {es : List Expr} {te tea teb : TE} {t ta tb : DE} {pos : Pos}
/-! ### == and != over data -/
def fEq (neg : Bool) : DR := fun s a b Q => match toPyT s a, toPyT s b with
  | some p, some q => SeqAt.shaped p = true ∧ SeqAt.shaped q = true ∧ Q (.bl (if neg then !PyData.eqv p q else PyData.eqv p q))
  | _, _ => False
theorem snd_eq : SndR K (rEqD K) (fEq false) := by
  intro c W σ s x y d1 d2 Qv Qd R r1 r2 h k
  unfold fEq at h
  cases e1 : toPyT s d1 with
  | none => rw [e1] at h; exact h.elim
  | some p =>
    cases e2 : toPyT s d2 with
    | none => rw [e1, e2] at h; exact h.elim
    | some q =>
      rw [e1, e2] at h
      obtain ⟨h1, h2, h3⟩ := h
      exact ⟨p, q, toPyT_spec R r1 e1, toPyT_spec R r2 e2, h1, h2, k _ W _ R (Pr.refl _) (Rep.bl _).t h3⟩
theorem snd_ne : SndR K (rNeD K) (fEq true) := by
  intro c W σ s x y d1 d2 Qv Qd R r1 r2 h k
  unfold fEq at h
  cases e1 : toPyT s d1 with
  | none => rw [e1] at h; exact h.elim
  | some p =>
    cases e2 : toPyT s d2 with
    | none => rw [e1, e2] at h; exact h.elim
    | some q =>
      rw [e1, e2] at h
      obtain ⟨h1, h2, h3⟩ := h
      exact ⟨p, q, toPyT_spec R r1 e1, toPyT_spec R r2 e2, h1, h2, k _ W _ R (Pr.refl _) (Rep.bl _).t h3⟩
theorem o_eq (hu : X.A.units + 64 < cLine) : OpR X (compareOp .Eq) (rEqD X.K) ∧ SndR X.K (rEqD X.K) (fEq false) := ⟨op_eqD hu, snd_eq⟩
theorem o_ne (hu : X.A.units + 64 < cLine) : OpR X (compareOp .NotEq) (rNeD X.K) ∧ SndR X.K (rNeD X.K) (fEq true) := ⟨op_neD hu, snd_ne⟩
/-! ### in, not in: lists and tuples of data; texts -/
def rInA (K : PySem.W.Frag) (neg : Bool) : R2 := fun x y H Q => (∃ d ds, Dp K H x d ∧ (Dp K H y (.list ds) ∨ Dp K H y (.tuple ds)) ∧ SeqAt.shaped d = true ∧ SeqAt.shaped (.list ds) = true ∧ Q (.bl (if neg then !(ds.any fun z => PyData.eqv z d) else ds.any fun z => PyData.eqv z d)) H) ∨
  (∃ i j, x = .str i ∧ y = .str j ∧ Q (.bl (if neg then !(!(Builtin.Str.occurrences j i 0 j.length 1).isEmpty) else !(Builtin.Str.occurrences j i 0 j.length 1).isEmpty)) H)
theorem op_inA (hu : X.A.units + 65 < cLine) : OpR X (compareOp .In) (rInA X.K false) := by
  intro pins s σ H x y v u Q I rx ry h
  rcases h with ⟨d, ds, hd, he, sd, se, q⟩ | h
  · obtain ⟨as, r1⟩ := Dp.reads I d x v hd rx
    rcases he with he | he
    · obtain ⟨bs, r2⟩ := Dp.reads I (.list ds) y u he ry
      exact SeqAt.in_list_reads r2 r1 (SeqAt.canLay_of_shaped se) (SeqAt.canLay_of_shaped sd) (PyProof.Rows.room_in_shaped sd hu) ⟨.bl _, H, I, rfl, q⟩
    · obtain ⟨bs, r2⟩ := Dp.reads I (.tuple ds) y u he ry
      exact SeqAt.in_tuple_reads r2 r1 (SeqAt.canLay_of_shaped se) (SeqAt.canLay_of_shaped sd) (PyProof.Rows.room_in_shaped sd hu) ⟨.bl _, H, I, rfl, q⟩
  · exact op_in_str pins s σ H x y v u Q I rx ry h
theorem op_notInA (hu : X.A.units + 65 < cLine) : OpR X (compareOp .NotIn) (rInA X.K true) := by
  intro pins s σ H x y v u Q I rx ry h
  rcases h with ⟨d, ds, hd, he, sd, se, q⟩ | h
  · obtain ⟨as, r1⟩ := Dp.reads I d x v hd rx
    rcases he with he | he
    · obtain ⟨bs, r2⟩ := Dp.reads I (.list ds) y u he ry
      exact SeqAt.notIn_list_reads r2 r1 (SeqAt.canLay_of_shaped se) (SeqAt.canLay_of_shaped sd) (PyProof.Rows.room_in_shaped sd hu) ⟨.bl _, H, I, rfl, q⟩
    · obtain ⟨bs, r2⟩ := Dp.reads I (.tuple ds) y u he ry
      exact SeqAt.notIn_tuple_reads r2 r1 (SeqAt.canLay_of_shaped se) (SeqAt.canLay_of_shaped sd) (PyProof.Rows.room_in_shaped sd hu) ⟨.bl _, H, I, rfl, q⟩
  · exact op_notin_str pins s σ H x y v u Q I rx ry h
def fIn (neg : Bool) : DR := fun s a b Q => match toPyT s b with
  | some (.list ds) => (match toPyT s a with
    | some d => SeqAt.shaped d = true ∧ SeqAt.shaped (.list ds) = true ∧ Q (.bl (if neg then !(ds.any fun z => PyData.eqv z d) else ds.any fun z => PyData.eqv z d))
    | none => False)
  | some (.tuple ds) => (match toPyT s a with
    | some d => SeqAt.shaped d = true ∧ SeqAt.shaped (.list ds) = true ∧ Q (.bl (if neg then !(ds.any fun z => PyData.eqv z d) else ds.any fun z => PyData.eqv z d))
    | none => False)
  | some (.str j) => (match a with
    | .str i => Q (.bl (if neg then !(!(Builtin.Str.occurrences j i 0 j.length 1).isEmpty) else !(Builtin.Str.occurrences j i 0 j.length 1).isEmpty))
    | _ => False)
  | _ => False
theorem snd_in {neg : Bool} : SndR K (rInA K neg) (fIn neg) := by
  intro c W σ s x y d1 d2 Qv Qd R r1 r2 h k
  unfold fIn at h
  cases e2 : toPyT s d2 with
  | none => rw [e2] at h; exact h.elim
  | some q =>
    rw [e2] at h
    cases q with
    | list ds =>
      cases e1 : toPyT s d1 with
      | none => simp only [e1] at h
      | some p =>
        simp only [e1] at h
        obtain ⟨h1, h2, h3⟩ := h
        exact .inl ⟨p, ds, toPyT_spec R r1 e1, .inl (toPyT_spec R r2 e2), h1, h2, k _ W _ R (Pr.refl _) (Rep.bl _).t h3⟩
    | tuple ds =>
      cases e1 : toPyT s d1 with
      | none => simp only [e1] at h
      | some p =>
        simp only [e1] at h
        obtain ⟨h1, h2, h3⟩ := h
        exact .inl ⟨p, ds, toPyT_spec R r1 e1, .inr (toPyT_spec R r2 e2), h1, h2, k _ W _ R (Pr.refl _) (Rep.bl _).t h3⟩
    | str j =>
      cases d1 with
      | str i =>
        have dp := toPyT_spec R r2 e2
        cases dp
        cases r1
        exact .inr ⟨i, j, rfl, rfl, k _ W _ R (Pr.refl _) (Rep.bl _).t h⟩
      | _ => exact h.elim
    | _ => exact h.elim
theorem o_in (hu : X.A.units + 65 < cLine) : OpR X (compareOp .In) (rInA X.K false) ∧ SndR X.K (rInA X.K false) (fIn false) := ⟨op_inA hu, snd_in⟩
theorem o_nin (hu : X.A.units + 65 < cLine) : OpR X (compareOp .NotIn) (rInA X.K true) ∧ SndR X.K (rInA X.K true) (fIn true) := ⟨op_notInA hu, snd_in⟩
end
end DL

namespace DL
open PySem L2
section
variable {X : Cx} {K : PySem.W.Frag} {c : C0} {a b e : Expr} {es rest : List Expr} {te tea teb : TE} {t ta tb : DE} {pos : Pos} {tt tta ttb : TT} {d da db : DT}

/-! ### + and * -/
def rAddA (K : PySem.W.Frag) : R2 := fun x y H Q => (rI0 fun i j => .int (i + j)) x y H Q ∨ (fun x y H Q => ∃ i j, x = .str i ∧ y = .str j ∧ i.length + j.length ≤ sizeLine ∧ Q (.str (i ++ j)) H : R2) x y H Q ∨ rCatT K x y H Q ∨ rCat x y H Q
def fAdd : DR := fun s a b Q => match a, b with
  | .int i, .int j => Q (.int (i + j))
  | .str i, .str j => i.length + j.length ≤ sizeLine ∧ Q (.str (i ++ j))
  | .tup xs, .tup ys => xs ≠ [] ∧ xs.length + ys.length ≤ sizeLine ∧ Q (.tup (xs ++ ys))
  | x, y => match asL s x, asL s y with
    | some xs, some ys => xs.length + ys.length ≤ sizeLine ∧ Q (.lst (xs ++ ys))
    | _, _ => False
theorem snd_addL {W : Wd} {σ : St} {s : DS} {x y : V} {d1 d2 : D} {Qv : VK} {Qd : D → Prop} (R : Rel K c W σ s) (r1 : RepT K W σ x d1) (r2 : RepT K W σ y d2)
    (h : match asL s d1, asL s d2 with
      | some xs, some ys => xs.length + ys.length ≤ sizeLine ∧ Qd (.lst (xs ++ ys))
      | _, _ => False) (k : ∀ v W' d, Rel K c W' σ s → Pr W W' → RepT K W' σ v d → Qd d → Qv v W'.H) : rCat x y W.H Qv := by
  cases e1 : asL s d1 with
  | none => rw [e1] at h; exact h.elim
  | some xs =>
    cases e2 : asL s d2 with
    | none => rw [e1, e2] at h; exact h.elim
    | some ys =>
      rw [e1, e2] at h
      obtain ⟨hz, q⟩ := h
      obtain ⟨l, vs, rfl, h1, p1⟩ := asL_spec R r1 e1
      obtain ⟨m, ws, rfl, h2, p2⟩ := asL_spec R r2 e2
      refine ⟨l, m, vs, ws, rfl, rfl, h1, h2, by rw [p1.length, p2.length]; exact hz, fun p hp => ?_⟩
      exact k (.ref p) ⟨W.M, upd W.H p (.lst (vs ++ ws)), W.pa⟩ (.lst (xs ++ ys)) (R.same (same_new hp)) (Pr.new hp) (Rep.lst upd_same (R.fresh hp) ((p1.append p2).mono (Pr.new hp))) q
theorem snd_add : SndR K (rAddA K) fAdd := by
  intro c W σ s x y d1 d2 Qv Qd R r1 r2 h k
  unfold fAdd at h
  split at h
  · cases r1; cases r2
    exact .inl ⟨_, _, rfl, rfl, k _ W _ R (Pr.refl _) (Rep.int _).t h⟩
  · cases r1; cases r2
    exact .inr (.inl ⟨_, _, rfl, rfl, h.1, k _ W _ R (Pr.refl _) (Rep.str _).t h.2⟩)
  · rename_i xs ys
    obtain ⟨h1, hz, q⟩ := h
    cases r1 with
    | tup q1 p1 =>
      cases r2 with
      | tup q2 p2 =>
        rename_i a1 vs a2 ws
        refine .inr (.inr (.inl ⟨a1, a2, vs, ws, rfl, rfl, q1.sq, q2.sq, ?_, by rw [p1.length, p2.length]; exact hz, fun en => ?_, fun en p hp => ?_⟩))
        · intro en
          subst en
          cases p1
          exact h1 rfl
        · subst en
          cases p2
          refine k (.ref a1) W _ R (Pr.refl _) ?_ q
          rw [List.append_nil]
          exact Rep.tup q1 p1
        · exact k (.ref p) ⟨W.M, upd W.H p (.tup (vs ++ ws)), W.pa⟩ (.tup (xs ++ ys)) (R.same (same_new hp)) (Pr.new hp) (Rep.tup (.inl upd_same) ((p1.append p2).mono (Pr.new hp))) q
  · exact .inr (.inr (.inr (snd_addL R r1 r2 h k)))
theorem o_add : OpR X (binaryOp .Add) (rAddA X.K) ∧ SndR X.K (rAddA X.K) fAdd := ⟨OpR.or op_add (OpR.or op_add_str (OpR.or op_catT op_cat)), snd_add⟩
def rMulA : R2 := fun x y H Q => (rI CMul fun i j => .int (i * j)) x y H Q ∨ rRep x y H Q
def fMul : DR := fun s a b Q => match a, b with
  | .int i, .int j => CMul i j ∧ Q (.int (i * j))
  | x, .int j => match asL s x with
    | some xs => -(2 ^ 63) ≤ j ∧ j < 2 ^ 63 ∧ xs.length * j.toNat ≤ sizeLine ∧ Q (.lst (List.replicate j.toNat xs).flatten)
    | none => False
  | _, _ => False
theorem rep_reps {K : PySem.W.Frag} {W : Wd} {vs : List V} {ds : List D} (r : Reps K W vs ds) : ∀ n : Nat, Reps K W (List.replicate n vs).flatten (List.replicate n ds).flatten
  | 0 => .nil
  | n + 1 => by
    rw [List.replicate_succ, List.replicate_succ, List.flatten_cons, List.flatten_cons]
    exact r.append (rep_reps r n)
theorem snd_mul : SndR K rMulA fMul := by
  intro c W σ s x y d1 d2 Qv Qd R r1 r2 h k
  unfold fMul at h
  split at h
  · cases r1; cases r2
    exact .inl ⟨_, _, rfl, rfl, h.1, k _ W _ R (Pr.refl _) (Rep.int _).t h.2⟩
  · rename_i j _
    cases e1 : asL s d1 with
    | none => rw [e1] at h; exact h.elim
    | some xs =>
      rw [e1] at h
      obtain ⟨h1, h2, h3, q⟩ := h
      obtain ⟨l, vs, rfl, hl, p1⟩ := asL_spec R r1 e1
      cases r2
      refine .inr ⟨l, j, vs, rfl, rfl, hl, h1, h2, by rw [p1.length]; exact h3, fun p hp => ?_⟩
      exact k (.ref p) ⟨W.M, upd W.H p (.lst (List.replicate j.toNat vs).flatten), W.pa⟩ (.lst (List.replicate j.toNat xs).flatten) (R.same (same_new hp)) (Pr.new hp) (Rep.lst upd_same (R.fresh hp) ((rep_reps p1 _).mono (Pr.new hp))) q
  · exact h.elim
theorem o_mul : OpR X (binaryOp .Mult) rMulA ∧ SndR X.K rMulA fMul := ⟨OpR.or op_mul op_rep, snd_mul⟩

/-! ### x[i] -/
def fIx : DR := fun s a b Q => match b with
  | .int i => match a with
    | .str z => z.length ≤ sizeLine ∧ ∃ c, atI z.cps.toList i = some c ∧ Q (.str ⟨#[c]⟩)
    | a => match asSeq s a with
      | some xs => match atI xs i with
        | some d => d.isSlot = false ∧ Q d
        | none => False
      | none => False
  | _ => False
theorem atI_reps {K : PySem.W.Frag} {W : Wd} {vs : List V} {ds : List D} (r : Reps K W vs ds) {i : Int} {d : D} (h : atI ds i = some d) : ∃ v, atI vs i = some v ∧ Rep K W v d := by
  unfold atI at h ⊢
  rw [r.length]
  cases e : ixN ds.length i with
  | none => rw [e] at h; cases h
  | some j =>
    rw [e] at h
    exact r.get h
theorem snd_ix : SndR K (rIx K) fIx := by
  intro c W σ s x y d1 d2 Qv Qd R r1 r2 h k
  unfold fIx at h
  split at h
  · rename_i i
    cases r2
    split at h
    · rename_i z
      obtain ⟨hz, cc, hc, q⟩ := h
      cases r1
      exact .inr (.inr ⟨z, i, cc, rfl, rfl, hz, hc, k _ W _ R (Pr.refl _) (Rep.str _).t q⟩)
    · cases e1 : asSeq s d1 with
      | none => rw [e1] at h; exact h.elim
      | some xs =>
        rw [e1] at h
        simp only at h
        cases e2 : atI xs i with
        | none => rw [e2] at h; exact h.elim
        | some dd =>
          rw [e2] at h
          obtain ⟨l, vs, rfl, hs, p1⟩ := asSeq_spec R r1 e1
          obtain ⟨v, hv, rv⟩ := atI_reps p1 e2
          rcases hs with hs | hs
          · exact .inl ⟨l, vs, i, v, rfl, rfl, hs, hv, k v W dd R (Pr.refl _) rv.t h.2⟩
          · exact .inr (.inl ⟨l, vs, i, v, rfl, rfl, hs.sq, hv, k v W dd R (Pr.refl _) rv.t h.2⟩)
  · exact h.elim
theorem d_ix (ha : PD X a tea ta) (hb : PD X b teb tb) (hs : PlainIx b := by exact fun _ _ => rfl) : PD X (.Subscript a b pos) (tOp (rIx X.K) tea teb) (dOp fIx ta tb) := ⟨pe_ix ix_seq ha.pe hb.pe hs, snd_op snd_ix ha.snd hb.snd⟩

/-! ### tests -/
theorem dt_val (h : PD X e te t) (he : ∀ whole, isTrue e X.env whole = (do let v ← whole; standAt e.pos; holding [v] (truthy v)) := by intro _; rfl) : PDT X e (tB te) (dB t) := by
  refine ⟨pt_val h.pe he, ?_⟩
  intro c W σ s Qv Qd R hq k
  refine h.snd c W σ s _ _ R hq fun v W1 d s1 R1 p1 r1 q1 => ?_
  cases d with
  | bl b =>
    cases r1
    exact ⟨b, rfl, k b W1 s1 R1 p1 q1⟩
  | _ => exact q1.elim
/-- truth of a value -/
def dTru (s : DS) : D → Option Bool
  | .non => some false
  | .bl b => some b
  | .int i => some (i != 0)
  | .str y => if y.length ≤ sizeLine then some ((y.length : Int) != 0) else none
  | d => (asSeq s d).map fun xs => !xs.isEmpty
def dTr (t : DE) : DT := fun s Q => t s fun d s1 => match dTru s1 d with
  | some b => Q b s1
  | none => False
theorem Reps.isEmpty {K : PySem.W.Frag} {W : Wd} {vs : List V} {ds : List D} (r : Reps K W vs ds) : (!ds.isEmpty) = !vs.isEmpty := by
  cases r <;> rfl
theorem tru_seq {W : Wd} {σ : St} {s : DS} {x : V} {d : D} {b : Bool} (R : Rel K c W σ s) (r : RepT K W σ x d) (h : ((asSeq s d).map fun xs => !xs.isEmpty) = some b) : TruV K x W.H b := by
  cases e : asSeq s d with
  | none => rw [e] at h; cases h
  | some xs =>
    rw [e] at h
    cases h
    obtain ⟨l, vs, rfl, hs, p⟩ := asSeq_spec R r e
    rcases hs with hs | hs
    · exact .inl ⟨vs, hs, p.isEmpty⟩
    · exact .inr (.inl ⟨vs, hs.sq, p.isEmpty⟩)
theorem tru_spec {W : Wd} {σ : St} {s : DS} {x : V} {d : D} {b : Bool} (R : Rel K c W σ s) (r : RepT K W σ x d) (h : dTru s d = some b) : TruV K x W.H b := by
  cases d with
  | non => cases r; cases h; rfl
  | bl _ => cases r; cases h; rfl
  | int _ => cases r; cases h; rfl
  | str y =>
    cases r
    have h' : (if y.length ≤ sizeLine then some ((y.length : Int) != 0) else none) = some b := h
    by_cases hz : y.length ≤ sizeLine
    · rw [if_pos hz] at h'
      cases h'
      exact ⟨hz, rfl⟩
    · rw [if_neg hz] at h'
      cases h'
  | _ => exact tru_seq R r h
theorem dt_tru (h : PD X e te t) (he : ∀ whole, isTrue e X.env whole = (do let v ← whole; standAt e.pos; holding [v] (truthy v)) := by intro _; rfl) :
    PDT X e (fun σ H Q => te σ H fun x H' => ∃ k, TruV X.K x H' k ∧ Q k H') (dTr t) := by
  refine ⟨pt_truth h.pe he, ?_⟩
  intro c W σ s Qv Qd R hq k
  refine h.snd c W σ s _ _ R hq fun v W1 d s1 R1 p1 r1 q1 => ?_
  cases e : dTru s1 d with
  | none => rw [e] at q1; exact q1.elim
  | some b =>
    rw [e] at q1
    exact ⟨b, tru_spec R1 r1 e, k b W1 s1 R1 p1 q1⟩
def dAnd (t u : DT) : DT := fun s Q => t s fun b s1 => if b = true then u s1 Q else Q false s1
def dOr (t u : DT) : DT := fun s Q => t s fun b s1 => if b = true then Q true s1 else u s1 Q
def dNot (t : DT) : DT := fun s Q => t s fun b s1 => Q (!b) s1
theorem snd_and (h1 : SndT K tta da) (h2 : SndT K ttb db) : SndT K (tAnd tta ttb) (dAnd da db) := by
  intro c W σ s Qv Qd R hq k
  refine h1 c W σ s _ _ R hq fun b W1 s1 R1 p1 q1 => ?_
  cases b with
  | true => exact h2 c W1 σ s1 _ _ R1 q1 fun b W2 s2 R2 p2 q2 => k b W2 s2 R2 (p1.trans p2) q2
  | false => exact k false W1 s1 R1 p1 q1
theorem snd_or (h1 : SndT K tta da) (h2 : SndT K ttb db) : SndT K (tOr tta ttb) (dOr da db) := by
  intro c W σ s Qv Qd R hq k
  refine h1 c W σ s _ _ R hq fun b W1 s1 R1 p1 q1 => ?_
  cases b with
  | false => exact h2 c W1 σ s1 _ _ R1 q1 fun b W2 s2 R2 p2 q2 => k b W2 s2 R2 (p1.trans p2) q2
  | true => exact k true W1 s1 R1 p1 q1
structure PDW (X : Cx) (e : Expr) (tt : TT) (t : DT) : Prop where
  pw : PW X e tt
  snd : SndT X.K tt t
theorem PDW.pt (h : PDW X e tt d) : PDT X e tt d := ⟨h.pw.pt, h.snd⟩
theorem dw_and1 (h : PDT X a tta da) : PDW X (.BoolOp .And [a] pos) tta da := ⟨pw_and1 h.pt, h.snd⟩
theorem dw_or1 (h : PDT X a tta da) : PDW X (.BoolOp .Or [a] pos) tta da := ⟨pw_or1 h.pt, h.snd⟩
theorem dw_and (h1 : PDT X a tta da) (h2 : PDW X (.BoolOp .And (b :: rest) pos) ttb db) : PDW X (.BoolOp .And (a :: b :: rest) pos) (tAnd tta ttb) (dAnd da db) := ⟨pw_and h1.pt h2.pw, snd_and h1.snd h2.snd⟩
theorem dw_or (h1 : PDT X a tta da) (h2 : PDW X (.BoolOp .Or (b :: rest) pos) ttb db) : PDW X (.BoolOp .Or (a :: b :: rest) pos) (tOr tta ttb) (dOr da db) := ⟨pw_or h1.pt h2.pw, snd_or h1.snd h2.snd⟩
theorem dt_not (h : PDT X a tta da) : PDT X (.UnaryOp .Not a pos) (tNot tta) (dNot da) :=
  ⟨pt_not h.pt, fun c W σ s Qv Qd R hq k => h.snd c W σ s _ _ R hq fun b W1 s1 R1 p1 q1 => k (!b) W1 s1 R1 p1 q1⟩
/-! .. as values -/
def dAndV (t u : DE) : DE := fun s Q => t s fun d s1 => match d with
  | .bl b => if b = true then u s1 Q else Q (.bl false) s1
  | _ => False
def dOrV (t u : DE) : DE := fun s Q => t s fun d s1 => match d with
  | .bl b => if b = true then Q (.bl true) s1 else u s1 Q
  | _ => False
def dNotV (t : DE) : DE := fun s Q => t s fun d s1 => match d with
  | .bl b => Q (.bl (!b)) s1
  | _ => False
theorem d_one {op} (h : PD X a tea ta) : PD X (.BoolOp op [a] pos) tea ta := ⟨pe_one h.pe, h.snd⟩
theorem d_and (h1 : PD X a tea ta) (h2 : PD X (.BoolOp .And (b :: rest) pos) teb tb) : PD X (.BoolOp .And (a :: b :: rest) pos) (tAndV tea teb) (dAndV ta tb) := by
  refine ⟨pe_and h1.pe h2.pe, ?_⟩
  intro c W σ s Qv Qd R hq k
  refine h1.snd c W σ s _ _ R hq fun v W1 d s1 R1 p1 r1 q1 => ?_
  cases d with
  | bl b =>
    cases r1
    refine ⟨b, rfl, ?_⟩
    cases b with
    | true => exact h2.snd c W1 σ s1 _ _ R1 q1 fun v W2 d s2 R2 p2 r2 q2 => k v W2 d s2 R2 (p1.trans p2) r2 q2
    | false => exact k _ W1 _ s1 R1 p1 (Rep.bl false).t q1
  | _ => exact q1.elim
theorem d_or (h1 : PD X a tea ta) (h2 : PD X (.BoolOp .Or (b :: rest) pos) teb tb) : PD X (.BoolOp .Or (a :: b :: rest) pos) (tOrV tea teb) (dOrV ta tb) := by
  refine ⟨pe_or h1.pe h2.pe, ?_⟩
  intro c W σ s Qv Qd R hq k
  refine h1.snd c W σ s _ _ R hq fun v W1 d s1 R1 p1 r1 q1 => ?_
  cases d with
  | bl b =>
    cases r1
    refine ⟨b, rfl, ?_⟩
    cases b with
    | false => exact h2.snd c W1 σ s1 _ _ R1 q1 fun v W2 d s2 R2 p2 r2 q2 => k v W2 d s2 R2 (p1.trans p2) r2 q2
    | true => exact k _ W1 _ s1 R1 p1 (Rep.bl true).t q1
  | _ => exact q1.elim
theorem d_not (h : PD X a tea ta) : PD X (.UnaryOp .Not a pos) (tNotV tea) (dNotV ta) := by
  refine ⟨pe_not h.pe, ?_⟩
  intro c W σ s Qv Qd R hq k
  refine h.snd c W σ s _ _ R hq fun v W1 d s1 R1 p1 r1 q1 => ?_
  cases d with
  | bl b =>
    cases r1
    exact ⟨b, rfl, k _ W1 _ s1 R1 p1 (Rep.bl _).t q1⟩
  | _ => exact q1.elim
def dIf (t : DT) (ta tb : DE) : DE := fun s Q => t s fun b s1 => if b = true then ta s1 Q else tb s1 Q
theorem d_if {q : Expr} (h : PDT X q tt d) (h1 : PD X a tea ta) (h2 : PD X b teb tb) : PD X (.IfExp q a b pos) (tIf tt tea teb) (dIf d ta tb) := by
  refine ⟨pe_ifExp h.pt h1.pe h2.pe, ?_⟩
  intro c W σ s Qv Qd R hq k
  refine h.snd c W σ s _ _ R hq fun b W1 s1 R1 p1 q1 => ?_
  cases b with
  | true => exact h1.snd c W1 σ s1 _ _ R1 q1 fun v W2 d s2 R2 p2 r2 q2 => k v W2 d s2 R2 (p1.trans p2) r2 q2
  | false => exact h2.snd c W1 σ s1 _ _ R1 q1 fun v W2 d s2 R2 p2 r2 q2 => k v W2 d s2 R2 (p1.trans p2) r2 q2
/-- -a -/
def dNeg (t : DE) : DE := fun s Q => t s fun d s1 => match d with
  | .int i => Q (.int (-i)) s1
  | _ => False
theorem d_neg (h : PD X a tea ta) : PD X (.UnaryOp .USub a pos) (tUn (rU fun i => .int (-i)) tea) (dNeg ta) := by
  refine ⟨pe_un un_neg h.pe, ?_⟩
  intro c W σ s Qv Qd R hq k
  refine h.snd c W σ s _ _ R hq fun v W1 d s1 R1 p1 r1 q1 => ?_
  cases d with
  | int i =>
    cases r1
    exact ⟨i, rfl, k _ W1 _ s1 R1 p1 (Rep.int _).t q1⟩
  | _ => exact q1.elim

/-! ### calls of built-ins by values -/
abbrev DCl := DS → List D → (D → Prop) → Prop
def SndC (K : PySem.W.Frag) (r : List V → Hp → VK → Prop) (f : DCl) : Prop := ∀ (c : C0) (W : Wd) (σ : St) (s : DS) (xs : List V) (ds : List D) (Qv : VK) (Qd : D → Prop), Rel K c W σ s → RepsT K W σ xs ds → f s ds Qd →
  (∀ v W' d, Rel K c W' σ s → Pr W W' → RepT K W' σ v d → Qd d → Qv v W'.H) → r xs W.H Qv
def dCB (f : DCl) (t : DA) : DE := fun s Q => t s fun ds s1 => f s1 ds fun d => Q d s1
theorem snd_cb {r : List V → Hp → VK → Prop} {f : DCl} {taa : TA} {ra : DA} (hr : SndC K r f) (ha : SndA K taa ra) : SndE K (tCB r taa) (dCB f ra) := by
  intro c W σ s Qv Qd R hq k
  refine ha c W σ s _ _ R hq fun vs W1 ds s1 R1 p1 r1 q1 => ?_
  exact hr c W1 σ s1 vs ds _ _ R1 r1 q1 fun v W2 d R2 p2 r2 q2 => k v W2 d s1 R2 (p1.trans p2) r2 q2
/-- f(e, ..), f a built-in function -/
theorem d_callB {x : Str} {p : Pos} {id : String} {r : List V → Hp → VK → Prop} {f : DCl} {taa : TA} {ra : DA} (h : CallR X (.builtin id) r ∧ SndC X.K r f) (hg : Gl X x) (hm : X.mg x = none) (hv : bootBuiltins x = some (.builtin id)) (ha : PDA X (e :: es) taa ra)
    (hn : x ≠ "__name__" := by decide) (hdb : (x == ("__debug__" : Str)) = false := by decide)
    (he : starEach (e :: es) X.env = (false, eval e X.env) :: starEach es X.env := by rfl) (hpl : (backTo pos (starEach es X.env)).any (·.1) = false := by rfl) : PD X (.Call (.Name x p) (e :: es) [] pos) (tCB r taa) (dCB f ra) :=
  ⟨pe_callB h.1 hg hm hv ha.pa hn hdb he hpl, snd_cb h.2 ha.snd⟩
/-- T(e, ..), T a built-in type -/
theorem d_callTy {x : Str} {p : Pos} {T : String} {r : List V → Hp → VK → Prop} {f : DCl} {taa : TA} {ra : DA} (h : CallR X (.type T) r ∧ SndC X.K r f) (hg : Gl X x) (hm : X.mg x = none) (hv : bootBuiltins x = some (.type T)) (ha : PDA X (e :: es) taa ra)
    (hn : x ≠ "__name__" := by decide) (hdb : (x == ("__debug__" : Str)) = false := by decide)
    (he : starEach (e :: es) X.env = (false, eval e X.env) :: starEach es X.env := by rfl) (hpl : (backTo pos (starEach es X.env)).any (·.1) = false := by rfl) : PD X (.Call (.Name x p) (e :: es) [] pos) (tCB r taa) (dCB f ra) :=
  ⟨pe_callTy h.1 hg hm hv ha.pa hn hdb he hpl, snd_cb h.2 ha.snd⟩
end
end DL

namespace DL
open PySem L2

structure DEnds where
  nx : DS → Prop
  rt : D → DS → Prop
  bk : DS → Prop := fun _ => False
  ct : DS → Prop := fun _ => False
abbrev DTS := DEnds → DS → Prop
structure Cmp (K : PySem.W.Frag) (c : C0) (W : Wd) (E : Ends) (F : DEnds) : Prop where
  nx : ∀ W' σ' s', Rel K c W' σ' s' → Pr W W' → F.nx s' → E.nx σ' W'.H
  rt : ∀ v W' σ' d s', Rel K c W' σ' s' → Pr W W' → RepT K W' σ' v d → F.rt d s' → E.rt v W'.H
  bk : ∀ W' σ' s', Rel K c W' σ' s' → Pr W W' → F.bk s' → E.bk σ' W'.H
  ct : ∀ W' σ' s', Rel K c W' σ' s' → Pr W W' → F.ct s' → E.ct σ' W'.H
theorem Cmp.later {c : C0} {W W1 : Wd} {E : Ends} {F : DEnds} (h : Cmp K c W E F) (p : Pr W W1) : Cmp K c W1 E F :=
  ⟨fun W' σ' s' R q => h.nx W' σ' s' R (p.trans q), fun v W' σ' d s' R q => h.rt v W' σ' d s' R (p.trans q), fun W' σ' s' R q => h.bk W' σ' s' R (p.trans q), fun W' σ' s' R q => h.ct W' σ' s' R (p.trans q)⟩
def SndS (K : PySem.W.Frag) (ts : TS) (t : DTS) : Prop := ∀ (c : C0) (W : Wd) (σ : St) (s : DS) (E : Ends) (F : DEnds), Rel K c W σ s → Cmp K c W E F → t F s → ts E σ W.H
structure PDS (X : Cx) (st : Stmt) (ts : TS) (t : DTS) : Prop where
  ps : PS X st ts
  snd : SndS X.K ts t
structure PDSs (X : Cx) (sts : List Stmt) (ts : TS) (t : DTS) : Prop where
  ps : PSs X sts ts
  snd : SndS X.K ts t

/-! ### slots that change -/
section
variable {K : PySem.W.Frag} {c : C0} {W : Wd} {σ : St} {s : DS}
theorem get_set_eq {α : Type} {l : List α} {i : Nat} {x y : α} (h : (l.set i x)[i]? = some y) : y = x ∧ i < l.length := by
  by_cases hi : i < l.length
  · rw [List.getElem?_set_self hi] at h
    exact ⟨(Option.some.inj h).symm, hi⟩
  · rw [List.getElem?_eq_none (by rw [List.length_set]; omega)] at h
    cases h
theorem get_set_ne {α : Type} {l : List α} {i j : Nat} {x : α} (h : i ≠ j) : (l.set i x)[j]? = l[j]? := List.getElem?_set_ne h
/-- slot i gets a new entry; nothing else changes -/
theorem Rel.put (R : Rel K c W σ s) (i : Nat) (v : Option V) (e : EV) (he : i < σ.length → EntOk K c W (σ.set i v) i e)
    (hd : ∀ l, e.isOwn = true → v = some (.ref l) → ∀ j, j ≠ i → ¬ Owns s σ j l) : Rel K c W (σ.set i v) { s with sl := s.sl.set i e } := by
  have ent : ∀ j x, (s.sl.set i e)[j]? = some x → EntOk K c W (σ.set i v) j x := fun j x h => by
    by_cases hj : i = j
    · subst hj
      obtain ⟨rfl, hi⟩ := get_set_eq h
      exact he (by rw [← R.len]; exact hi)
    · rw [get_set_ne hj] at h
      have q := R.ent j x h
      have hs : (σ.set i v)[j]? = σ[j]? := get_set_ne hj
      cases x <;> simp only [EntOk, hs] at q ⊢ <;> exact q
  refine ⟨by rw [List.length_set, List.length_set]; exact R.len, R.m0, R.wpa, ent, ?_, R.sub, R.kp, R.there, R.old, R.mm, R.mo0, R.mop, R.mp, R.npl, R.paw⟩
  have back : ∀ j l, j ≠ i → Owns { s with sl := s.sl.set i e } (σ.set i v) j l → Owns s σ j l := fun j l hj o => by
    obtain ⟨⟨x, h1, h2⟩, h3⟩ := o
    have h1' : (s.sl.set i e)[j]? = some x := h1
    rw [get_set_ne (Ne.symm hj)] at h1'
    rw [get_set_ne (Ne.symm hj)] at h3
    exact ⟨⟨x, h1', h2⟩, h3⟩
  have at_ : ∀ l, Owns { s with sl := s.sl.set i e } (σ.set i v) i l → e.isOwn = true ∧ v = some (.ref l) := fun l o => by
    obtain ⟨⟨x, h1, h2⟩, h3⟩ := o
    obtain ⟨rfl, hi⟩ := get_set_eq h1
    rw [List.getElem?_set_self (by rw [← R.len]; exact hi)] at h3
    exact ⟨h2, Option.some.inj h3⟩
  intro j k l hj hk
  by_cases h1 : j = i
  · by_cases h2 : k = i
    · rw [h1, h2]
    · subst h1
      obtain ⟨a1, a2⟩ := at_ l hj
      exact absurd (back k l h2 hk) (hd l a1 a2 k h2)
  · by_cases h2 : k = i
    · subst h2
      obtain ⟨a1, a2⟩ := at_ l hk
      exact absurd (back j l h1 hj) (hd l a1 a2 j h1)
    · exact R.dis j k l (back j l h1 hj) (back k l h2 hk)
theorem Rel.putFz (R : Rel K c W σ s) (i : Nat) {v : V} {d : D} (r : Rep K W v d) : Rel K c W (σ.set i (some v)) { s with sl := s.sl.set i (.fz d) } :=
  R.put i (some v) (.fz d) (fun hi => ⟨v, List.getElem?_set_self hi, r⟩) fun _ h => by cases h
theorem Rel.putUn (R : Rel K c W σ s) (i : Nat) (v : Option V) : Rel K c W (σ.set i v) { s with sl := s.sl.set i .un } :=
  R.put i v .un (fun _ => trivial) fun _ h => by cases h
/-- what a slot owns: it is not tracked as data, it is none of the other slots' -/
theorem Rel.owns_ne (R : Rel K c W σ s) {i j : Nat} {l m : Addr} (hi : Owns s σ i l) (hj : Owns s σ j m) (h : i ≠ j) : l ≠ m := fun e => by
  subst e
  exact h (R.dis i j l hi hj)
theorem Owns.ent (R : Rel K c W σ s) {i : Nat} {l : Addr} (h : Owns s σ i l) : W.M l ∧ c.May l ∧ ∃ o, W.H l = some o ∧ ¬ Fix o := by
  obtain ⟨⟨e, h1, h2⟩, h3⟩ := h
  have may : ∀ {l : Addr}, c.H0 l = none → c.May l := fun {l} h0 => ⟨fun e => R.mo0 _ R.mop (e ▸ h0), .inl h0⟩
  have q := R.ent i e h1
  cases e with
  | un => cases h2
  | fz _ => cases h2
  | own xs =>
    obtain ⟨l', vs, a1, a2, a3, a4, a5⟩ := q
    rw [h3] at a1; cases a1
    exact ⟨a2, may a3, _, a4, fun z => z⟩
  | ownT xs =>
    obtain ⟨l', vs, a1, a2, a3, a4, a5⟩ := q
    rw [h3] at a1; cases a1
    exact ⟨a2, may a3, _, a4, fun z => z⟩
  | ownK xs =>
    obtain ⟨l', vs, a1, a2, a3, a4, a5⟩ := q
    rw [h3] at a1; cases a1
    exact ⟨a2, may a3, _, a4, fun z => z⟩
  | ownI C xs =>
    obtain ⟨l', dx, vs, a1, a2, a3, a4, a5⟩ := q
    rw [h3] at a1; cases a1
    exact ⟨a2, a3, _, a4, fun z => z⟩
theorem Pr.mut {l : Addr} {o o' : HO} (hm : W.M l) (ho : W.H l = some o) (hf : ¬ Fix o) : Pr W ⟨W.M, upd W.H l o', W.pa⟩ := ⟨fun a u h k => by
  have ne : a ≠ l := fun e => by
    subst e
    rw [ho] at h
    cases h
    rcases k with k | k
    · exact k hm
    · exact hf k
  exact ⟨(upd_ne ne).trans h, id⟩, rfl⟩
/-- the object that slot i owns is written: its new entry e -/
theorem Rel.write (R : Rel K c W σ s) {i : Nat} {l : Addr} {o : HO} (e : EV) (ho : Owns s σ i l) (hpl : l ≠ c.pl)
    (he : EntOk K c ⟨W.M, upd W.H l o, W.pa⟩ σ i e) (hown : e.isOwn = true) : Rel K c ⟨W.M, upd W.H l o, W.pa⟩ σ { s with sl := s.sl.set i e } := by
  obtain ⟨hm, hmay, u, hu, hf⟩ := ho.ent R
  have P : Pr W ⟨W.M, upd W.H l o, W.pa⟩ := Pr.mut hm hu hf
  have other : ∀ j x, j ≠ i → s.sl[j]? = some x → EntOk K c ⟨W.M, upd W.H l o, W.pa⟩ σ j x := fun j x hj h => by
    have q := R.ent j x h
    have ne : ∀ m, x.isOwn = true → σ[j]? = some (some (.ref m)) → m ≠ l := fun m hx hs => R.owns_ne ⟨⟨x, h, hx⟩, hs⟩ ho hj
    cases x with
    | un => trivial
    | fz d =>
      obtain ⟨v, a1, a2⟩ := q
      exact ⟨v, a1, a2.mono P⟩
    | own xs =>
      obtain ⟨m, vs, a1, a2, a3, a4, a5⟩ := q
      exact ⟨m, vs, a1, a2, a3, (upd_ne (ne m rfl a1)).trans a4, a5.mono P⟩
    | ownT xs =>
      obtain ⟨m, vs, a1, a2, a3, a4, a5, a6⟩ := q
      exact ⟨m, vs, a1, a2, a3, (upd_ne (ne m rfl a1)).trans a4, a5, a6.mono P⟩
    | ownK xs =>
      obtain ⟨m, vs, a1, a2, a3, a4, a5, a6⟩ := q
      exact ⟨m, vs, a1, a2, a3, (upd_ne (ne m rfl a1)).trans a4, a5, a6.mono P⟩
    | ownI C xs =>
      obtain ⟨m, dx, vs, a1, a2, a3, a4, a5, a6⟩ := q
      exact ⟨m, dx, vs, a1, a2, a3, (upd_ne (ne m rfl a1)).trans a4, a5, a6.mono P⟩
  have bk : ∀ j m, Owns { s with sl := s.sl.set i e } σ j m → Owns s σ j m := fun j m q => by
    obtain ⟨⟨x, h1, h2⟩, h3⟩ := q
    by_cases hj : i = j
    · subst hj
      exact ⟨ho.1, h3⟩
    · have h1' : (s.sl.set i e)[j]? = some x := h1
      rw [get_set_ne hj] at h1'
      exact ⟨⟨x, h1', h2⟩, h3⟩
  refine ⟨by rw [List.length_set]; exact R.len, R.m0, R.wpa, fun j x h => ?_, fun j k m a b => R.dis j k m (bk j m a) (bk k m b), R.sub, fun a u h n => ?_, fun a h => ?_, R.old, R.mm, R.mo0, R.mop, R.mp, R.npl, ?_⟩
  · by_cases hj : i = j
    · subst hj
      obtain ⟨rfl, hi⟩ := get_set_eq h
      exact he
    · rw [get_set_ne hj] at h
      exact other j x (Ne.symm hj) h
  · have ne : a ≠ l := fun z => by
      subst z
      rcases hmay.2 with q | q
      · rw [h] at q; cases q
      · exact n q
    exact (upd_ne ne).trans (R.kp a u h n)
  · by_cases z : a = l
    · subst z; exact ⟨o, upd_same⟩
    · obtain ⟨u, q⟩ := R.there a h
      exact ⟨u, (upd_ne z).trans q⟩
  · obtain ⟨t, r, ns, h1, h2, h3⟩ := R.paw
    exact ⟨t, r, ns, (upd_ne (Ne.symm hmay.1)).trans h1, (upd_ne (Ne.symm hpl)).trans h2, h3⟩
theorem Owns.npl (R : Rel K c W σ s) {i : Nat} {l : Addr} (h : Owns s σ i l) : l ≠ c.pl := fun e => R.npl (e ▸ (h.ent R).1)
/-- a new object that is the def's own -/
theorem Rel.laid (R : Rel K c W σ s) {p : Addr} (o : HO) (hp : W.H p = none) : Rel K c ⟨fun a => W.M a ∨ a = p, upd W.H p o, W.pa⟩ σ s := by
  have P : Pr W ⟨fun a => W.M a ∨ a = p, upd W.H p o, W.pa⟩ := ⟨fun a u h _ => ⟨(upd_ne (ne_of_none h hp)).trans h, fun n z => z.elim n fun e => by subst e; rw [hp] at h; cases h⟩, rfl⟩
  have K := same_new (o := o) hp
  refine ⟨R.len, R.m0, R.wpa, fun j x h => ?_, R.dis, fun a h => .inl (R.sub a h), fun a u h n => K _ _ (R.kp a u h n), fun a h => ?_, fun a h1 h2 => ?_, fun a h => .inl (R.mm a h), R.mo0, R.mop, .inl R.mp, fun z => ?_, R.paw.same K⟩
  · have q := R.ent j x h
    cases x with
    | un => trivial
    | fz d =>
      obtain ⟨v, a1, a2⟩ := q
      exact ⟨v, a1, a2.mono P⟩
    | own xs =>
      obtain ⟨m, vs, a1, a2, a3, a4, a5⟩ := q
      exact ⟨m, vs, a1, .inl a2, a3, K _ _ a4, a5.mono P⟩
    | ownT xs =>
      obtain ⟨m, vs, a1, a2, a3, a4, a5, a6⟩ := q
      exact ⟨m, vs, a1, .inl a2, a3, K _ _ a4, a5, a6.mono P⟩
    | ownK xs =>
      obtain ⟨m, vs, a1, a2, a3, a4, a5, a6⟩ := q
      exact ⟨m, vs, a1, .inl a2, a3, K _ _ a4, a5, a6.mono P⟩
    | ownI C xs =>
      obtain ⟨m, dx, vs, a1, a2, a3, a4, a5, a6⟩ := q
      exact ⟨m, dx, vs, a1, .inl a2, a3, K _ _ a4, a5, a6.mono P⟩
  · rcases h with h | rfl
    · obtain ⟨u, q⟩ := R.there a h
      exact ⟨u, K _ _ q⟩
    · exact ⟨o, upd_same⟩
  · rcases h2 with h2 | rfl
    · exact R.old a h1 h2
    · exfalso
      cases e : c.H0 a with
      | none => exact h1 e
      | some u =>
        by_cases z : c.mo a
        · obtain ⟨v, q⟩ := R.there a (R.mm a z)
          rw [hp] at q
          cases q
        · have q := R.kp a u e z
          rw [hp] at q
          cases q
  · rcases z with z | z
    · exact R.npl z
    · obtain ⟨t, r, ns, h1, h2, h3⟩ := R.paw
      rw [z] at h2
      rw [hp] at h2
      cases h2
end
end DL

namespace DL
open PySem L2
section
variable {X : Cx} {K : PySem.W.Frag} {c : C0} {e : Expr} {es : List Expr} {te : TE} {t : DE} {pos : Pos} {st : Stmt} {sts : List Stmt} {ts us : TS} {d u : DTS} {tt : TT} {dt : DT}
/-! ### blocks, small statements -/
def dNext : DTS := fun F s => F.nx s
def dSeq (a b : DTS) : DTS := fun F s => a { F with nx := b F } s
theorem dss_nil : PDSs X [] tNext dNext := ⟨pss_nil, fun c W σ s E F R C h => C.nx W σ s R (Pr.refl _) h⟩
theorem snd_seq (h1 : SndS K ts d) (h2 : SndS K us u) : SndS K (tSeq ts us) (dSeq d u) := fun c W σ s E F R C h =>
  h1 c W σ s _ { F with nx := u F } R ⟨fun W' σ' s' R' p q => h2 c W' σ' s' E F R' (C.later p) q, C.rt, C.bk, C.ct⟩ h
theorem dss_cons (h1 : PDS X st ts d) (h2 : PDSs X sts us u) : PDSs X (st :: sts) (tSeq ts us) (dSeq d u) := ⟨pss_cons h1.ps h2.ps, snd_seq h1.snd h2.snd⟩
theorem dss_one (h1 : PDS X st ts d) : PDSs X [st] ts d := ⟨pss_one h1.ps, h1.snd⟩
def dBreak : DTS := fun F s => F.bk s
def dCont : DTS := fun F s => F.ct s
theorem ds_pass : PDS X (.Pass pos) tNext dNext := ⟨ps_pass, fun c W σ s E F R C h => C.nx W σ s R (Pr.refl _) h⟩
theorem ds_break : PDS X (.Break pos) tBreak dBreak := ⟨ps_break, fun c W σ s E F R C h => C.bk W σ s R (Pr.refl _) h⟩
theorem ds_continue : PDS X (.Continue pos) tCont dCont := ⟨ps_continue, fun c W σ s E F R C h => C.ct W σ s R (Pr.refl _) h⟩
def dNever : DTS := fun _ _ => False
theorem ds_never : PDS X st tNever dNever := ⟨ps_never, fun _ _ _ _ _ _ _ _ h => h.elim⟩
theorem dss_never : PDSs X sts tNever dNever := ⟨pss_never, fun _ _ _ _ _ _ _ _ h => h.elim⟩
def dDrop (t : DE) : DTS := fun F s => t s fun _ s1 => F.nx s1
theorem ds_expr (he : PD X e te t) (hs : swapsWith e none pos.line X.env = pure false := by rfl) : PDS X (.Expr e pos) (tDrop te) (dDrop t) :=
  ⟨ps_expr he.pe hs, fun c W σ s E F R C h => he.snd c W σ s _ _ R h fun v W1 d s1 R1 p1 r1 q1 => C.nx W1 σ s1 R1 p1 q1⟩
def dRet (t : DE) : DTS := fun F s => t s F.rt
theorem ds_ret (he : PD X e te t) : PDS X (.Return (some e) pos) (tRet te) (dRet t) :=
  ⟨ps_ret he.pe, fun c W σ s E F R C h => he.snd c W σ s _ _ R h fun v W1 d s1 R1 p1 r1 q1 => C.rt v W1 σ d s1 R1 p1 r1 q1⟩
def dRetN : DTS := fun F s => F.rt .non s
theorem ds_retN : PDS X (.Return none pos) tRetN dRetN := ⟨ps_retN, fun c W σ s E F R C h => C.rt .non W σ .non s R (Pr.refl _) (Rep.non).t h⟩
def dIfS (q : DT) (a b : DTS) : DTS := fun F s => q s fun k s1 => if k = true then a F s1 else b F s1
theorem ds_if {q : Expr} {a b : List Stmt} (hq : PDT X q tt dt) (ha : PDSs X a ts d) (hb : PDSs X b us u) : PDS X (.If q a b pos) (tIfS tt ts us) (dIfS dt d u) := by
  refine ⟨ps_if hq.pt ha.ps hb.ps, fun c W σ s E F R C h => ?_⟩
  refine hq.snd c W σ s _ _ R h fun k W1 s1 R1 p1 q1 => ?_
  cases k with
  | true => exact ha.snd c W1 σ s1 E F R1 (C.later p1) q1
  | false => exact hb.snd c W1 σ s1 E F R1 (C.later p1) q1

/-! ### targets -/
abbrev DG := D → DS → (DS → Prop) → Prop
def SndG (K : PySem.W.Frag) (g : TG) (t : DG) : Prop := ∀ (c : C0) (W : Wd) (σ : St) (s : DS) (v : V) (d : D) (Qv : St → Hp → Prop) (Qd : DS → Prop), Rel K c W σ s → Rep K W v d → t d s Qd →
  (∀ W' σ' s', Rel K c W' σ' s' → Pr W W' → Qd s' → Qv σ' W'.H) → g v σ W.H Qv
structure PDG (X : Cx) (tg : Expr) (g : TG) (t : DG) : Prop where
  pg : PG X tg g
  snd : SndG X.K g t
def dgName (i : Nat) : DG := fun d s Q => Q { s with sl := s.sl.set i (.fz d) }
theorem snd_gName {i : Nat} : SndG K (gName i) (dgName i) := fun c W σ s v d Qv Qd R r h k => k W _ _ (R.putFz i r) (Pr.refl _) h
theorem dg_name {i : Nat} {x : Str} (hN : X.N.Nodup) (hi : X.N[i]? = some x) (hx : Loc X.env.scope x) (hf : X.fn x = true ∨ X.env.scope.names.lookup x = some .local := by first | exact .inl rfl | exact .inr rfl | assumption) : PDG X (.Name x pos) (gName i) (dgName i) :=
  ⟨pg_name hN hi hx hf, snd_gName⟩
abbrev DGs := List D → DS → (DS → Prop) → Prop
def SndGs (K : PySem.W.Frag) (g : TGs) (t : DGs) : Prop := ∀ (c : C0) (W : Wd) (σ : St) (s : DS) (vs : List V) (ds : List D) (Qv : St → Hp → Prop) (Qd : DS → Prop), Rel K c W σ s → Reps K W vs ds → t ds s Qd →
  (∀ W' σ' s', Rel K c W' σ' s' → Pr W W' → Qd s' → Qv σ' W'.H) → g vs σ W.H Qv
structure PDGs (X : Cx) (tgs : List Expr) (g : TGs) (t : DGs) : Prop where
  pgs : PGs X tgs g
  snd : SndGs X.K g t
def dgNil : DGs := fun ds s Q => match ds with
  | [] => Q s
  | _ => False
def dgCons (a : DG) (b : DGs) : DGs := fun ds s Q => match ds with
  | d :: r => a d s fun s1 => b r s1 Q
  | _ => False
theorem dgs_nil : PDGs X [] gNil dgNil := by
  refine ⟨pgs_nil, fun c W σ s vs ds Qv Qd R r h k => ?_⟩
  cases r with
  | nil => exact ⟨rfl, k W σ s R (Pr.refl _) h⟩
  | cons _ _ => exact h.elim
theorem dgs_cons {tg : Expr} {tgs : List Expr} {g : TG} {gs : TGs} {a : DG} {b : DGs} (h1 : PDG X tg g a) (h2 : PDGs X tgs gs b)
    (hs : (assignEach (tg :: tgs) X.env).map (·.2) = assign tg X.env :: (assignEach tgs X.env).map (·.2) := by rfl) : PDGs X (tg :: tgs) (gCons g gs) (dgCons a b) := by
  refine ⟨pgs_cons h1.pg h2.pgs hs, fun c W σ s vs ds Qv Qd R r h k => ?_⟩
  cases r with
  | nil => exact h.elim
  | cons rv rr => exact ⟨_, _, rfl, h1.snd c W σ s _ _ _ _ R rv h fun W1 σ1 s1 R1 p1 q1 => h2.snd c W1 σ1 s1 _ _ _ _ R1 (rr.mono p1) q1 fun W2 σ2 s2 R2 p2 q2 => k W2 σ2 s2 R2 (p1.trans p2) q2⟩
/-- (a, b, ..) = a tuple of that length -/
def dgTup (n : Nat) (t : DGs) : DG := fun d s Q => match d with
  | .tup ds => ds.length = n ∧ t ds s Q
  | _ => False
theorem dg_tup {k n : Nat} {gs : TGs} {a : DGs} (hc : X.calm = true) (h : PDGs X es gs a) (hn : (assignEach es X.env).length = n := by rfl) (hst : (assignEach es X.env).findIdx? (·.1) = none := by rfl) :
    PDG X (.Tuple es k pos) (gTup X.K n gs) (dgTup n a) := by
  refine ⟨pg_tup hc h.pgs hn hst, fun c W σ s v d Qv Qd R r hw k => ?_⟩
  cases r with
  | tup q r => exact ⟨_, _, rfl, q.sq, by rw [r.length]; exact hw.1, h.snd c W σ s _ _ _ _ R r hw.2 k⟩
  | _ => exact hw.elim
def dAsg (t : DE) (g : DG) : DTS := fun F s => t s fun d s1 => d.isSlot = false ∧ g d s1 F.nx
theorem snd_asg {g : TG} {a : DG} (he : SndE K te t) (hg : SndG K g a) : SndS K (tAsg te g) (dAsg t a) := fun c W σ s E F R C h =>
  he c W σ s _ _ R h fun v W1 d s1 R1 p1 r1 q1 => hg c W1 σ s1 v d _ _ R1 (r1.to q1.1) q1.2 fun W2 σ2 s2 R2 p2 q2 => C.nx W2 σ2 s2 R2 (p1.trans p2) q2
theorem ds_asg {tg : Expr} {g : TG} {a : DG} (he : PD X e te t) (hg : PDG X tg g a) (hs : swapsWithSole [tg] e pos.line X.env = pure false := by rfl) (hw : swappedStores [tg] e X.env = pure none := by rfl)
    (h1 : (assignEach [tg] X.env).map (·.2) = [assign tg X.env] := by rfl) : PDS X (.Assign [tg] e pos) (tAsg te g) (dAsg t a) := ⟨ps_asg he.pe hg.pg hs hw h1, snd_asg he.snd hg.snd⟩
/-- x = e, from then on as data -/
theorem ds_set {i : Nat} {x : Str} {pos' : Pos} (hN : X.N.Nodup) (hi : X.N[i]? = some x) (hx : Loc X.env.scope x) (he : PD X e te t) (hs : swapsWith e (some (.Name x pos')) pos.line X.env = pure false := by rfl)
    (hf : X.fn x = true ∨ X.env.scope.names.lookup x = some .local := by first | exact .inl rfl | exact .inr rfl | assumption) : PDS X (.Assign [.Name x pos'] e pos) (tAsg te (gName i)) (dAsg t (dgName i)) :=
  ⟨ps_set hN hi hx he.pe hs hf, snd_asg he.snd snd_gName⟩
/-- a, b = x, y -/
def dPar (i j : Nat) (r : DA) : DTS := fun F s => r s fun ds s1 => match ds with
  | [a, b] => a.isSlot = false ∧ b.isSlot = false ∧ F.nx { s1 with sl := (s1.sl.set i (.fz a)).set j (.fz b) }
  | _ => False
theorem ds_par {i j : Nat} {x y : Str} {a b : Expr} {taa : TA} {r : DA} {px py pt : Pos} {kt k2 pt2} (hc : X.calm = true) (hN : X.N.Nodup) (hi : X.N[i]? = some x) (hj : X.N[j]? = some y) (hij : i ≠ j)
    (hx : X.env.scope.names.lookup x = some .local) (hy : X.env.scope.names.lookup y = some .local) (ha : PDA X [a, b] taa r)
    (hw : swappedStores [.Tuple [.Name x px, .Name y py] kt pt] (.Tuple [a, b] k2 pt2) X.env = pure (some [x, y]))
    (hs : swapsWithSole [.Tuple [.Name x px, .Name y py] kt pt] (.Tuple [a, b] k2 pt2) pos.line X.env = pure false := by rfl) :
    PDS X (.Assign [.Tuple [.Name x px, .Name y py] kt pt] (.Tuple [a, b] k2 pt2) pos) (tPar i j taa) (dPar i j r) := by
  refine ⟨ps_par hc hN hi hj hij hx hy ha.pa hw hs, fun c W σ s E F R C h => ?_⟩
  refine ha.snd c W σ s _ _ R h fun vs W1 ds s1 R1 p1 r1 q1 => ?_
  cases r1 with
  | nil => exact q1.elim
  | cons ra r1 =>
    cases r1 with
    | nil => exact q1.elim
    | cons rb r1 =>
      cases r1 with
      | nil =>
        obtain ⟨n1, n2, q⟩ := q1
        refine ⟨_, _, rfl, ?_⟩
        exact C.nx W1 _ _ ((R1.putFz i (ra.to n1)).putFz j (rb.to n2)) p1 q
      | cons _ _ => exact q1.elim
/-- x op= e -/
def fIp (o : Int → Int → Int) : DR := fI0 fun i j => .int (o i j)
def dAug (i : Nat) (t : DE) (f : DR) : DTS := fun F s => match s.sl[i]? with
  | some (.fz a) => t s fun b s1 => f s1 a b fun d => d.isSlot = false ∧ F.nx { s1 with sl := s1.sl.set i (.fz d) }
  | _ => False
theorem ds_augI {i : Nat} {x : Str} {op : Operator} {o : Int → Int → Int} {pos' : Pos} (ho : PIp X op (ipI o)) (hN : X.N.Nodup) (hi : X.N[i]? = some x) (hx : Loc X.env.scope x) (he : PD X e te t)
    (hf : X.fn x = true ∨ X.env.scope.names.lookup x = some .local := by first | exact .inl rfl | exact .inr rfl | assumption) : PDS X (.AugAssign (.Name x pos') op e pos) (tAug i te (ipI o)) (dAug i t (fIp o)) := by
  refine ⟨ps_aug hN hi hx he.pe ho hf, fun c W σ s E F R C h => ?_⟩
  unfold dAug at h
  cases q : s.sl[i]? with
  | none => rw [q] at h; exact h.elim
  | some en =>
    rw [q] at h
    cases en with
    | fz a =>
      obtain ⟨v, h1, rv⟩ := R.ent i _ q
      refine ⟨v, h1, ?_⟩
      refine he.snd c W σ s _ _ R h fun y W1 b s1 R1 p1 r1 q1 => ?_
      cases a with
      | int m =>
        cases b with
        | int n =>
          cases rv
          cases r1
          refine ⟨m, n, rfl, rfl, ?_⟩
          exact C.nx W1 _ _ (R1.putFz i (Rep.int _)) p1 q1.2
        | _ => exact q1.elim
      | _ => exact q1.elim
    | _ => exact h.elim

/-! ### new lists -/
abbrev DL_ := DS → (List D → DS → Prop) → Prop
def SndL (K : PySem.W.Frag) (te : TE) (t : DL_) : Prop := ∀ (c : C0) (W : Wd) (σ : St) (s : DS) (Qv : VK) (Qd : List D → DS → Prop), Rel K c W σ s → t s Qd →
  (∀ p vs W' xs s', Rel K c W' σ s' → Pr W W' → W'.M p → W'.H p = some (.lst vs) → Reps K W' vs xs → c.H0 p = none → (∀ j l, Owns s' σ j l → l ≠ p) → Qd xs s' → Qv (.ref p) W'.H) → te σ W.H Qv
structure PL (X : Cx) (e : Expr) (te : TE) (t : DL_) : Prop where
  pe : PE X e te
  snd : SndL X.K te t
theorem Rel.new0 {W : Wd} {σ : St} {s : DS} (R : Rel K c W σ s) {p : Addr} (hp : W.H p = none) : c.H0 p = none := by
  cases e : c.H0 p with
  | none => rfl
  | some u =>
    by_cases z : c.mo p
    · obtain ⟨v, q⟩ := R.there p (R.mm p z)
      rw [hp] at q
      cases q
    · have q := R.kp p u e z
      rw [hp] at q
      cases q
theorem Rel.newOwn {W : Wd} {σ : St} {s : DS} (R : Rel K c W σ s) {p : Addr} (hp : W.H p = none) : ∀ j l, Owns s σ j l → l ≠ p := fun j l o e => by
  subst e
  obtain ⟨_, _, u, h, _⟩ := o.ent R
  rw [hp] at h
  cases h
theorem Pr.laid {W : Wd} {p : Addr} {o : HO} (hp : W.H p = none) : Pr W ⟨fun a => W.M a ∨ a = p, upd W.H p o, W.pa⟩ :=
  ⟨fun a u h _ => ⟨(upd_ne (ne_of_none h hp)).trans h, fun n z => z.elim n fun e => by subst e; rw [hp] at h; cases h⟩, rfl⟩
/-- what a list's maker has to show: at any new place the list is laid -/
theorem newL {W W1 : Wd} {σ : St} {s1 : DS} {vs : List V} {xs : List D} {Qv : VK} {Qd : List D → DS → Prop} (R1 : Rel K c W1 σ s1) (p1 : Pr W W1) (r : Reps K W1 vs xs) (q : Qd xs s1)
    (k : ∀ p vs W' xs s', Rel K c W' σ s' → Pr W W' → W'.M p → W'.H p = some (.lst vs) → Reps K W' vs xs → c.H0 p = none → (∀ j l, Owns s' σ j l → l ≠ p) → Qd xs s' → Qv (.ref p) W'.H) :
    ∀ p, W1.H p = none → Qv (.ref p) (upd W1.H p (.lst vs)) := fun p hp =>
  k p vs ⟨fun a => W1.M a ∨ a = p, upd W1.H p (.lst vs), W1.pa⟩ xs s1 (R1.laid _ hp) (p1.trans (Pr.laid hp)) (.inr rfl) upd_same (r.mono (Pr.laid hp)) (R1.new0 hp) (R1.newOwn hp) q
def dlLst (r : DA) : DL_ := fun s Q => r s fun ds s1 => ds.length ≤ sizeLine ∧ noSlots ds = true ∧ Q ds s1
theorem dl_lst {taa : TA} {r : DA} (h : PDA X es taa r) : PL X (.List es pos) (tLst taa) (dlLst r) := by
  refine ⟨pe_lst h.pa, fun c W σ s Qv Qd R hq k => ?_⟩
  refine h.snd c W σ s _ _ R hq fun vs W1 ds s1 R1 p1 rv q1 => ?_
  obtain ⟨hz, hs, q⟩ := q1
  have rr := rv.to hs
  exact ⟨by rw [rr.length]; exact hz, newL R1 p1 rr q k⟩
/-- a new list, as data -/
def dOfL (t : DL_) : DE := fun s Q => t s fun xs s1 => Q (.lst xs) s1
theorem Rel.freeze {W : Wd} {σ : St} {s : DS} (R : Rel K c W σ s) {p : Addr} (h0 : c.H0 p = none) (no : ∀ j l, Owns s σ j l → l ≠ p) : Rel K c ⟨fun a => W.M a ∧ a ≠ p, W.H, W.pa⟩ σ s ∧ Pr W ⟨fun a => W.M a ∧ a ≠ p, W.H, W.pa⟩ := by
  have P : Pr W ⟨fun a => W.M a ∧ a ≠ p, W.H, W.pa⟩ := ⟨fun a u h _ => ⟨h, fun n z => n z.1⟩, rfl⟩
  have mo_ne : ∀ a, c.mo a → a ≠ p := fun a h e => R.mo0 a h (e ▸ h0)
  refine ⟨⟨R.len, R.m0, R.wpa, fun j x h => ?_, R.dis, fun a h => ⟨R.sub a h, fun e => R.m0 a h (e ▸ h0)⟩, R.kp, fun a h => R.there a h.1, fun a h1 h2 => R.old a h1 h2.1, fun a h => ⟨R.mm a h, mo_ne a h⟩, R.mo0, R.mop, ⟨R.mp, mo_ne _ R.mop⟩, fun z => R.npl z.1, R.paw⟩, P⟩
  have q := R.ent j x h
  cases x with
  | un => trivial
  | fz d =>
    obtain ⟨v, a1, a2⟩ := q
    exact ⟨v, a1, a2.mono P⟩
  | own xs =>
    obtain ⟨m, vs, a1, a2, a3, a4, a5⟩ := q
    exact ⟨m, vs, a1, ⟨a2, no j m ⟨⟨_, h, rfl⟩, a1⟩⟩, a3, a4, a5.mono P⟩
  | ownT xs =>
    obtain ⟨m, vs, a1, a2, a3, a4, a5, a6⟩ := q
    exact ⟨m, vs, a1, ⟨a2, no j m ⟨⟨_, h, rfl⟩, a1⟩⟩, a3, a4, a5, a6.mono P⟩
  | ownK xs =>
    obtain ⟨m, vs, a1, a2, a3, a4, a5, a6⟩ := q
    exact ⟨m, vs, a1, ⟨a2, no j m ⟨⟨_, h, rfl⟩, a1⟩⟩, a3, a4, a5, a6.mono P⟩
  | ownI C xs =>
    obtain ⟨m, dx, vs, a1, a2, a3, a4, a5, a6⟩ := q
    exact ⟨m, dx, vs, a1, ⟨a2, no j m ⟨⟨_, h, rfl⟩, a1⟩⟩, a3, a4, a5, a6.mono P⟩
theorem d_ofL {tl : DL_} (h : PL X e te tl) : PD X e te (dOfL tl) := by
  refine ⟨h.pe, fun c W σ s Qv Qd R hq k => ?_⟩
  refine h.snd c W σ s _ _ R hq fun p vs W1 xs s1 R1 p1 hm hp r h0 no q => ?_
  obtain ⟨R2, p2⟩ := R1.freeze h0 no
  exact k (.ref p) ⟨fun a => W1.M a ∧ a ≠ p, W1.H, W1.pa⟩ (.lst xs) s1 R2 (p1.trans p2) (Rep.lst hp (fun z => z.2 rfl) (r.mono p2)) q
/-- x = a new list, which is the def's own from then on -/
def dOwn (i : Nat) (t : DL_) : DTS := fun F s => t s fun xs s1 => F.nx { s1 with sl := s1.sl.set i (.own xs) }
theorem snd_own {i : Nat} {tl : DL_} (h : SndL K te tl) : SndS K (tAsg te (gName i)) (dOwn i tl) := by
  intro c W σ s E F R C hq
  refine h c W σ s _ _ R hq fun p vs W1 xs s1 R1 p1 hm hp r h0 no q => ?_
  refine C.nx W1 _ _ (R1.put i (some (.ref p)) (.own xs) (fun hi => ⟨p, vs, List.getElem?_set_self hi, hm, h0, hp, r⟩) fun l _ e j hj o => ?_) p1 q
  cases e
  exact no j p o rfl
theorem ds_own {i : Nat} {x : Str} {pos' : Pos} {tl : DL_} (hN : X.N.Nodup) (hi : X.N[i]? = some x) (hx : Loc X.env.scope x) (he : PL X e te tl) (hs : swapsWith e (some (.Name x pos')) pos.line X.env = pure false := by rfl)
    (hf : X.fn x = true ∨ X.env.scope.names.lookup x = some .local := by first | exact .inl rfl | exact .inr rfl | assumption) : PDS X (.Assign [.Name x pos'] e pos) (tAsg te (gName i)) (dOwn i tl) :=
  ⟨ps_set hN hi hx he.pe hs hf, snd_own he.snd⟩
/-- what slot i owns is data from now on -/
def frzE (s : DS) (i : Nat) : DS := match s.sl[i]? with
  | some (.own xs) => { s with sl := s.sl.set i (.fz (.lst xs)) }
  | _ => s
theorem Rel.frz {W : Wd} {σ : St} {s : DS} (R : Rel K c W σ s) (i : Nat) : ∃ W', W'.H = W.H ∧ Rel K c W' σ (frzE s i) ∧ Pr W W' := by
  unfold frzE
  cases q : s.sl[i]? with
  | none => exact ⟨W, rfl, R, Pr.refl _⟩
  | some en =>
    cases en with
    | own xs =>
      obtain ⟨l, vs, h1, h2, h3, h4, h5⟩ := R.ent i _ q
      have h0 : c.H0 l = none := h3
      have Ru : Rel K c W (σ.set i (some (.ref l))) { s with sl := s.sl.set i .un } := R.putUn i _
      have es : σ.set i (some (.ref l)) = σ := by
        apply List.ext_getElem?
        intro j
        by_cases hj : i = j
        · subst hj
          rw [List.getElem?_set_self (List.getElem?_eq_some_iff.mp h1).1, h1]
        · rw [get_set_ne hj]
      rw [es] at Ru
      obtain ⟨R2, p2⟩ := Ru.freeze h0 fun j m o e => by
        subst e
        have hj : j ≠ i := fun z => by
          subst z
          obtain ⟨⟨x, a1, a2⟩, a3⟩ := o
          obtain ⟨rfl, _⟩ := get_set_eq a1
          cases a2
        obtain ⟨⟨x, a1, a2⟩, a3⟩ := o
        have a1' : (s.sl.set i .un)[j]? = some x := a1
        rw [get_set_ne (Ne.symm hj)] at a1'
        exact hj (R.dis j i m ⟨⟨x, a1', a2⟩, a3⟩ ⟨⟨_, q, rfl⟩, h1⟩)
      refine ⟨⟨fun a => W.M a ∧ a ≠ l, W.H, W.pa⟩, rfl, ?_, p2⟩
      have R3 := R2.putFz i (v := .ref l) (d := .lst xs) (Rep.lst h4 (fun z => z.2 rfl) (h5.mono p2))
      rw [es] at R3
      have e3 : (s.sl.set i .un).set i (.fz (.lst xs)) = s.sl.set i (.fz (.lst xs)) := List.set_set _
      have R3' : Rel K c ⟨fun a => W.M a ∧ a ≠ l, W.H, W.pa⟩ σ ⟨(s.sl.set i .un).set i (.fz (.lst xs)), s.bud⟩ := R3
      rw [e3] at R3'
      exact R3'
    | _ => exact ⟨W, rfl, R, Pr.refl _⟩
def dFrz (i : Nat) (d : DTS) : DTS := fun F s => d F (frzE s i)
theorem snd_frz {i : Nat} (h : SndS K ts d) : SndS K ts (dFrz i d) := by
  intro c W σ s E F R C hq
  obtain ⟨W', e, R', p⟩ := R.frz i
  rw [← e]
  exact h c W' σ _ E F R' (C.later p) hq
theorem dss_frz (i : Nat) (h : PDSs X sts ts d) : PDSs X sts ts (dFrz i d) := ⟨h.ps, snd_frz h.snd⟩
end
end DL

namespace DL
open PySem L2
section
variable {X : Cx} {K : PySem.W.Frag} {c : C0} {e o : Expr} {es : List Expr} {te to : TE} {t : DE} {pos : Pos} {st : Stmt} {sts : List Stmt} {ts us : TS} {d u : DTS} {tt : TT} {dt : DT}

/-! ### methods that change a slot's own list -/
abbrev DM := List D → List D → (List D → D → Prop) → Prop
def SndM (K : PySem.W.Frag) (r : V → List V → Hp → VK → Prop) (f : DM) : Prop := ∀ (W : Wd) (l : Addr) (ws : List V) (xs : List D) (vs : List V) (ds : List D) (Qv : VK) (Qd : List D → D → Prop),
  W.H l = some (.lst ws) → Reps K W ws xs → Reps K W vs ds → f xs ds Qd → (∀ v ws' xs' d, Reps K W ws' xs' → Rep K W v d → Qd xs' d → Qv v (upd W.H l (.lst ws'))) → r (.ref l) vs W.H Qv
def ownL (s : DS) (i : Nat) : Option (List D) := match s.sl[i]? with
  | some (.own xs) => some xs
  | _ => none
theorem ownL_spec {W : Wd} {σ : St} {s : DS} (R : Rel K c W σ s) {i : Nat} {xs : List D} (h : ownL s i = some xs) : ∃ l vs, σ[i]? = some (some (.ref l)) ∧ Owns s σ i l ∧ W.M l ∧ c.H0 l = none ∧ W.H l = some (.lst vs) ∧ Reps K W vs xs := by
  unfold ownL at h
  cases q : s.sl[i]? with
  | none => rw [q] at h; cases h
  | some en =>
    rw [q] at h
    cases en with
    | own ys =>
      cases h
      obtain ⟨l, vs, h1, h2, h3, h4, h5⟩ := R.ent i _ q
      exact ⟨l, vs, h1, ⟨⟨_, q, rfl⟩, h1⟩, h2, h3, h4, h5⟩
    | _ => cases h
def dLm (f : DM) (t : DE) (r : DA) : DE := fun s Q => t s fun d s1 => match d with
  | .slot i => (ownL s1 i).isSome = true ∧ r s1 fun ds s2 => match ownL s2 i with
    | some xs => noSlots ds = true ∧ f xs ds fun xs' d' => d'.isSlot = false ∧ Q d' { s2 with sl := s2.sl.set i (.own xs') }
    | none => False
  | _ => False
theorem snd_lm {r : V → List V → Hp → VK → Prop} {f : DM} {taa : TA} {ra : DA} (hm : SndM K r f) (ho : SndE K to t) (ha : SndA K taa ra) : SndE K (tBM K "list" r to taa) (dLm f t ra) := by
  intro c W σ s Qv Qd R hq k
  refine ho c W σ s _ _ R hq fun x W1 d s1 R1 p1 r1 q1 => ?_
  cases d with
  | slot i =>
    obtain ⟨k1, q1⟩ := q1
    obtain ⟨ys, ey⟩ := Option.isSome_iff_exists.mp k1
    obtain ⟨l, vs, h1, _, _, _, h4, _⟩ := ownL_spec R1 ey
    have r1' : σ[i]? = some (some x) := r1
    rw [h1] at r1'
    cases r1'
    refine ⟨.inl ⟨rfl, _, SqL.of h4⟩, ?_⟩
    refine ha c W1 σ s1 _ _ R1 q1 fun as W2 ds s2 R2 p2 r2 q2 => ?_
    cases ex : ownL s2 i with
    | none => rw [ex] at q2; exact q2.elim
    | some xs =>
      rw [ex] at q2
      obtain ⟨n2, q2⟩ := q2
      obtain ⟨l', ws, g1, g2, g3, g4, g5, g6⟩ := ownL_spec R2 ex
      rw [h1] at g1
      cases g1
      refine hm W2 l ws xs as ds _ _ g5 g6 (r2.to n2) q2 fun v ws' xs' d' rw' rv q3 => ?_
      have P : Pr W2 ⟨W2.M, upd W2.H l (.lst ws'), W2.pa⟩ := Pr.mut g3 g5 fun z => z
      have R3 : Rel K c ⟨W2.M, upd W2.H l (.lst ws'), W2.pa⟩ σ { s2 with sl := s2.sl.set i (.own xs') } :=
        R2.write (.own xs') g2 (g2.npl R2) ⟨l, ws', h1, g3, g4, upd_same, rw'.mono P⟩ rfl
      exact k v ⟨W2.M, upd W2.H l (.lst ws'), W2.pa⟩ d' _ R3 ((p1.trans p2).trans P) (rv.mono P).t q3.2
  | _ => exact q1.elim
/-- xs.m(e, ..), xs a slot's own list -/
theorem d_lm {id : String} {name : Str} {apos cpos : Pos} {r : V → List V → Hp → VK → Prop} {f : DM} {taa : TA} {ra : DA} (pa : PlainAttrs "list") (slot : Slot "list" name id) (hty : typeOf (.builtin id) = pure (.type "method_descriptor")) (hm : MtR X id r ∧ SndM X.K r f)
    (ho : PD X o to t) (ha : PDA X (e :: es) taa ra)
    (hbase : attributeBase o name X.env (eval o X.env) = eval o X.env := by rfl)
    (hfew : ((backTo cpos (starEach (e :: es) X.env)).all (fun x => !x.1) && (backToKw cpos (keywordEach [] X.env)).all (fun x => x.1.isSome)
      && decide ((e :: es).length + ([] : List Keyword).length + (if ([] : List Keyword).isEmpty then 0 else 1) < 30)) = true := by rfl)
    (hline : (apos.endLine == cpos.line) = true := by rfl) (hs : starEach (e :: es) X.env = (false, eval e X.env) :: starEach es X.env := by rfl) (hplain : (backTo cpos (starEach es X.env)).any (·.1) = false := by rfl) :
    PD X (.Call (.Attribute o name apos) (e :: es) [] cpos) (tBM X.K "list" r to taa) (dLm f t ra) := ⟨pe_bm pa slot hty hm.1 ho.pe ha.pa hbase hfew hline hs hplain, snd_lm hm.2 ho.snd ha.snd⟩
def dLm0 (f : DM) (t : DE) : DE := fun s Q => t s fun d s1 => match d with
  | .slot i => match ownL s1 i with
    | some xs => f xs [] fun xs' d' => d'.isSlot = false ∧ Q d' { s1 with sl := s1.sl.set i (.own xs') }
    | none => False
  | _ => False
theorem snd_lm0 {r : V → List V → Hp → VK → Prop} {f : DM} (hm : SndM K r f) (ho : SndE K to t) : SndE K (tBM0 K "list" r to) (dLm0 f t) := by
  intro c W σ s Qv Qd R hq k
  refine ho c W σ s _ _ R hq fun x W1 d s1 R1 p1 r1 q1 => ?_
  cases d with
  | slot i =>
    simp only at q1
    cases ex : ownL s1 i with
    | none => rw [ex] at q1; exact q1.elim
    | some xs =>
      rw [ex] at q1
      obtain ⟨l, ws, g1, g2, g3, g4, g5, g6⟩ := ownL_spec R1 ex
      have r1' : σ[i]? = some (some x) := r1
      rw [g1] at r1'
      cases r1'
      refine ⟨.inl ⟨rfl, _, SqL.of g5⟩, ?_⟩
      refine hm W1 l ws xs [] [] _ _ g5 g6 .nil q1 fun v ws' xs' d' rw' rv q3 => ?_
      have P : Pr W1 ⟨W1.M, upd W1.H l (.lst ws'), W1.pa⟩ := Pr.mut g3 g5 fun z => z
      have R3 : Rel K c ⟨W1.M, upd W1.H l (.lst ws'), W1.pa⟩ σ { s1 with sl := s1.sl.set i (.own xs') } :=
        R1.write (.own xs') g2 (g2.npl R1) ⟨l, ws', g1, g3, g4, upd_same, rw'.mono P⟩ rfl
      exact k v ⟨W1.M, upd W1.H l (.lst ws'), W1.pa⟩ d' _ R3 (p1.trans P) (rv.mono P).t q3.2
  | _ => exact q1.elim
theorem d_lm0 {id : String} {name : Str} {apos cpos : Pos} {r : V → List V → Hp → VK → Prop} {f : DM} (pa : PlainAttrs "list") (slot : Slot "list" name id) (hty : typeOf (.builtin id) = pure (.type "method_descriptor")) (hm : MtR X id r ∧ SndM X.K r f)
    (ho : PD X o to t) (hbase : attributeBase o name X.env (eval o X.env) = eval o X.env := by rfl) (hline : (apos.endLine == cpos.line) = true := by rfl) :
    PD X (.Call (.Attribute o name apos) [] [] cpos) (tBM0 X.K "list" r to) (dLm0 f t) := ⟨pe_bm0 pa slot hty hm.1 ho.pe hbase hline, snd_lm0 hm.2 ho.snd⟩
def fApp : DM := fun xs ds Q => match ds with
  | [d] => xs.length < sizeLine ∧ Q (xs ++ [d]) .non
  | _ => False
theorem m_append : MtR X "list.append" rAppend ∧ SndM X.K rAppend fApp := by
  refine ⟨mt_append, fun W l ws xs vs ds Qv Qd h r ra q k => ?_⟩
  cases ra with
  | nil => exact q.elim
  | cons a ra =>
    cases ra with
    | cons _ _ => exact q.elim
    | nil => exact ⟨l, ws, _, rfl, rfl, h, by rw [r.length]; exact q.1, k _ _ _ _ (r.append (.cons a .nil)) .non q.2⟩
def fPop : DM := fun xs ds Q => match ds with
  | [] => match xs[xs.length - 1]? with
    | some d => Q xs.dropLast d
    | none => False
  | _ => False
theorem m_pop : MtR X "list.pop" rPop ∧ SndM X.K rPop fPop := by
  refine ⟨mt_pop, fun W l ws xs vs ds Qv Qd h r ra q k => ?_⟩
  cases ra with
  | cons _ _ => exact q.elim
  | nil =>
    have q' : match xs[xs.length - 1]? with
      | some d => Qd xs.dropLast d
      | none => False := q
    cases e : xs[xs.length - 1]? with
    | none => rw [e] at q'; exact q'.elim
    | some d =>
      rw [e] at q'
      obtain ⟨v, hv, rv⟩ := r.get e
      rw [← r.length] at hv
      exact ⟨l, ws, v, rfl, rfl, h, hv, k _ _ _ _ r.dropLast rv q'⟩
def fPopAt : DM := fun xs ds Q => match ds with
  | [.int i] => -(2 ^ 63) ≤ i ∧ i < 2 ^ 63 ∧ match seqIndex? i xs.length with
    | some j => match xs[j]? with
      | some d => Q (xs.eraseIdx j) d
      | none => False
    | none => False
  | _ => False
theorem m_popAt : MtR X "list.pop" rPopAt ∧ SndM X.K rPopAt fPopAt := by
  refine ⟨mt_popAt, fun W l ws xs vs ds Qv Qd h r ra q k => ?_⟩
  unfold fPopAt at q
  split at q
  · rename_i i
    cases ra with
    | cons a ra =>
      cases ra
      cases a
      obtain ⟨q1, q2, q3⟩ := q
      split at q3
      · rename_i j ej
        split at q3
        · rename_i d ed
          obtain ⟨v, hv, rv⟩ := r.get ed
          exact ⟨l, ws, i, j, v, rfl, rfl, h, q1, q2, by rw [r.length]; exact ej, hv, k _ _ _ _ (r.eraseIdx j) rv q3⟩
        · exact q3.elim
      · exact q3.elim
  · exact q.elim
def fExt : DM := fun xs ds Q => match ds with
  | [.lst ys] => xs.length + ys.length ≤ sizeLine ∧ Q (xs ++ ys) .non
  | _ => False
theorem m_extend : MtR X "list.extend" rExtend ∧ SndM X.K rExtend fExt := by
  refine ⟨mt_extend, fun W l ws xs vs ds Qv Qd h r ra q k => ?_⟩
  unfold fExt at q
  split at q
  · cases ra with
    | cons a ra =>
      cases ra
      cases a with
      | lst hb n rb => exact ⟨l, _, ws, _, rfl, rfl, h, hb, by rw [r.length, rb.length]; exact q.1, k _ _ _ _ (r.append rb) .non q.2⟩
  · exact q.elim
end
end DL

namespace DL
open PySem L2
/-! ### what is walked -/
/-- an iterator J yields the items xs, while chk holds of the state (k: a slot whose object must stay the same) -/
structure ItOk (K : PySem.W.Frag) (σ : St) (W : Wd) (J : It) (k : Option Nat) (chk : DS → Prop) (xs : List D) : Prop where
  go : ∀ (c : C0) (i : Nat) W' σ' s', Rel K c W' σ' s' → Pr W W' → chk s' → (∀ j, k = some j → σ'[j]? = σ[j]?) → i < xs.length →
    J.go i W'.H ∧ ∀ x H', J.yld i W'.H x H' → ∃ W'' d, W''.H = H' ∧ Rel K c W'' σ' s' ∧ Pr W' W'' ∧ xs[i]? = some d ∧ Rep K W'' x d
  stop : ∀ (c : C0) (i : Nat) W' σ' s', Rel K c W' σ' s' → Pr W W' → chk s' → (∀ j, k = some j → σ'[j]? = σ[j]?) → xs.length ≤ i → J.stop i W'.H
abbrev DI := DS → (Option Nat → (DS → Prop) → List D → DS → Prop) → Prop
def SndI (K : PySem.W.Frag) (wi : TI) (t : DI) : Prop := ∀ (c : C0) (W : Wd) (σ : St) (s : DS) (R : It → Hp → Prop) (Rd : Option Nat → (DS → Prop) → List D → DS → Prop), Rel K c W σ s → t s Rd →
  (∀ J W' k chk xs s', Rel K c W' σ s' → Pr W W' → ItOk K σ W' J k chk xs → Rd k chk xs s' → R J W'.H) → wi σ W.H R
structure PDI (X : Cx) (tg iter : Expr) (wi : TI) (t : DI) : Prop where
  pi : PI X tg iter wi
  snd : SndI X.K wi t
section
variable {X : Cx} {K : PySem.W.Frag} {c : C0} {e o tg iter : Expr} {es : List Expr} {te to : TE} {t : DE} {pos : Pos} {st : Stmt} {sts body : List Stmt} {ts us : TS} {d u : DTS} {tt : TT} {dt : DT} {wi : TI} {ti : DI} {g : TG} {dg : DG}
/-- a list or a tuple -/
def iSeq (K : PySem.W.Frag) (tl : TE) : TI := fun σ H R => tl σ H fun x H1 => ∃ a, x = .ref a ∧ (((∃ xs, SqL K H1 a xs) ∧ R (Itl K a) H1) ∨ ((∃ xs, SqT K H1 a xs) ∧ R (Itt K a) H1))
theorem pi_seq {l : Expr} {tl : TE} (hl : PE X l tl) : PI X tg l (iSeq X.K tl) := by
  refine ⟨fun pins s σ H R I h => ?_⟩
  refine thn (hl.run pins s σ H _ I h) fun v s1 ⟨x, H1, I1, r1, q1⟩ => ?_
  obtain ⟨a, e, q⟩ := q1
  subst e
  cases r1
  rcases q with ⟨⟨xs, hq⟩, q⟩ | ⟨⟨xs, hq⟩, q⟩
  · obtain ⟨its, rv, p, hz⟩ := I1.list hq
    refine wpAny_pyIter_list p.isList ?_
    refine ⟨s1.heap.objs.size, [s1.heap.objs.size], _, _, H1, rfl, I1.kept (t' := s1.toks) fun b o e => Heap.get?_push_of_some _ e, turn_list a _, ⟨_, Heap.get?_push_size _ rfl, rfl, rfl⟩, fun b hb => ?_, q⟩
    have e : b = s1.heap.objs.size := by simpa using hb
    subst e
    exact I1.fpOk (Nat.le_refl _) (I1.hok.fresh (Nat.le_refl _))
  · obtain ⟨its, rv, p, hz⟩ := I1.tuple hq
    refine wpAny_pyIter_tuple (show s1.heap.IsTuple a its.toArray from p) ?_
    refine ⟨s1.heap.objs.size, [s1.heap.objs.size], _, _, H1, rfl, I1.kept (t' := s1.toks) fun b o e => Heap.get?_push_of_some _ e, turn_tuple a _, ⟨_, Heap.get?_push_size _ rfl, rfl, rfl⟩, fun b hb => ?_, q⟩
    have e : b = s1.heap.objs.size := by simpa using hb
    subst e
    exact I1.fpOk (Nat.le_refl _) (I1.hok.fresh (Nat.le_refl _))
theorem itOk_l {W : Wd} {σ : St} {a : Addr} {xs : List D} {k : Option Nat} {chk : DS → Prop}
    (h : ∀ (c : C0) W' σ' s', Rel K c W' σ' s' → Pr W W' → chk s' → (∀ j, k = some j → σ'[j]? = σ[j]?) → ∃ vs, W'.H a = some (.lst vs) ∧ Reps K W' vs xs) : ItOk K σ W (Itl K a) k chk xs where
  go := fun c i W' σ' s' R P q hk hi => by
    obtain ⟨vs, hv, r⟩ := h c W' σ' s' R P q hk
    obtain ⟨v, e1, rv⟩ := r.get (List.getElem?_eq_getElem hi)
    refine ⟨⟨vs, v, SqL.of hv, e1⟩, fun x H' y => ?_⟩
    obtain ⟨eH, y⟩ := y
    have ex := y vs (SqL.of hv)
    rw [e1] at ex
    cases ex
    exact ⟨W', _, eH.symm, R, Pr.refl _, List.getElem?_eq_getElem hi, rv⟩
  stop := fun c i W' σ' s' R P q hk hi => by
    obtain ⟨vs, hv, r⟩ := h c W' σ' s' R P q hk
    exact ⟨vs, SqL.of hv, by rw [r.length]; exact hi⟩
theorem itOk_t {W : Wd} {σ : St} {a : Addr} {vs : List V} {xs : List D} (h : TupV K W.H a vs) (r : Reps K W vs xs) : ItOk K σ W (Itt K a) none (fun _ => True) xs where
  go := fun c i W' σ' s' R P q hk hi => by
    obtain ⟨v, e1, rv⟩ := (r.mono P).get (List.getElem?_eq_getElem hi)
    refine ⟨⟨vs, v, (P.sqT h).sq, e1⟩, fun x H' y => ?_⟩
    obtain ⟨eH, y⟩ := y
    have ex := y vs ((P.sqT h).sq)
    rw [e1] at ex
    cases ex
    exact ⟨W', _, eH.symm, R, Pr.refl _, List.getElem?_eq_getElem hi, rv⟩
  stop := fun c i W' σ' s' R P q hk hi => ⟨vs, (P.sqT h).sq, by rw [r.length]; exact hi⟩
def diSeq (t : DE) : DI := fun s Rd => t s fun d s1 => match d with
  | .slot i => match ownL s1 i with
    | some xs => Rd (some i) (fun s' => ownL s' i = some xs) xs s1
    | none => False
  | .lst xs => Rd none (fun _ => True) xs s1
  | .tup xs => Rd none (fun _ => True) xs s1
  | _ => False
theorem snd_seqI (he : SndE K te t) : SndI K (iSeq K te) (diSeq t) := by
  intro c W σ s R Rd RR h k
  refine he c W σ s _ _ RR h fun v W1 d s1 R1 p1 r1 q1 => ?_
  cases d with
  | slot i =>
    simp only at q1
    cases e : ownL s1 i with
    | none => rw [e] at q1; exact q1.elim
    | some xs =>
      rw [e] at q1
      obtain ⟨l, vs, g1, g2, g3, g4, g5, g6⟩ := ownL_spec R1 e
      have r1' : σ[i]? = some (some v) := r1
      rw [g1] at r1'
      cases r1'
      refine ⟨l, rfl, .inl ⟨⟨vs, SqL.of g5⟩, k _ W1 (some i) _ xs s1 R1 p1 (itOk_l (fun c W' σ' s' R' P q hk => ?_)) q1⟩⟩
      · obtain ⟨l', vs', k1, k2, k3, k4, k5, k6⟩ := ownL_spec R' q
        rw [hk i rfl, g1] at k1
        cases k1
        exact ⟨vs', k5, k6⟩
  | lst xs =>
    cases r1 with
    | lst h n r =>
      refine ⟨_, rfl, .inl ⟨⟨_, SqL.of h⟩, k _ W1 none _ xs s1 R1 p1 (itOk_l (fun c W' σ' s' R' P q hk => ?_)) q1⟩⟩
      · exact ⟨_, (P.at_ _ _ h (.inl n)).1, r.mono P⟩
  | tup xs =>
    cases r1 with
    | tup h r => exact ⟨_, rfl, .inr ⟨⟨_, h.sq⟩, k _ W1 none _ xs s1 R1 p1 (itOk_t h r) q1⟩⟩
  | _ => exact q1.elim
theorem di_seq (he : PD X iter te t) : PDI X tg iter (iSeq X.K te) (diSeq t) := ⟨pi_seq he.pe, snd_seqI he.snd⟩
/-- the numbers from lo, n of them -/
def nums (lo : Int) (n : Nat) : List D := (List.range n).map fun i => D.int (lo + (i : Nat))
theorem nums_length {lo : Int} {n : Nat} : (nums lo n).length = n := by simp [nums]
theorem nums_get {lo : Int} {n i : Nat} (h : i < n) : (nums lo n)[i]? = some (D.int (lo + (i : Nat))) := by
  unfold nums
  rw [List.getElem?_map, List.getElem?_range h]
  rfl
theorem itOk_r {W : Wd} {σ : St} {lo : Int} {n : Nat} : ItOk K σ W (Itr lo n) none (fun _ => True) (nums lo n) where
  go := fun c i W' σ' s' R P q hk hi => by
    rw [nums_length] at hi
    refine ⟨hi, fun x H' y => ?_⟩
    obtain ⟨eH, ex⟩ := y
    subst ex
    exact ⟨W', _, eH.symm, R, Pr.refl _, nums_get hi, .int _⟩
  stop := fun c i W' σ' s' R P q hk hi => by
    rw [nums_length] at hi
    exact hi
def diRng1 (r : DA) : DI := fun s Rd => r s fun ds s1 => match ds with
  | [.int j] => -(2 ^ 62) ≤ j ∧ j < 2 ^ 62 ∧ Rd none (fun _ => True) (nums 0 j.toNat) s1
  | _ => False
def diRng2 (r : DA) : DI := fun s Rd => r s fun ds s1 => match ds with
  | [.int i, .int j] => (-(2 ^ 62) ≤ i ∧ i < 2 ^ 62 ∧ -(2 ^ 62) ≤ j ∧ j < 2 ^ 62) ∧ Rd none (fun _ => True) (nums i (j - i).toNat) s1
  | _ => False
theorem repsT1 {K : PySem.W.Frag} {W : Wd} {σ : St} {vs : List V} {j : Int} (r : RepsT K W σ vs [.int j]) : vs = [.int j] := by
  cases r with
  | cons a r =>
    cases r
    cases a
    rfl
theorem repsT2 {K : PySem.W.Frag} {W : Wd} {σ : St} {vs : List V} {i j : Int} (r : RepsT K W σ vs [.int i, .int j]) : vs = [.int i, .int j] := by
  cases r with
  | cons a r =>
    cases r with
    | cons b r =>
      cases r
      cases a
      cases b
      rfl
theorem di_range1 {a : Expr} {taa : TA} {r : DA} {p : Pos} (hg : Gl X "range") (hm : X.mg "range" = none) (ha : PDA X [a] taa r) (hs : starEach [a] X.env = [(false, eval a X.env)] := by rfl) : PDI X tg (.Call (.Name "range" p) [a] [] pos) (iRng1 taa) (diRng1 r) := by
  refine ⟨pi_range1 hg hm ha.pa hs, fun c W σ s R Rd RR h k => ?_⟩
  refine ha.snd c W σ s _ _ RR h fun vs W1 ds s1 R1 p1 r1 q1 => ?_
  split at q1
  · rename_i j
    cases repsT1 r1
    exact ⟨j, rfl, q1.1, q1.2.1, k _ W1 none _ _ s1 R1 p1 itOk_r q1.2.2⟩
  · exact q1.elim
theorem di_range2 {a b : Expr} {taa : TA} {r : DA} {p : Pos} (hg : Gl X "range") (hm : X.mg "range" = none) (ha : PDA X [a, b] taa r) (hs : starEach [a, b] X.env = [(false, eval a X.env), (false, eval b X.env)] := by rfl) (hs2 : starEach [b] X.env = [(false, eval b X.env)] := by rfl) :
    PDI X tg (.Call (.Name "range" p) [a, b] [] pos) (iRng2 taa) (diRng2 r) := by
  refine ⟨pi_range2 hg hm ha.pa hs hs2, fun c W σ s R Rd RR h k => ?_⟩
  refine ha.snd c W σ s _ _ RR h fun vs W1 ds s1 R1 p1 r1 q1 => ?_
  split at q1
  · rename_i i j
    cases repsT2 r1
    exact ⟨i, j, rfl, q1.1, k _ W1 none _ _ s1 R1 p1 itOk_r q1.2⟩
  · exact q1.elim

/-! ### for -/
def forL (dg : DG) (d : DTS) (F : DEnds) (chk : DS → Prop) : List D → DS → Prop
  | [], s => chk s ∧ F.nx s
  | x :: xs, s => chk s ∧ dg x s fun s1 => d { nx := forL dg d F chk xs, ct := forL dg d F chk xs, bk := F.nx, rt := F.rt } s1
def dFor (ti : DI) (dg : DG) (d : DTS) : DTS := fun F s => ti s fun k chk xs s1 => k = none ∧ forL dg d F chk xs s1
theorem drop_cons {α : Type} {l : List α} {i : Nat} {x : α} (h : l[i]? = some x) : l.drop i = x :: l.drop (i + 1) := by
  obtain ⟨hi, e⟩ := List.getElem?_eq_some_iff.mp h
  rw [List.drop_eq_getElem_cons hi, e]
theorem snd_for (hi : SndI K wi ti) (hg : SndG K g dg) (hb : SndS K ts d) : SndS K (tFor wi g ts) (dFor ti dg d) := by
  intro c W σ s E F RR C h
  refine hi c W σ s _ _ RR h fun J W1 k chk xs s1 R1 p1 ok q1 => ?_
  obtain ⟨rfl, q1⟩ := q1
  refine ⟨fun i m σ' H' => m = xs.length - i ∧ i ≤ xs.length ∧ ∃ W' s', W'.H = H' ∧ Rel K c W' σ' s' ∧ Pr W1 W' ∧ forL dg d F chk (xs.drop i) s', ⟨xs.length, by simp, Nat.zero_le _, W1, s1, rfl, R1, Pr.refl _, q1⟩, ?_⟩
  rintro i m σ' H' ⟨rfl, hle, W', s', rfl, R', P', q⟩
  by_cases hlt : i < xs.length
  · rw [drop_cons (List.getElem?_eq_getElem hlt)] at q
    obtain ⟨qc, q⟩ := q
    obtain ⟨go, yl⟩ := ok.go c i W' σ' s' R' P' qc (fun _ z => nomatch z) hlt
    refine .inr ⟨go, fun σ2 H2 => ∃ W2 s2, W2.H = H2 ∧ Rel K c W2 σ2 s2 ∧ Pr W1 W2 ∧ forL dg d F chk (xs.drop (i + 1)) s2, fun σ2 H2 ⟨W2, s2, e2, R2, P2, q2⟩ => ⟨xs.length - (i + 1), by omega, rfl, hlt, W2, s2, e2, R2, P2, q2⟩, fun x H2 y => ?_⟩
    obtain ⟨W2, dd, e2, R2, P2, hd, rd⟩ := yl x H2 y
    rw [List.getElem?_eq_getElem hlt] at hd
    cases hd
    subst e2
    refine hg c W2 σ' s' x _ _ _ R2 rd q fun W3 σ3 s3 R3 P3 q3 => ?_
    have PP := (P'.trans P2).trans P3
    refine hb c W3 σ3 s3 _ { nx := forL dg d F chk (xs.drop (i + 1)), ct := forL dg d F chk (xs.drop (i + 1)), bk := F.nx, rt := F.rt } R3 ⟨fun W4 σ4 s4 R4 P4 q4 => ?_, fun v W4 σ4 d4 s4 R4 P4 r4 q4 => ?_, fun W4 σ4 s4 R4 P4 q4 => ?_, fun W4 σ4 s4 R4 P4 q4 => ?_⟩ q3
    · exact ⟨W4, s4, rfl, R4, PP.trans P4, q4⟩
    · exact C.rt v W4 σ4 d4 s4 R4 (p1.trans (PP.trans P4)) r4 q4
    · exact C.nx W4 σ4 s4 R4 (p1.trans (PP.trans P4)) q4
    · exact ⟨W4, s4, rfl, R4, PP.trans P4, q4⟩
  · have e : xs.drop i = [] := List.drop_eq_nil_of_le (by omega)
    rw [e] at q
    exact .inl ⟨ok.stop c i W' σ' s' R' P' q.1 (fun _ z => nomatch z) (by omega), C.nx W' σ' s' R' (p1.trans P') q.2⟩
theorem ds_for (hp : PassesOwn (model X.prog X.w) X.A X.env X.xe) (hc : X.calm = true) (hi : PDI X tg iter wi ti) (hg : PDG X tg g dg) (hb : PDSs X body ts d) (hs : ∀ x, foldedSetIterable iter X.env x = pure x := by intro _; rfl) :
    PDS X (.For tg iter body [] pos) (tFor wi g ts) (dFor ti dg d) := ⟨ps_for hp hc hi.pi hg.pg hb.ps hs, snd_for hi.snd hg.snd hb.snd⟩

/-! ### while -/
def dWhile (q : DT) (d : DTS) : DTS := fun F s => ∃ I : Nat → DS → Prop, (∃ m, I m s) ∧ ∀ m s, I m s → q s fun b s1 => if b = true then d { nx := fun s' => ∃ m', m' < m ∧ I m' s', ct := fun s' => ∃ m', m' < m ∧ I m' s', bk := F.nx, rt := F.rt } s1 else F.nx s1
theorem snd_while (hq : SndT K tt dt) (hb : SndS K ts d) : SndS K (tWhile tt ts) (dWhile dt d) := by
  intro c W σ s E F RR C h
  obtain ⟨I, ⟨m0, i0⟩, turn⟩ := h
  refine ⟨fun m σ' H' => ∃ W' s', W'.H = H' ∧ Rel K c W' σ' s' ∧ Pr W W' ∧ I m s', ⟨m0, W, s, rfl, RR, Pr.refl _, i0⟩, ?_⟩
  rintro m σ' H' ⟨W', s', rfl, R', P', im⟩
  refine hq c W' σ' s' _ _ R' (turn m s' im) fun b W1 s1 R1 P1 q1 => ?_
  have PP := P'.trans P1
  cases b with
  | true =>
    refine ⟨fun σ2 H2 => ∃ m', m' < m ∧ ∃ W2 s2, W2.H = H2 ∧ Rel K c W2 σ2 s2 ∧ Pr W W2 ∧ I m' s2, fun σ2 H2 ⟨m', hm, W2, s2, e2, R2, P2, q2⟩ => ⟨m', hm, W2, s2, e2, R2, P2, q2⟩, ?_⟩
    refine hb c W1 σ' s1 _ { nx := fun s' => ∃ m', m' < m ∧ I m' s', ct := fun s' => ∃ m', m' < m ∧ I m' s', bk := F.nx, rt := F.rt } R1 ⟨fun W4 σ4 s4 R4 P4 ⟨m', hm, q4⟩ => ⟨m', hm, W4, s4, rfl, R4, PP.trans P4, q4⟩, fun v W4 σ4 d4 s4 R4 P4 r4 q4 => C.rt v W4 σ4 d4 s4 R4 (PP.trans P4) r4 q4, fun W4 σ4 s4 R4 P4 q4 => C.nx W4 σ4 s4 R4 (PP.trans P4) q4, fun W4 σ4 s4 R4 P4 ⟨m', hm, q4⟩ => ⟨m', hm, W4, s4, rfl, R4, PP.trans P4, q4⟩⟩ q1
  | false => exact C.nx W1 σ' s1 R1 PP q1
theorem ds_while {q : Expr} (hp : PassesOwn (model X.prog X.w) X.A X.env X.xe) (hc : PDT X q tt dt) (hb : PDSs X body ts d) : PDS X (.While q body [] pos) (tWhile tt ts) (dWhile dt d) := ⟨ps_while hp hc.pt hb.ps, snd_while hc.snd hb.snd⟩
end
end DL

namespace DL
open PySem L2
/-! ### list comprehensions -/
/-- the block's own names forgotten -/
def wipeS (l : List EV) : List Nat → List EV
  | [] => l
  | v :: vs => (wipeS l vs).set v .un
def DS.wipe (s : DS) (vs : List Nat) : DS := { s with sl := wipeS s.sl vs }
/-- a target stores into these slots alone -/
def GIn (g : TG) (vs : List Nat) : Prop := ∀ x σ H Q, g x σ H Q → g x σ H fun σ' H' => wipe σ' vs = wipe σ vs ∧ Q σ' H'
def GsIn (g : TGs) (vs : List Nat) : Prop := ∀ xs σ H Q, g xs σ H Q → g xs σ H fun σ' H' => wipe σ' vs = wipe σ vs ∧ Q σ' H'
theorem wipe_at {σ : St} {j : Nat} : ∀ {vs : List Nat}, j ∈ vs → (wipe σ vs)[j]? = if j < σ.length then some none else none
  | [], h => by simp at h
  | v :: vs, h => by
    show ((wipe σ vs).set v none)[j]? = _
    by_cases hv : v = j
    · subst hv
      by_cases hb : v < σ.length
      · rw [List.getElem?_set_self (by rw [wipe_length]; exact hb), if_pos hb]
      · rw [List.getElem?_eq_none (by rw [List.length_set, wipe_length]; omega), if_neg hb]
    · rw [get_set_ne hv]
      exact wipe_at ((List.mem_cons.mp h).resolve_left fun e => hv e.symm)
theorem wipe_set {i : Nat} {v : Option V} {vs : List Nat} {σ : St} (h : i ∈ vs) : wipe (σ.set i v) vs = wipe σ vs := by
  apply List.ext_getElem?
  intro j
  by_cases hm : j ∈ vs
  · rw [wipe_at hm, wipe_at hm, List.length_set]
  · rw [wipe_out hm, wipe_out hm]
    exact get_set_ne fun e => hm (by rw [← e]; exact h)
theorem wipe_wipe {σ : St} {vs : List Nat} : wipe (wipe σ vs) vs = wipe σ vs := by
  apply List.ext_getElem?
  intro j
  by_cases hm : j ∈ vs
  · rw [wipe_at hm, wipe_at hm, wipe_length]
  · rw [wipe_out hm]
theorem gin_name {i : Nat} {vs : List Nat} (h : i ∈ vs) : GIn (gName i) vs := fun x σ H Q q => ⟨wipe_set h, q⟩
theorem gins_nil {vs : List Nat} : GsIn gNil vs := fun xs σ H Q ⟨e, q⟩ => ⟨e, rfl, q⟩
def GMono (g : TG) : Prop := ∀ x σ H Q Q', (∀ σ' H', Q σ' H' → Q' σ' H') → g x σ H Q → g x σ H Q'
def GsMono (g : TGs) : Prop := ∀ x σ H Q Q', (∀ σ' H', Q σ' H' → Q' σ' H') → g x σ H Q → g x σ H Q'
structure GOk (g : TG) (vs : List Nat) : Prop where
  isIn : GIn g vs
  mono : GMono g
structure GsOk (g : TGs) (vs : List Nat) : Prop where
  isIn : GsIn g vs
  mono : GsMono g
theorem gk_name {i : Nat} {vs : List Nat} (h : i ∈ vs) : GOk (gName i) vs := ⟨gin_name h, fun x σ H Q Q' k q => k _ _ q⟩
theorem gks_nil {vs : List Nat} : GsOk gNil vs := ⟨gins_nil, fun x σ H Q Q' k q => ⟨q.1, k _ _ q.2⟩⟩
theorem gks_cons {g : TG} {gs : TGs} {vs : List Nat} (h1 : GOk g vs) (h2 : GsOk gs vs) : GsOk (gCons g gs) vs := by
  refine ⟨fun xs σ H Q q => ?_, fun xs σ H Q Q' k q => ?_⟩
  · obtain ⟨v, r, e, q⟩ := q
    refine ⟨v, r, e, h1.mono _ _ _ _ _ (fun σ1 H1 q1 => ?_) (h1.isIn _ _ _ _ q)⟩
    exact h2.mono _ _ _ _ _ (fun σ2 H2 q2 => ⟨q2.1.trans q1.1, q2.2⟩) (h2.isIn _ _ _ _ q1.2)
  · obtain ⟨v, r, e, q⟩ := q
    exact ⟨v, r, e, h1.mono _ _ _ _ _ (fun σ1 H1 q1 => h2.mono _ _ _ _ _ k q1) q⟩
theorem gk_tup {K : PySem.W.Frag} {n : Nat} {gs : TGs} {vs : List Nat} (h : GsOk gs vs) : GOk (gTup K n gs) vs :=
  ⟨fun x σ H Q ⟨a, xs, e, h1, h2, q⟩ => ⟨a, xs, e, h1, h2, h.isIn _ _ _ _ q⟩, fun x σ H Q Q' k ⟨a, xs, e, h1, h2, q⟩ => ⟨a, xs, e, h1, h2, h.mono _ _ _ _ _ k q⟩⟩
section
variable {X : Cx} {K : PySem.W.Frag} {c : C0} {e elt o tg iter : Expr} {es ifs : List Expr} {te to : TE} {t : DE} {pos : Pos} {ts us : TS} {d u : DTS} {tt : TT} {dt : DT} {wi : TI} {ti : DI} {g : TG} {dg : DG}
theorem Rel.wipe {W : Wd} {σ : St} {s : DS} (R : Rel K c W σ s) : ∀ vs : List Nat, Rel K c W (L2.wipe σ vs) (s.wipe vs)
  | [] => R
  | v :: vs => (R.wipe vs).putUn v none
theorem wipeS_length {l : List EV} : ∀ {us : List Nat}, (wipeS l us).length = l.length
  | [] => rfl
  | v :: us => by unfold wipeS; rw [List.length_set, wipeS_length]
theorem wipeS_get {l : List EV} : ∀ {us : List Nat} {j : Nat} {x : EV}, (wipeS l us)[j]? = some x → x = .un ∨ (j ∉ us ∧ l[j]? = some x)
  | [], j, x, h => .inr ⟨by simp, h⟩
  | v :: us, j, x, h => by
    unfold wipeS at h
    by_cases hj : v = j
    · subst hj
      exact .inl (get_set_eq h).1
    · rw [get_set_ne hj] at h
      rcases wipeS_get h with q | ⟨q1, q2⟩
      · exact .inl q
      · exact .inr ⟨fun z => (List.mem_cons.mp z).elim (fun e => hj e.symm) q1, q2⟩
/-- back at the def's own slots -/
theorem Rel.back {W : Wd} {σ : St} {s : DS} {vs : List Nat} (R : Rel K c W (L2.wipe σ vs) s) : Rel K c W σ (s.wipe vs) := by
  have sig : ∀ j, j ∉ vs → σ[j]? = (L2.wipe σ vs)[j]? := fun j hj => (wipe_out hj).symm
  refine ⟨by show (wipeS s.sl vs).length = σ.length; rw [wipeS_length, R.len, wipe_length], R.m0, R.wpa, fun j x h => ?_, fun j k l a b => ?_, R.sub, R.kp, R.there, R.old, R.mm, R.mo0, R.mop, R.mp, R.npl, R.paw⟩
  · rcases wipeS_get h with q | ⟨q1, q2⟩
    · subst q; trivial
    · have en := R.ent j x q2
      have es := sig j q1
      cases x <;> simp only [EntOk, es] at en ⊢ <;> exact en
  · have conv : ∀ j, Owns (s.wipe vs) σ j l → Owns s (L2.wipe σ vs) j l := fun j a => by
      obtain ⟨⟨x, a1, a2⟩, a3⟩ := a
      rcases wipeS_get a1 with q | ⟨q1, q2⟩
      · subst q; cases a2
      · exact ⟨⟨x, q2, a2⟩, by rw [← sig j q1]; exact a3⟩
    exact R.dis j k l (conv j a) (conv k b)
structure PDTs (X : Cx) (ifs : List Expr) (tt : TT) (t : DT) : Prop where
  pts : PTs X ifs tt
  snd : SndT X.K tt t
def dYes : DT := fun s Q => Q true s
theorem dts_nil : PDTs X [] tYes dYes := ⟨pts_nil, fun c W σ s Qv Qd R h k => k true W s R (Pr.refl _) h⟩
theorem dts_one {q : Expr} (h : PDT X q tt dt) : PDTs X [q] tt dt := ⟨pts_one h.pt, h.snd⟩
/-- something new at D that no slot owns: held fast as if it had stood from the entry on -/
def C0.hold (c : C0) (D : Addr) (o : HO) : C0 := { c with M0 := fun a => c.M0 a ∨ a = D, H0 := upd c.H0 D o }
theorem Rel.hold {W : Wd} {σ : St} {s : DS} (R : Rel K c W σ s) {D : Addr} {o : HO} (h0 : c.H0 D = none) (hm : W.M D) (hD : W.H D = some o) (no : ∀ j l, Owns s σ j l → l ≠ D) : Rel K (c.hold D o) W σ s := by
  have nmo : ¬ c.mo D := fun h => R.mo0 D h h0
  have keep : ∀ a, a ≠ D → (c.hold D o).H0 a = c.H0 a := fun a h => upd_ne h
  refine ⟨R.len, fun a h => ?_, R.wpa, fun j x h => ?_, R.dis, fun a h => ?_, fun a u h n => ?_, R.there, fun a h1 h2 => ?_, R.mm, fun a h => ?_, R.mop, R.mp, R.npl, R.paw⟩
  · by_cases e : a = D
    · subst e
      show upd c.H0 a o a ≠ none
      rw [upd_same]
      exact fun z => by cases z
    · rw [keep a e]
      exact R.m0 a (h.resolve_right e)
  · have q := R.ent j x h
    cases x with
    | un => trivial
    | fz d => exact q
    | own xs =>
      obtain ⟨m, vs, a1, a2, a3, a4, a5⟩ := q
      exact ⟨m, vs, a1, a2, (keep m (no j m ⟨⟨_, h, rfl⟩, a1⟩)).trans a3, a4, a5⟩
    | ownT xs =>
      obtain ⟨m, vs, a1, a2, a3, a4, a5, a6⟩ := q
      exact ⟨m, vs, a1, a2, (keep m (no j m ⟨⟨_, h, rfl⟩, a1⟩)).trans a3, a4, a5, a6⟩
    | ownK xs =>
      obtain ⟨m, vs, a1, a2, a3, a4, a5, a6⟩ := q
      exact ⟨m, vs, a1, a2, (keep m (no j m ⟨⟨_, h, rfl⟩, a1⟩)).trans a3, a4, a5, a6⟩
    | ownI C xs =>
      obtain ⟨m, dx, vs, a1, a2, a3, a4, a5, a6⟩ := q
      exact ⟨m, dx, vs, a1, a2, ⟨a3.1, a3.2.imp (fun z => (keep m (no j m ⟨⟨_, h, rfl⟩, a1⟩)).trans z) id⟩, a4, a5, a6⟩
  · rcases h with h | rfl
    · exact R.sub a h
    · exact hm
  · by_cases e : a = D
    · subst e
      have h' : upd c.H0 a o a = some u := h
      rw [upd_same] at h'
      cases h'
      exact hD
    · rw [keep a e] at h
      exact R.kp a u h n
  · by_cases e : a = D
    · exact .inr e
    · rw [keep a e] at h1
      exact .inl (R.old a h1 h2)
  · have e : a ≠ D := fun e => nmo (e ▸ h)
    rw [keep a e]
    exact R.mo0 a h
theorem Rel.unhold {W W0 : Wd} {σ σ0 : St} {s s0 : DS} (R0 : Rel K c W0 σ0 s0) {D : Addr} {o : HO} (h0 : c.H0 D = none) (R : Rel K (c.hold D o) W σ s) : Rel K c W σ s ∧ W.H D = some o ∧ W.M D ∧ ∀ j l, Owns s σ j l → l ≠ D := by
  have nmo : ¬ c.mo D := fun h => R0.mo0 D h h0
  have keep : ∀ a, a ≠ D → (c.hold D o).H0 a = c.H0 a := fun a h => upd_ne h
  have at_ : (c.hold D o).H0 D = some o := upd_same
  have fresh : ∀ m, (c.hold D o).H0 m = none → m ≠ D ∧ c.H0 m = none := fun m h => by
    have e : m ≠ D := fun e => by
      rw [e, at_] at h
      cases h
    exact ⟨e, (keep m e).symm.trans h⟩
  refine ⟨⟨R.len, R0.m0, R.wpa, fun j x h => ?_, R.dis, fun a h => R.sub a (.inl h), fun a u h n => ?_, R.there, fun a h1 h2 => ?_, R.mm, R0.mo0, R0.mop, R.mp, R.npl, R.paw⟩, R.kp D o at_ nmo, R.sub D (.inr rfl), fun j l ow => ?_⟩
  · have q := R.ent j x h
    cases x with
    | un => trivial
    | fz d => exact q
    | own xs =>
      obtain ⟨m, vs, a1, a2, a3, a4, a5⟩ := q
      exact ⟨m, vs, a1, a2, (fresh m a3).2, a4, a5⟩
    | ownT xs =>
      obtain ⟨m, vs, a1, a2, a3, a4, a5, a6⟩ := q
      exact ⟨m, vs, a1, a2, (fresh m a3).2, a4, a5, a6⟩
    | ownK xs =>
      obtain ⟨m, vs, a1, a2, a3, a4, a5, a6⟩ := q
      exact ⟨m, vs, a1, a2, (fresh m a3).2, a4, a5, a6⟩
    | ownI C xs =>
      obtain ⟨m, dx, vs, a1, a2, a3, a4, a5, a6⟩ := q
      exact ⟨m, dx, vs, a1, a2, ⟨a3.1, a3.2.imp (fun z => (fresh m z).2) id⟩, a4, a5, a6⟩
  · have e : a ≠ D := fun e => by
      rw [e, h0] at h
      cases h
    exact R.kp a u ((keep a e).trans h) n
  · have e : a ≠ D := fun e => h1 (e ▸ h0)
    exact (R.old a (fun z => h1 ((keep a e).symm.trans z)) h2).resolve_right e
  · obtain ⟨⟨x, h1, h2⟩, h3⟩ := ow
    have q := R.ent j x h1
    intro e
    subst e
    cases x with
    | un => cases h2
    | fz d => cases h2
    | own xs =>
      obtain ⟨m, vs, a1, a2, a3, a4, a5⟩ := q
      rw [h3] at a1; cases a1
      exact (fresh _ a3).1 rfl
    | ownT xs =>
      obtain ⟨m, vs, a1, a2, a3, a4, a5, a6⟩ := q
      rw [h3] at a1; cases a1
      exact (fresh _ a3).1 rfl
    | ownK xs =>
      obtain ⟨m, vs, a1, a2, a3, a4, a5, a6⟩ := q
      rw [h3] at a1; cases a1
      exact (fresh _ a3).1 rfl
    | ownI C xs =>
      obtain ⟨m, dx, vs, a1, a2, a3, a4, a5, a6⟩ := q
      rw [h3] at a1; cases a1
      rcases a3.2 with z | z
      · exact (fresh _ z).1 rfl
      · exact nmo z
/-- what no slot owns is written -/
theorem Rel.poke {W : Wd} {σ : St} {s : DS} (R : Rel K c W σ s) {D : Addr} {o o' : HO} (h0 : c.H0 D = none) (hm : W.M D) (hD : W.H D = some o) (hf : ¬ Fix o) (no : ∀ j l, Owns s σ j l → l ≠ D) : Rel K c ⟨W.M, upd W.H D o', W.pa⟩ σ s := by
  have P : Pr W ⟨W.M, upd W.H D o', W.pa⟩ := Pr.mut hm hD hf
  refine ⟨R.len, R.m0, R.wpa, fun j x h => ?_, R.dis, R.sub, fun a u h n => ?_, fun a h => ?_, R.old, R.mm, R.mo0, R.mop, R.mp, R.npl, ?_⟩
  · have q := R.ent j x h
    cases x with
    | un => trivial
    | fz d =>
      obtain ⟨v, a1, a2⟩ := q
      exact ⟨v, a1, a2.mono P⟩
    | own xs =>
      obtain ⟨m, vs, a1, a2, a3, a4, a5⟩ := q
      exact ⟨m, vs, a1, a2, a3, (upd_ne (no j m ⟨⟨_, h, rfl⟩, a1⟩)).trans a4, a5.mono P⟩
    | ownT xs =>
      obtain ⟨m, vs, a1, a2, a3, a4, a5, a6⟩ := q
      exact ⟨m, vs, a1, a2, a3, (upd_ne (no j m ⟨⟨_, h, rfl⟩, a1⟩)).trans a4, a5, a6.mono P⟩
    | ownK xs =>
      obtain ⟨m, vs, a1, a2, a3, a4, a5, a6⟩ := q
      exact ⟨m, vs, a1, a2, a3, (upd_ne (no j m ⟨⟨_, h, rfl⟩, a1⟩)).trans a4, a5, a6.mono P⟩
    | ownI C xs =>
      obtain ⟨m, dx, vs, a1, a2, a3, a4, a5, a6⟩ := q
      exact ⟨m, dx, vs, a1, a2, a3, (upd_ne (no j m ⟨⟨_, h, rfl⟩, a1⟩)).trans a4, a5, a6.mono P⟩
  · have ne : a ≠ D := fun e => by
      rw [e, h0] at h
      cases h
    exact (upd_ne ne).trans (R.kp a u h n)
  · by_cases e : a = D
    · subst e; exact ⟨o', upd_same⟩
    · obtain ⟨u, q⟩ := R.there a h
      exact ⟨u, (upd_ne e).trans q⟩
  · obtain ⟨t, r, ns, h1, h2, h3⟩ := R.paw
    have npa : c.pa ≠ D := fun e => R.mo0 _ R.mop (e ▸ h0)
    have npl : c.pl ≠ D := fun e => R.npl (e ▸ hm)
    exact ⟨t, r, ns, (upd_ne npa).trans h1, (upd_ne npl).trans h2, h3⟩
def lcL (dg : DG) (dt : DT) (t : DE) (vs : List Nat) (chk : DS → Prop) : List D → List D → DS → (List D → DS → Prop) → Prop
  | [], acc, s, Q => chk s ∧ Q acc s
  | x :: xs, acc, s, Q => chk s ∧ dg x s fun s1 => dt s1 fun b s2 => if b = true then t s2 fun y s3 => y.isSlot = false ∧ acc.length < sizeLine ∧ lcL dg dt t vs chk xs (acc ++ [y]) (s3.wipe vs) Q else lcL dg dt t vs chk xs acc (s2.wipe vs) Q
def okSlot (k : Option Nat) (vs : List Nat) : Prop := match k with
  | some j => j ∉ vs
  | none => True
def dLc (ti : DI) (dg : DG) (dt : DT) (t : DE) (vs : List Nat) : DL_ := fun s Q => ti s fun k chk xs s1 => okSlot k vs ∧ lcL dg dt t vs chk xs [] (s1.wipe vs) fun acc s2 => Q acc (s2.wipe vs)
theorem snd_lc {vs : List Nat} (hi : SndI K wi ti) (hg : SndG K g dg) (gk : GOk g vs) (ht : SndT K tt dt) (he : SndE K te t) : SndL K (tLc wi g tt te vs) (dLc ti dg dt t vs) := by
  intro c W σ s Qv Qd RR h k
  refine hi c W σ s _ _ RR h fun J W1 ks chk xs s1 R1 p1 ok q1 => ?_
  obtain ⟨oks, q1⟩ := q1
  intro D hD
  have h0 : c.H0 D = none := R1.new0 hD
  have same_at : ∀ j, ks = some j → (L2.wipe σ vs)[j]? = σ[j]? := fun j hj => by
    subst hj
    exact wipe_out oks
  have RD : Rel K c ⟨fun a => W1.M a ∨ a = D, upd W1.H D (.lst []), W1.pa⟩ (L2.wipe σ vs) (s1.wipe vs) := (R1.laid (.lst []) hD).wipe vs
  have noD : ∀ j l, Owns (s1.wipe vs) (L2.wipe σ vs) j l → l ≠ D := (R1.wipe vs).newOwn hD
  refine ⟨fun i m H' => m = xs.length - i ∧ i ≤ xs.length ∧ ∃ W' s' vs' acc, W'.H = H' ∧ Rel K c W' (L2.wipe σ vs) s' ∧ Pr W1 W' ∧ W'.M D ∧ W'.H D = some (.lst vs') ∧ Reps K W' vs' acc ∧ (∀ j l, Owns s' (L2.wipe σ vs) j l → l ≠ D) ∧
    lcL dg dt t vs chk (xs.drop i) acc s' (fun acc s2 => Qd acc (s2.wipe vs)),
    ⟨xs.length, by simp, Nat.zero_le _, _, s1.wipe vs, [], [], rfl, RD, Pr.laid hD, .inr rfl, upd_same, .nil, noD, q1⟩, ?_⟩
  rintro i m H' ⟨rfl, hle, W', s', vs', acc, rfl, R', P', mD, hD', rD, nD, q⟩
  by_cases hlt : i < xs.length
  · rw [drop_cons (List.getElem?_eq_getElem hlt)] at q
    obtain ⟨qc, q⟩ := q
    have RH : Rel K (c.hold D (.lst vs')) W' (L2.wipe σ vs) s' := R'.hold h0 mD hD' nD
    obtain ⟨go, yl⟩ := ok.go (c.hold D (.lst vs')) i W' _ s' RH P' qc same_at hlt
    refine .inr ⟨go, fun H2 => ∃ W' s' vs' acc, W'.H = H2 ∧ Rel K c W' (L2.wipe σ vs) s' ∧ Pr W1 W' ∧ W'.M D ∧ W'.H D = some (.lst vs') ∧ Reps K W' vs' acc ∧ (∀ j l, Owns s' (L2.wipe σ vs) j l → l ≠ D) ∧
      lcL dg dt t vs chk (xs.drop (i + 1)) acc s' (fun acc s2 => Qd acc (s2.wipe vs)), fun H2 hN => ⟨xs.length - (i + 1), by omega, rfl, hlt, hN⟩, fun x H2 y => ?_⟩
    obtain ⟨W2, dd, e2, R2, P2, hd, rd⟩ := yl x H2 y
    rw [List.getElem?_eq_getElem hlt] at hd
    cases hd
    subst e2
    refine gk.mono _ _ _ _ _ ?_ (gk.isIn _ _ _ _ (hg (c.hold D (.lst vs')) W2 (L2.wipe σ vs) s' x _ (fun σ3 H3 => ∃ W3 s3, W3.H = H3 ∧ Rel K (c.hold D (.lst vs')) W3 σ3 s3 ∧ Pr W2 W3 ∧
      dt s3 fun b s2 => if b = true then t s2 fun y s3 => y.isSlot = false ∧ acc.length < sizeLine ∧ lcL dg dt t vs chk (xs.drop (i + 1)) (acc ++ [y]) (s3.wipe vs) (fun acc s2 => Qd acc (s2.wipe vs)) else lcL dg dt t vs chk (xs.drop (i + 1)) acc (s2.wipe vs) (fun acc s2 => Qd acc (s2.wipe vs))) _ R2 rd q
      fun W3 σ3 s3 R3 P3 q3 => ⟨W3, s3, rfl, R3, P3, q3⟩))
    rintro σ3 H3 ⟨ew, W3, s3, rfl, R3, P3, q3⟩
    rw [wipe_wipe] at ew
    refine ⟨ew, ?_⟩
    refine ht (c.hold D (.lst vs')) W3 σ3 s3 _ _ R3 q3 fun b W4 s4 R4 P4 q4 => ?_
    have PP4 : Pr W1 W4 := ((P'.trans P2).trans P3).trans P4
    cases b with
    | false =>
      obtain ⟨R5, h5, m5, n5⟩ := R'.unhold h0 R4
      have R6 := R5.wipe vs
      rw [ew] at R6
      refine ⟨W4, s4.wipe vs, vs', acc, rfl, R6, PP4, m5, h5, rD.mono ((P2.trans P3).trans P4), fun j l o => ?_, q4⟩
      obtain ⟨⟨x, a1, a2⟩, a3⟩ := o
      rcases wipeS_get a1 with z | ⟨z1, z2⟩
      · subst z; cases a2
      · refine n5 j l ⟨⟨x, z2, a2⟩, ?_⟩
        rw [← ew, wipe_out z1] at a3
        exact a3
    | true =>
      refine he (c.hold D (.lst vs')) W4 σ3 s4 _ _ R4 q4 fun yv W5 y s5 R5 P5 ry q5 => ?_
      obtain ⟨ns, hz, q5⟩ := q5
      obtain ⟨R6, h6, m6, n6⟩ := R'.unhold h0 R5
      refine ⟨vs', h6, by rw [rD.length]; exact hz, ?_⟩
      have P6 : Pr W5 ⟨W5.M, upd W5.H D (.lst (vs' ++ [yv])), W5.pa⟩ := Pr.mut m6 h6 fun z => z
      have R7 : Rel K c ⟨W5.M, upd W5.H D (.lst (vs' ++ [yv])), W5.pa⟩ σ3 s5 := R6.poke h0 m6 h6 (fun z => z) n6
      have R8 := R7.wipe vs
      rw [ew] at R8
      refine ⟨_, s5.wipe vs, vs' ++ [yv], acc ++ [y], rfl, R8, (PP4.trans P5).trans P6, m6, upd_same, (rD.mono (((P2.trans P3).trans P4).trans (P5.trans P6))).append (.cons ((ry.to ns).mono P6) .nil), fun j l o => ?_, q5⟩
      obtain ⟨⟨x, a1, a2⟩, a3⟩ := o
      rcases wipeS_get a1 with z | ⟨z1, z2⟩
      · subst z; cases a2
      · refine n6 j l ⟨⟨x, z2, a2⟩, ?_⟩
        rw [← ew, wipe_out z1] at a3
        exact a3
  · have e : xs.drop i = [] := List.drop_eq_nil_of_le (by omega)
    rw [e] at q
    refine .inl ⟨ok.stop c i W' _ s' R' P' q.1 same_at (by omega), ?_⟩
    exact k D vs' W' acc (s'.wipe vs) R'.back (p1.trans P') mD hD' rD h0 (fun j l o => by
      obtain ⟨⟨x, a1, a2⟩, a3⟩ := o
      rcases wipeS_get a1 with z | ⟨z1, z2⟩
      · subst z; cases a2
      · exact nD j l ⟨⟨x, z2, a2⟩, by rw [wipe_out z1]; exact a3⟩) q.2
/-- [elt for tg in iter if ..], a new list -/
theorem dl_lc {scope : Scope} {own : List (Str × Nat)} (hc : X.calm = true) (hN : X.N.Nodup) (hi : PDI X tg iter wi ti) (ok : BlkOk X.N X.env.scope scope own) (gk : GOk g (own.map (·.2)))
    (hg : ∀ (s : Shared) (H : Hp) (C : Addr) (cl : List (Str × Addr)) (fp : List Addr), PDG (X.blk s H scope (compEnvC scope cl C X.env) fp) tg g dg) (ht : ∀ (s : Shared) (H : Hp) (C : Addr) (cl : List (Str × Addr)) (fp : List Addr), PDTs (X.blk s H scope (compEnvC scope cl C X.env) fp) ifs tt dt)
    (he : ∀ (s : Shared) (H : Hp) (C : Addr) (cl : List (Str × Addr)) (fp : List Addr), PD (X.blk s H scope (compEnvC scope cl C X.env) fp) elt te t) (hs : ∀ x, foldedSetIterable iter X.env x = pure x := by intro _; rfl) :
    PL X (.ListComp elt [⟨tg, iter, ifs, 0⟩] scope pos) (tLc wi g tt te (own.map (·.2))) (dLc ti dg dt t (own.map (·.2))) :=
  ⟨pe_lc hc hN hi.pi ok (fun s H C cl fp => (hg s H C cl fp).pg) (fun s H C cl fp => (ht s H C cl fp).pts) (fun s H C cl fp => (he s H C cl fp).pe) hs,
    snd_lc hi.snd (hg X.s_0 (fun _ => none) 0 [] []).snd gk (ht X.s_0 (fun _ => none) 0 [] []).snd (he X.s_0 (fun _ => none) 0 [] []).snd⟩
/-- y = [..] on one line, y's slot i, as the def's own or as data -/
theorem ds_ownLc {i : Nat} {y : Str} {py spos : Pos} {scope : Scope} {own : List (Str × Nat)} (hc : X.calm = true) (hN : X.N.Nodup) (hy : X.N[i]? = some y) (hyl : X.env.scope.names.lookup y = some .local)
    (hsw : swapsWith (.ListComp elt [⟨tg, iter, ifs, 0⟩] scope pos) (some (.Name y py)) spos.line X.env = pure true) (hi : PDI X tg iter wi ti) (ok : BlkOk X.N X.env.scope scope own) (gk : GOk g (own.map (·.2)))
    (hg : ∀ (s : Shared) (H : Hp) (C : Addr) (cl : List (Str × Addr)) (fp : List Addr), PDG (X.blk s H scope (compEnvC scope cl C X.env) fp) tg g dg) (ht : ∀ (s : Shared) (H : Hp) (C : Addr) (cl : List (Str × Addr)) (fp : List Addr), PDTs (X.blk s H scope (compEnvC scope cl C X.env) fp) ifs tt dt)
    (he : ∀ (s : Shared) (H : Hp) (C : Addr) (cl : List (Str × Addr)) (fp : List Addr), PD (X.blk s H scope (compEnvC scope cl C X.env) fp) elt te t) (hs : ∀ x, foldedSetIterable iter X.env x = pure x := by intro _; rfl) :
    PDS X (.Assign [.Name y py] (.ListComp elt [⟨tg, iter, ifs, 0⟩] scope pos) spos) (tAsg (tLc wi g tt te (own.map (·.2))) (gName i)) (dOwn i (dLc ti dg dt t (own.map (·.2)))) :=
  ⟨ps_setLc hc hN hy hyl hsw hi.pi ok (fun s H C cl fp => (hg s H C cl fp).pg) (fun s H C cl fp => (ht s H C cl fp).pts) (fun s H C cl fp => (he s H C cl fp).pe) hs,
    snd_own (snd_lc hi.snd (hg X.s_0 (fun _ => none) 0 [] []).snd gk (ht X.s_0 (fun _ => none) 0 [] []).snd (he X.s_0 (fun _ => none) 0 [] []).snd)⟩
end
end DL

namespace DL
open PySem L2
/-! ### what a def promises, over data -/
abbrev Ctr := List D → Nat → (D → Nat → Prop) → Prop
def Kept (pa : Addr) (H H' : Hp) : Prop := ∀ a o, H a = some o → a ≠ pa → H' a = some o
def spC (K : PySem.W.Frag) (C : Ctr) : Sp := fun vs H Q _ => ∃ (M : Addr → Prop) (pa pl : Addr) (ds : List D) (b : Nat) (Qd : D → Nat → Prop),
  Reps K ⟨M, H, pa⟩ vs ds ∧ M pa ∧ ¬ M pl ∧ (∀ a, M a → H a ≠ none) ∧ PawOk K pa pl b H ∧ C ds b Qd ∧
  ∀ v H' d b', Kept pa H H' → PawOk K pa pl b' H' → Rep K ⟨M, H', pa⟩ v d → Qd d b' → Q v H'
def rtD (Q : D → Nat → Prop) (d : D) (s : DS) : Prop := match d with
  | .slot i => match ownL s i with
    | some xs => Q (.lst xs) s.bud
    | none => False
  | d => Q d s.bud
def endsC (Q : D → Nat → Prop) : DEnds := { nx := fun s => Q .non s.bud, rt := rtD Q }
def startD (N : List Str) (ds : List D) (b : Nat) : DS := ⟨ds.map EV.fz ++ List.replicate (N.length - ds.length) .un, b⟩
section
variable {K : PySem.W.Frag}
theorem Pr.less {W : Wd} {M : Addr → Prop} {pa : Addr} (h : ∀ a, M a → W.M a) (hp : W.pa = pa) : Pr W ⟨M, W.H, pa⟩ := ⟨fun a o e _ => ⟨e, fun n z => n (h a z)⟩, hp.symm⟩
theorem rel_start {N : List Str} {M : Addr → Prop} {H : Hp} {pa pl : Addr} {vs : List V} {ds : List D} {b : Nat} (r : Reps K ⟨M, H, pa⟩ vs ds) (mp : M pa) (npl : ¬ M pl) (m0 : ∀ a, M a → H a ≠ none) (pw : PawOk K pa pl b H) (hl : ds.length ≤ N.length) :
    Rel K ⟨M, H, pa, pl, fun a => a = pa⟩ ⟨M, H, pa⟩ (L2.start N vs) (startD N ds b) := by
  have hlen := r.length
  have un_or : ∀ (i : Nat) (e : EV), (ds.map EV.fz ++ List.replicate (N.length - ds.length) EV.un)[i]? = some e → e = .un ∨ ∃ d, e = .fz d ∧ ds[i]? = some d := by
    intro i e h
    by_cases hi : i < ds.length
    · rw [List.getElem?_append_left (by simpa using hi), List.getElem?_map] at h
      cases q : ds[i]? with
      | none => rw [q] at h; cases h
      | some d =>
        rw [q] at h
        cases h
        exact .inr ⟨d, rfl, rfl⟩
    · rw [List.getElem?_append_right (by simpa using hi), List.getElem?_replicate] at h
      split at h
      · cases h; exact .inl rfl
      · cases h
  refine ⟨?_, m0, rfl, fun i e h => ?_, fun i j l a _ => ?_, fun _ h => h, fun a o h _ => h, fun a h => ?_, fun a _ h => h, fun a h => ?_, fun a h => ?_, rfl, mp, npl, pw⟩
  · show (ds.map EV.fz ++ List.replicate (N.length - ds.length) EV.un).length = (L2.start N vs).length
    unfold L2.start
    rw [List.length_append, List.length_append, List.length_map, List.length_map, List.length_replicate, List.length_replicate, hlen]
  · rcases un_or i e h with q | ⟨d, q, hd⟩
    · subst q; trivial
    · subst q
      obtain ⟨v, hv, rv⟩ := r.get hd
      refine ⟨v, ?_, rv⟩
      unfold L2.start
      rw [List.getElem?_append_left (by simpa using (List.getElem?_eq_some_iff.mp hv).1), List.getElem?_map, hv]
      rfl
  · obtain ⟨⟨e, h1, h2⟩, _⟩ := a
    rcases un_or i e h1 with q | ⟨d, q, _⟩
    · subst q; cases h2
    · subst q; cases h2
  · cases e : H a with
    | none => exact absurd e (m0 a h)
    | some o => exact ⟨o, e⟩
  · have h' : a = pa := h
    rw [h']; exact mp
  · have h' : a = pa := h
    rw [h']; exact m0 pa mp
variable {P : Program} {w : World} {mg : Str → Option Value} {base : Heap}
theorem okC_len {C : Ctr} {n : Nat} (len : ∀ ds b Q, C ds b Q → ds.length = n) : ∀ vs H Q E, spC K C vs H Q E → vs.length = n := by
  rintro vs H Q E ⟨M, pa, pl, ds, b, Qd, r, _, _, _, _, hc, _⟩
  rw [r.length]
  exact len _ _ _ hc
/-- from the body's reading over data to the promise's -/
theorem bodyC {c0 : C0} {N : List Str} {M : Addr → Prop} {H : Hp} {pa pl : Addr} {vs : List V} {Q : VK} {Qd : D → Nat → Prop} {W' : Wd} {σ' : St} {s' : DS} {v : V} {d : D}
    (k : ∀ v H' d b', Kept pa H H' → PawOk K pa pl b' H' → Rep K ⟨M, H', pa⟩ v d → Qd d b' → Q v H')
    (R : Rel K ⟨M, H, pa, pl, fun a => a = pa⟩ W' σ' s') (r : RepT K W' σ' v d) (q : rtD Qd d s') : Q v W'.H := by
  have P : Pr W' ⟨M, W'.H, pa⟩ := Pr.less R.sub R.wpa
  have kp : Kept pa H W'.H := fun a o h n => R.kp a o h n
  cases d with
  | slot i =>
    have q' : match ownL s' i with
      | some xs => Qd (.lst xs) s'.bud
      | none => False := q
    cases e : ownL s' i with
    | none => rw [e] at q'; exact q'.elim
    | some xs =>
      rw [e] at q'
      obtain ⟨l, ws, g1, g2, g3, g4, g5, g6⟩ := ownL_spec R e
      have r' : σ'[i]? = some (some v) := r
      rw [g1] at r'
      cases r'
      exact k (.ref l) W'.H (.lst xs) s'.bud kp R.paw (Rep.lst g5 (fun m => R.m0 l m g4) (g6.mono P)) q'
  | _ => exact k v W'.H _ s'.bud kp R.paw (Rep.mono P r) q
theorem FunC {x qual : Str} {st : Stmt} {f : Addr} {fd : FuncData} {N ps : List Str} {k : Nat} {C : Ctr} (F : Fun K x qual st f fd) (S : FnScope N ps (defScope st)) (len : ∀ ds b Q, C ds b Q → ds.length = ps.length)
    (hbody : ∀ (cdv : Value) (A : Around) (outer : List Env) (s : Shared) (H : Hp) (E : XK), Room k (A.deeper (PyProof.Rows.envOfC qual (defScope st) s.heap.objs.size f cdv)) →
      ∃ ts t, PDSs (cxOf CX0 P w K mg base N qual (defScope st) f cdv A outer s H E).nox (defBody st) ts t ∧ ∀ ds b Qd, C ds b Qd → t (endsC Qd) (startD N ds b)) : FnOk P w K mg base CX0 (k + 1) f fd ps (spC K C) := by
  refine F.ok S (okC_len len) fun cdv A outer s H vs Q E hr h => ?_
  obtain ⟨M, pa, pl, ds, b, Qd, r, mp, npl, m0, pw, hc, hk⟩ := h
  obtain ⟨ts, t, hp, ht⟩ := hbody cdv A outer s H E hr
  refine ⟨ts, hp.ps, ?_⟩
  have hpl : ds.length ≤ N.length := by
    rw [len _ _ _ hc]
    have e := congrArg List.length S.pre
    rw [List.length_take] at e
    omega
  refine hp.snd ⟨M, H, pa, pl, fun a => a = pa⟩ ⟨M, H, pa⟩ (L2.start N vs) (startD N ds b) _ (endsC Qd) (rel_start r mp npl m0 pw hpl) ⟨fun W' σ' s' R _ q => ?_, fun v W' σ' d s' R _ rv q => ?_, fun _ _ _ _ _ z => z.elim, fun _ _ _ _ _ z => z.elim⟩ (ht ds b Qd hc)
  · exact bodyC (N := N) (c0 := ⟨M, H, pa, pl, fun a => a = pa⟩) (vs := vs) (v := .non) (d := .non) hk R Rep.non q
  · exact bodyC (N := N) (c0 := ⟨M, H, pa, pl, fun a => a = pa⟩) (vs := vs) hk R rv q
end
/-! ### calls -/
mutual
def D.flat : D → Bool
  | .tup xs => flatAll xs
  | .lst _ => false
  | .obj _ _ => false
  | .dT _ => false
  | .dK _ => false
  | .slot _ => false
  | _ => true
def flatAll : List D → Bool
  | [] => true
  | x :: xs => D.flat x && flatAll xs
end
mutual
theorem Rep.flat {K : PySem.W.Frag} {W : Wd} {M : Addr → Prop} : ∀ {v : V} {d : D}, Rep K W v d → d.flat = true → Rep K ⟨M, W.H, W.pa⟩ v d
  | _, _, .non, _ => .non
  | _, _, .bl b, _ => .bl b
  | _, _, .int i, _ => .int i
  | _, _, .str x, _ => .str x
  | _, _, .tup h r, f => .tup h (Reps.flat r (by rw [D.flat] at f; exact f))
  | _, _, .lst _ _ _, f => by rw [D.flat] at f; cases f
  | _, _, .obj _ _ _ _, f => by rw [D.flat] at f; cases f
  | _, _, .dT _ _ _ _, f => by rw [D.flat] at f; cases f
  | _, _, .dK _ _ _ _, f => by rw [D.flat] at f; cases f
  | _, _, .raw v, _ => .raw v
  | _, _, .paw, _ => .paw
theorem Reps.flat {K : PySem.W.Frag} {W : Wd} {M : Addr → Prop} : ∀ {vs : List V} {ds : List D}, Reps K W vs ds → flatAll ds = true → Reps K ⟨M, W.H, W.pa⟩ vs ds
  | _, _, .nil, _ => .nil
  | _, _, .cons (d := d) (ds := ds) a r, f => by
    have f' : (D.flat d && flatAll ds) = true := by rw [flatAll] at f; exact f
    rw [Bool.and_eq_true] at f'
    exact .cons (Rep.flat a f'.1) (Reps.flat r f'.2)
end
/-- what is handed to a def: a slot's own list is lent -/
def unslot (s : DS) : D → Option D
  | .slot i => (ownL s i).map .lst
  | d => some d
def unslots (s : DS) : List D → Option (List D)
  | [] => some []
  | d :: ds => (unslot s d).bind fun e => (unslots s ds).map fun es => e :: es
/-- the places that are lent -/
def Lent (σ : St) (ds : List D) (a : Addr) : Prop := ∃ i, D.slot i ∈ ds ∧ σ[i]? = some (some (.ref a))
section
variable {X : Cx} {K : PySem.W.Frag} {c : C0} {e : Expr} {es : List Expr} {taa : TA} {ra : DA} {pos p : Pos} {C : Ctr} {k : Nat} {x : Str} {ps : List Str}
theorem lend1 {W : Wd} {σ : St} {s : DS} {v : V} {d d' : D} {B : Addr → Prop} (R : Rel K c W σ s) (r : RepT K W σ v d) (h : unslot s d = some d') (hB : ∀ i a, d = .slot i → σ[i]? = some (some (.ref a)) → B a) : Rep K ⟨fun a => W.M a ∧ ¬ B a, W.H, W.pa⟩ v d' := by
  have P : Pr W ⟨fun a => W.M a ∧ ¬ B a, W.H, W.pa⟩ := Pr.less (fun _ h => h.1) rfl
  cases d with
  | slot i =>
    have h' : (ownL s i).map D.lst = some d' := h
    cases q : ownL s i with
    | none => rw [q] at h'; cases h'
    | some xs =>
      rw [q] at h'
      cases h'
      obtain ⟨l, ws, g1, g2, g3, g4, g5, g6⟩ := ownL_spec R q
      have r' : σ[i]? = some (some v) := r
      rw [g1] at r'
      cases r'
      exact Rep.lst g5 (fun z => z.2 (hB i l rfl g1)) (g6.mono P)
  | _ =>
    cases h
    exact Rep.mono P r
theorem lends {W : Wd} {σ : St} {s : DS} {B : Addr → Prop} (R : Rel K c W σ s) : ∀ {vs : List V} {ds ds' : List D}, RepsT K W σ vs ds → unslots s ds = some ds' → (∀ a, Lent σ ds a → B a) → Reps K ⟨fun a => W.M a ∧ ¬ B a, W.H, W.pa⟩ vs ds'
  | _, _, _, .nil, h, _ => by cases h; exact .nil
  | _, _, ds', .cons (d := d) (ds := ds) a r, h, hB => by
    have h' : (unslot s d).bind (fun e => (unslots s ds).map fun es => e :: es) = some ds' := h
    cases q : unslot s d with
    | none => rw [q] at h'; cases h'
    | some e1 =>
      rw [q] at h'
      cases q2 : unslots s ds with
      | none => rw [q2] at h'; cases h'
      | some e2 =>
        rw [q2] at h'
        cases h'
        exact .cons (lend1 R a q fun i a e h => hB a ⟨i, by rw [e]; exact List.mem_cons_self .., h⟩) (lends R r q2 fun a ⟨i, hi, hs⟩ => hB a ⟨i, List.mem_cons_of_mem _ hi, hs⟩)
theorem noSlots_lent {σ : St} : ∀ {ds : List D} {a : Addr}, noSlots ds = true → ¬ Lent σ ds a
  | [], _, _, ⟨i, h, _⟩ => by simp at h
  | d :: ds, a, h, ⟨i, hi, hs⟩ => by
    have h' : (!d.isSlot && noSlots ds) = true := h
    rw [Bool.and_eq_true] at h'
    rcases List.mem_cons.mp hi with e | hm
    · rw [← e] at h'
      cases h'.1
    · exact noSlots_lent h'.2 ⟨i, hm, hs⟩
/-- behind a call: the draws may have changed, all else stands -/
theorem Rel.after {W : Wd} {σ : St} {s : DS} {H' : Hp} {b : Nat} (R : Rel K c W σ s) (hk : Kept c.pa W.H H') (hp : PawOk K c.pa c.pl b H') : Rel K c ⟨W.M, H', W.pa⟩ σ { s with bud := b } ∧ Pr W ⟨W.M, H', W.pa⟩ := by
  have P : Pr W ⟨W.M, H', W.pa⟩ := ⟨fun a o h n => ⟨hk a o h fun e => by
    subst e
    obtain ⟨t, r, ns, h1, _⟩ := R.paw
    rw [h1] at h
    cases h
    exact n.elim (fun z => z R.mp) id, id⟩, rfl⟩
  refine ⟨⟨R.len, R.m0, R.wpa, fun j x h => ?_, R.dis, R.sub, fun a o h n => hk a o (R.kp a o h n) fun e => n (e ▸ R.mop), fun a h => ?_, R.old, R.mm, R.mo0, R.mop, R.mp, R.npl, hp⟩, P⟩
  · have q := R.ent j x h
    have ne : ∀ m, x.isOwn = true → σ[j]? = some (some (.ref m)) → m ≠ c.pa := fun m hx hs => ((Owns.ent R (i := j) (l := m) ⟨⟨x, h, hx⟩, hs⟩).2.1).1
    cases x with
    | un => trivial
    | fz d =>
      obtain ⟨v, a1, a2⟩ := q
      exact ⟨v, a1, a2.mono P⟩
    | own xs =>
      obtain ⟨m, vs, a1, a2, a3, a4, a5⟩ := q
      exact ⟨m, vs, a1, a2, a3, hk _ _ a4 (ne m rfl a1), a5.mono P⟩
    | ownT xs =>
      obtain ⟨m, vs, a1, a2, a3, a4, a5, a6⟩ := q
      exact ⟨m, vs, a1, a2, a3, hk _ _ a4 (ne m rfl a1), a5, a6.mono P⟩
    | ownK xs =>
      obtain ⟨m, vs, a1, a2, a3, a4, a5, a6⟩ := q
      exact ⟨m, vs, a1, a2, a3, hk _ _ a4 (ne m rfl a1), a5, a6.mono P⟩
    | ownI C xs =>
      obtain ⟨m, dx, vs, a1, a2, a3, a4, a5, a6⟩ := q
      exact ⟨m, dx, vs, a1, a2, a3, hk _ _ a4 (ne m rfl a1), a5, a6.mono P⟩
  · by_cases e : a = c.pa
    · subst e
      obtain ⟨t, r, ns, h1, _⟩ := hp
      exact ⟨_, h1⟩
    · obtain ⟨o, q⟩ := R.there a h
      exact ⟨o, hk a o q e⟩
def dCall (C : Ctr) (ra : DA) : DE := fun s Q => ra s fun ds s1 => match unslots s1 ds with
  | some ds' => C ds' s1.bud fun d b => (noSlots ds || d.flat) = true ∧ Q d { s1 with bud := b }
  | none => False
theorem Rep.noSlot {K : PySem.W.Frag} {W : Wd} {v : V} {i : Nat} (h : Rep K W v (.slot i)) : False := by cases h
theorem snd_call {E : XK} (ha : SndA K taa ra) : SndE K (tCall (spC K C) [] E taa) (dCall C ra) := by
  intro c W σ s Qv Qd R hq k
  refine ha c W σ s _ _ R hq fun vs W1 ds s1 R1 p1 r1 q1 => ?_
  have q1 : match unslots s1 ds with
    | some ds' => C ds' s1.bud fun d b => (noSlots ds || d.flat) = true ∧ Qd d { s1 with bud := b }
    | none => False := q1
  cases e : unslots s1 ds with
  | none => rw [e] at q1; exact q1.elim
  | some ds' =>
    rw [e] at q1
    have rr := lends (B := Lent σ ds) R1 r1 e fun _ h => h
    rw [List.append_nil]
    refine ⟨fun a => W1.M a ∧ ¬ Lent σ ds a, c.pa, c.pl, ds', s1.bud, _, R1.wpa ▸ rr, ⟨R1.mp, fun ⟨i, hi, hs⟩ => ?_⟩, fun z => R1.npl z.1, fun a h => ?_, R1.paw, q1, fun v H' d b' hk hp rv q => ?_⟩
    · -- what is lent is not the well
      have own : ∀ {vs : List V} {ds ds' : List D}, RepsT K W1 σ vs ds → unslots s1 ds = some ds' → D.slot i ∈ ds → ∃ l, Owns s1 σ i l := by
        intro vs ds ds' r
        induction r generalizing ds' with
        | nil => intro _ h; simp at h
        | cons a r ih =>
          rename_i v0 d0 vs0 ds0
          intro h hm
          have h' : (unslot s1 d0).bind (fun e => (unslots s1 ds0).map fun es => e :: es) = some ds' := h
          cases q : unslot s1 d0 with
          | none => rw [q] at h'; cases h'
          | some e1 =>
            rw [q] at h'
            cases q2 : unslots s1 ds0 with
            | none => rw [q2] at h'; cases h'
            | some e2 =>
              rcases List.mem_cons.mp hm with e | hm
              · rw [← e] at q
                have q' : (ownL s1 i).map D.lst = some e1 := q
                cases q3 : ownL s1 i with
                | none => rw [q3] at q'; cases q'
                | some xs =>
                  obtain ⟨l, ws, g1, g2, _⟩ := ownL_spec R1 q3
                  exact ⟨l, g2⟩
              · exact ih q2 hm
      obtain ⟨l, ow⟩ := own r1 e hi
      have h3 := ow.2
      rw [hs] at h3
      cases h3
      exact (ow.ent R1).2.1.1 rfl
    · obtain ⟨o, q⟩ := R1.there a h.1
      rw [q]
      exact fun z => by cases z
    · obtain ⟨R2, P2⟩ := R1.after hk hp
      refine k v ⟨W1.M, H', W1.pa⟩ d { s1 with bud := b' } R2 (p1.trans P2) ?_ q.2
      cases hn : noSlots ds with
      | true =>
        have P3 : Pr ⟨fun a => W1.M a ∧ ¬ Lent σ ds a, H', c.pa⟩ ⟨W1.M, H', W1.pa⟩ := ⟨fun a o h _ => ⟨h, fun n z => n ⟨z, noSlots_lent hn⟩⟩, R1.wpa⟩
        exact (rv.mono P3).t
      | false =>
        have f : d.flat = true := by
          have := q.1
          rw [hn, Bool.false_or] at this
          exact this
        have r2 := Rep.flat (M := W1.M) rv f
        have e3 : W1.pa = c.pa := R1.wpa
        rw [e3]
        exact r2.t
end
end DL

namespace DL
open PySem L2
/-! ### where no text of an object is on its way (so repr may be asked) -/
structure FnOkG (P : Program) (w : World) (K : PySem.W.Frag) (mg : Str → Option Value) (base : Heap) (k : Nat) (f : Addr) (fd : FuncData) (ps : List Str) (sp : Sp) : Prop where
  len : ∀ vs H Q E, sp vs H Q E → vs.length = ps.length
  run : ∀ (A : Around) (outer : List Env) (s : Shared) (H : Hp) (args : Args) (us : List Value) (vs : List V) (Q : VK) (E : XK), Room k A → A.guards = some [] → Env0 P w K mg base A outer s H → BindsTo s fd args (ps.zip us) → Vals vs us → sp vs H Q E →
    codeAny (model P w) A (.call (.ref f) args) (CR CX0 outer P w H s Q E) s
theorem FnOk.g {P : Program} {w : World} {K : PySem.W.Frag} {mg : Str → Option Value} {base : Heap} {k : Nat} {f : Addr} {fd : FuncData} {ps : List Str} {sp : Sp} (F : FnOk P w K mg base CX0 k f fd ps sp) : FnOkG P w K mg base k f fd ps sp :=
  ⟨F.len, fun A outer s H args us vs Q E hr _ => F.run A outer s H args us vs Q E hr⟩
section
variable {P : Program} {w : World} {K : PySem.W.Frag} {mg : Str → Option Value} {base : Heap}
/-- a def of the text by its body, the guards known -/
theorem fnG {k : Nat} {f : Addr} {x q : Str} {ar : Arguments} {bd : List Stmt} {sc : Scope} {d1 d2 d3 d4 d5 d6 o1 : Value} {o2 o3 : Option Addr} {sl : Array (Option Value)} {N ps : List Str} {sp : Sp}
    (lk : K.lookup f = some ⟨o1, o3, .func (PySem.W.fnOf x q ar bd sc d1 d2 d3 d4 o2 d5 d6), sl⟩) (hc : PySem.W.codeIn K d5 q = true) (S : FnScope N ps sc) (len : ∀ vs H Q E, sp vs H Q E → vs.length = ps.length)
    (hb : ∀ (A : Around) (outer : List Env) (s : Shared) (H : Hp) (vs : List V) (Q : VK) (E : XK), Room k (A.deeper (PyProof.Rows.envOfC q sc s.heap.objs.size f d5)) → A.guards = some [] → sp vs H Q E →
      ∃ t, PSs (cxOf CX0 P w K mg base N q sc f d5 A outer s H E) bd t ∧ t { nx := fun _ H' => Q .non H', rt := Q } (L2.start N vs) H) :
    FnOkG P w K mg base (k + 1) f (PySem.W.fnOf x q ar bd sc d1 d2 d3 d4 o2 d5 d6) ps sp where
  len := len
  run := by
    intro A outer s H args us vs Q E hr hg e0 hbind r hs
    have KX : K.In s.heap := e0.mod.kin.keeps fun b o e => And.left (e0.bs b o e)
    have par : ∀ y, y ∈ ps.zip us → sc.names.lookup y.1 = some .local ∨
        (sc.names.lookup y.1 = some .cell ∧ ((cellsFrom (s.heap.objs.size + 1) sc.names []).lookup y.1).isSome = true) := by
      rintro ⟨n, v⟩ hy
      exact (S.par n (List.of_mem_zip hy).1).imp id fun z => ⟨z, PySem.W.cellsFrom_some _ _ _ (.inl z)⟩
    apply codeAny_call_function hr.depth (KX _ _ lk) rfl S.co S.gen rfl (PySem.W.codeRec_of KX hc)
    apply hbind
    apply wpAny_newFunctionEnv_cells S.kind par
    intro env he s1 x1
    subst he
    constructor
    · exact (e0.mod.nolimit.keeps fun b o e => And.left (e0.bs b o e)).keeps x1.toInCall.keep
    apply codeAny_func
    obtain ⟨t, ht, hq⟩ := hb A outer s H vs Q E (hr.deeper _) hg hs
    have I := inv_start (CX := CX0) (P := P) (w := w) (E := E) S hr.hd e0 (len _ _ _ _ hs) r x1
    apply wpAny_mono (ht.run [] s1 (L2.start N vs) H _ I hq)
    · intro fl s2 h2
      match fl, h2 with
      | .ret u, ⟨v, _, H2, J, rv, q2⟩ => exact ⟨v, H2, J.os, J.bare, J.base, J.hok, rv, q2⟩
      | .next, ⟨_, H2, J, q2⟩ => exact ⟨V.non, H2, J.os, J.bare, J.base, J.hok, rfl, q2⟩
      | .brk, ⟨_, _, _, q2⟩ => exact q2.elim
      | .cont, ⟨_, _, _, q2⟩ => exact q2.elim
    · exact fun _ _ h => h

/-- the law's call, from a promise that is kept where the guards are known -/
theorem lawG {mb : Str → Option Value} {k : Nat} {fa a : Addr} {fd : FuncData} {x : Str} {sp : Sp} {s₁ : Shared} {vs : List Value} {ns : List Int} (KX : K.In s₁.heap) (hm : s₁.heap.Ns mainGlobals mg) (hb : s₁.heap.Ns builtinsNs mb)
    (hbb : ∀ x : Str, x ≠ "__name__" → mb x = bootBuiltins x) (lim : s₁.heap.NoLimit) (hg : s₁.gens = #[]) (ha : s₁.heap.get? a = some { cls := .type "list", data := .seq vs.toArray }) (hi : PyProof.Rows.IntsAre vs ns) (hl : ns.length ≤ sizeLine) (hr : Room k callerA)
    (F : ∀ base : Heap, K.In base → base.Ns mainGlobals mg → FnOkG P w K mg base k fa fd [x] sp) (bind : ∀ (s : Shared) (u : Value), BindsTo s fd ⟨[u], []⟩ [(x, u)])
    (hsp : ∀ H : Hp, Only H → SqL K H a (ns.map V.int) → sp [.ref a] H (fun v _ => v = .bl true) fun _ _ _ => False) :
    codeAny (model P w) callerA (.call (.ref fa) ⟨[.ref a], []⟩) (fun r s' => r = .ok (.ret (.bool true)) ∧ OldK s₁.heap s'.heap ∧ s'.os = s₁.os ∧ PyProof.Rows.AllBare s'.gens) s₁ := by
  have rv := vals_ints hi
  -- the script is tracked if the written part does not hold it
  obtain ⟨H, hO, hS, hok, hA, hK⟩ : ∃ H : Hp, Only H ∧ SqL K H a (ns.map V.int) ∧ HOk P w H s₁.heap ∧ (∀ b, H b ≠ none → b = a) ∧ (H a ≠ none → K.lookup a = none) := by
    by_cases hk : ∃ o, K.lookup a = some o
    · obtain ⟨o, hk⟩ := hk
      have e := (KX a o hk).symm.trans ha
      cases e
      refine ⟨fun _ => none, fun _ => .inl rfl, .inr ⟨_, vs.toArray, _, hk, rfl, rfl, rfl, ?_, by simpa using rv⟩, fun b u z => ?_, fun b z => (z rfl).elim, fun z => (z rfl).elim⟩
      · rw [List.size_toArray, hi.length]
        exact hl
      · exact (by simpa using z : False).elim
    · have hn : K.lookup a = none := by
        cases q : K.lookup a with
        | none => rfl
        | some o => exact (hk ⟨o, q⟩).elim
      let G : Hp := fun b => if b = a then some (.frz { cls := .type "list", data := .seq vs.toArray } (.lst (ns.map V.int))) else none
      have Ga : G a = some (.frz { cls := .type "list", data := .seq vs.toArray } (.lst (ns.map V.int))) := if_pos rfl
      have Gn : ∀ b, b ≠ a → G b = none := fun b h => if_neg h
      refine ⟨G, fun b => ?_, .inl (.inr ⟨_, Ga⟩), fun b u z => ?_, fun b z => ?_, fun _ => hn⟩
      · exact (Classical.em (b = a)).elim (fun e => .inr ⟨_, _, e ▸ Ga⟩) fun e => .inl (Gn b e)
      · have e : b = a := Classical.byContradiction fun e => by rw [Gn b e] at z; cases z
        subst e
        rw [Ga] at z
        cases z
        exact ⟨ha, by simpa using hl, vs, _, rv, ha⟩
      · exact Classical.byContradiction fun e => z (Gn b e)
  have toH : ∀ {b : Addr} {o : Obj}, s₁.heap.get? b = some o → H b = none → (hidT s₁.heap H).get? b = some o := hidT_get
  have free_dict : ∀ {b : Addr} {o : Obj} {es : Array DictEntry} {ep : Nat}, s₁.heap.get? b = some o → o.data = .dict es ep → H b = none := by
    intro b o es ep e d
    refine Classical.byContradiction fun n => ?_
    rw [hA b n, ha] at e
    cases e
    cases d
  have nsH : ∀ {b : Addr} {m : Str → Option Value}, s₁.heap.Ns b m → (hidT s₁.heap H).Ns b m := by
    rintro b m ⟨o, es, ep, e, d, z⟩
    exact ⟨o, es, ep, toH e (free_dict e d), d, z⟩
  have KH : K.In (hidT s₁.heap H) := by
    intro b o e
    refine toH (KX b o e) (Classical.byContradiction fun n => ?_)
    have eb := hA b n
    rw [eb, hK (eb ▸ n)] at e
    cases e
  have limH : (hidT s₁.heap H).NoLimit := by
    obtain ⟨mc, z1, z2⟩ := lim
    exact ⟨mc, nsH z1, z2⟩
  have e0 : Env0 P w K mg (hidT s₁.heap H) callerA [] s₁ H := ⟨rfl, ⟨KH, nsH hm, ⟨mb, nsH hb, hbb⟩, limH⟩, fun b o e => of_hidT e, Nat.le_of_eq (hidT_size _ _), trivial, fun b z => (List.not_mem_nil z).elim, hok, .of_eq hg⟩
  apply codeAny_mono ((F _ KH (nsH hm)).run callerA [] s₁ H ⟨[.ref a], []⟩ [.ref a] [.ref a] _ _ hr rfl e0 (bind s₁ _) (.cons rfl .nil) (hsp H hO hS))
  intro r s' h
  match r, h with
  | .error _, h => exact h.elim
  | .ok (.ret u), ⟨v, H', os, bare, un, hok', r', q⟩ =>
    have q' : v = .bl true := q
    subst q'
    cases (show u = Value.bool true from r')
    refine ⟨rfl, OldK.of_keep fun b o e => ?_, os, bare⟩
    rcases hO b with z | ⟨ob, xs, z⟩
    · exact un.keep b o e z (fun m => List.not_mem_nil m) fun m => List.not_mem_nil m
    · have z1 := (hok b _ z).1
      rw [e] at z1
      cases z1
      exact (hok' b _ (un.frzs b _ _ z)).1
end
/-- the goal that the head leaves, from the law's promise -/
theorem walkG {l : PySem.W.OpenLaw} {n k : Nat} {q : Program} {loose : List Str} {XP : (Str → Option Value) → Heap → Prop} {YP : World → Heap → Prop} {d : DefRec} {K : Params → PySem.W.Frag} {sp : PySem.W.Frag → Sp} {x : Str}
    (hn : l.most = some n) (hn2 : n ≤ sizeLine) (hdf : d.params.defaults = []) (hr : Room k callerA) (hY : ∀ (w : World) (h : Heap), YP w h → (K w.params).In h)
    (F : ∀ (w : World) (mg : Str → Option Value) (fa : Addr) (h : Heap), (K w.params).In h → h.Ns mainGlobals mg → mg d.name = some (.ref fa) →
      ∃ fd : FuncData, (∀ (s : Shared) (u : Value), BindsTo s fd ⟨[u], []⟩ [(x, u)]) ∧ ∀ base : Heap, (K w.params).In base → base.Ns mainGlobals mg → FnOkG l.prog w (K w.params) mg base k fa fd [x] (sp (K w.params)))
    (hsp : ∀ (K : PySem.W.Frag) (H : Hp) (a : Addr) (ns : List Int), ns.length ≤ n → Only H → SqL K H a (ns.map V.int) → sp K [.ref a] H (fun v _ => v = .bl true) fun _ _ _ => False) :
    PySem.W.WalkO q loose XP YP l.row.toRowW d [] (fun f vs => PySem.call f vs) := by
  apply Att.attach_call hn hdf
  intro w s₀ s₁ mg mb fa o pm cd doc a vs ns G Y ho hd hcd hmg hobj hints hlen hg
  obtain ⟨fd, hb, hF⟩ := F w mg fa _ (hY w _ Y) G.T.g hmg
  exact lawG (hY w _ Y) G.T.g G.T.b G.T.builtins G.T.nolimit hg hobj hints (Nat.le_trans hlen hn2) hr hF hb fun H hO hS => hsp _ H a ns hlen hO hS
end DL

namespace DL
open PySem L2
section
variable {P : Program} {w : World} {K : PySem.W.Frag} {mg : Str → Option Value} {base : Heap}
theorem FunCG {x qual : Str} {st : Stmt} {f : Addr} {fd : FuncData} {N ps : List Str} {k : Nat} {C : Ctr} (F : Fun K x qual st f fd) (S : FnScope N ps (defScope st)) (len : ∀ ds b Q, C ds b Q → ds.length = ps.length)
    (hbody : ∀ (cdv : Value) (A : Around) (outer : List Env) (s : Shared) (H : Hp) (E : XK), Room k (A.deeper (PyProof.Rows.envOfC qual (defScope st) s.heap.objs.size f cdv)) → A.guards = some [] →
      ∃ ts t, PDSs (cxOf CX0 P w K mg base N qual (defScope st) f cdv A outer s H E).nox (defBody st) ts t ∧ ∀ ds b Qd, C ds b Qd → t (endsC Qd) (startD N ds b)) : FnOkG P w K mg base (k + 1) f fd ps (spC K C) := by
  obtain ⟨oc, od, kV, doc, pm, an, cdv, ct, osl, rfl, lk, hcd⟩ := F.ex
  refine fnG lk hcd S (okC_len len) fun A outer s H vs Q E hr hg h => ?_
  obtain ⟨M, pa, pl, ds, b, Qd, r, mp, npl, m0, pw, hc, hk⟩ := h
  obtain ⟨ts, t, hp, ht⟩ := hbody cdv A outer s H E hr hg
  refine ⟨ts, hp.ps.nox, ?_⟩
  have hpl : ds.length ≤ N.length := by
    rw [len _ _ _ hc]
    have e := congrArg List.length S.pre
    rw [List.length_take] at e
    omega
  refine hp.snd ⟨M, H, pa, pl, fun a => a = pa⟩ ⟨M, H, pa⟩ (L2.start N vs) (startD N ds b) _ (endsC Qd) (rel_start r mp npl m0 pw hpl) ⟨fun W' σ' s' R _ q => ?_, fun v W' σ' d s' R _ rv q => ?_, fun _ _ _ _ _ z => z.elim, fun _ _ _ _ _ z => z.elim⟩ (ht ds b Qd hc)
  · exact bodyC (N := N) (c0 := ⟨M, H, pa, pl, fun a => a = pa⟩) (vs := vs) (v := .non) (d := .non) hk R Rep.non q
  · exact bodyC (N := N) (c0 := ⟨M, H, pa, pl, fun a => a = pa⟩) (vs := vs) hk R rv q
/-- a def of the module that keeps its promise -/
structure Fn (P : Program) (w : World) (K : PySem.W.Frag) (mg : Str → Option Value) (base : Heap) (k : Nat) (x : Str) (st : Stmt) (ps : List Str) (C : Ctr) : Prop where
  ex : ∃ f fd, Fun K x x st f fd ∧ FnOkG P w K mg base k f fd ps (spC K C) ∧ mg x = some (.ref f) ∧ Binds K fd ps []
end
section
variable {X : Cx} {e : Expr} {es : List Expr} {taa tk : TA} {ra rk : DA} {pos p : Pos} {C : Ctr} {k : Nat} {x : Str} {ps ks : List Str} {st : Stmt} {kws : List Keyword} {f : Addr} {fd : FuncData} {sp : Sp}
/-- the callee runs, its arguments bound -/
theorem runG {pins : List (Addr × Obj)} {σ : St} {H : Hp} {s : Shared} {Q : VK} {E : XK} {args : Args} {us : List Value} {vs : List V} (F : FnOkG X.prog X.w X.K X.mg X.base k f fd ps sp) (hr : Room k X.A) (hg : X.A.guards = some []) (hb : BindsTo s fd args (ps.zip us)) (I : Inv X pins σ H s) (r : Vals vs us)
    (h : sp vs H Q E) : wpAny (model X.prog X.w) X.A (call (.ref f) args.pos args.kw) (EP X pins σ Q) X.xe s := by
  apply wpAny_call
  apply codeAny_mono (F.run X.A X.stack s H args us vs Q E hr hg I.env0 hb r h)
  intro res s' q
  match res, q with
  | .error _, q => exact q.elim
  | .ok (.ret _), q => exact I.after q
theorem d_call (G : Fn X.prog X.w X.K X.mg X.base k x st ps C) (hr : Room k X.A) (hgd : X.A.guards = some []) (ha : PDA X (e :: es) taa ra) (hg : Gl X x := by rfl) (hdb : (x == ("__debug__" : Str)) = false := by decide)
    (he : starEach (e :: es) X.env = (false, eval e X.env) :: starEach es X.env := by rfl) (hpl : (backTo pos (starEach es X.env)).any (·.1) = false := by rfl) : PD X (.Call (.Name x p) (e :: es) [] pos) (tCall (spC X.K C) [] E0 taa) (dCall C ra) := by
  obtain ⟨f, fd, Fu, F, hm, hb⟩ := G.ex
  refine ⟨⟨fun pins s σ H Q I h => ?_⟩, snd_call ha.snd⟩
  apply wpAny_Call_Name_kw (ld_glob I hg hm ?_ hdb)
  apply PySem.W.callWith_K (h₀ := X.base) I.ok.mod.kin Fu.kp (thn (ha.pa.run pos pins s σ H _ I h) ?_) he hpl
  rintro us s1 ⟨vs, H1, I1, r, q⟩
  rw [List.append_nil] at q
  refine ⟨I1.kIn, runG (args := ⟨us, []⟩) F hr hgd ?_ I1 r q⟩
  have hl : (us ++ []).length = ps.length := by rw [List.append_nil, ← r.length]; exact F.len _ _ _ _ q
  have z := hb s1 us I1.kIn hl
  rw [List.append_nil] at z
  exact z
theorem d_call0 (G : Fn X.prog X.w X.K X.mg X.base k x st ps C) (hr : Room k X.A) (hgd : X.A.guards = some []) (hg : Gl X x := by rfl) (hdb : (x == ("__debug__" : Str)) = false := by decide) : PD X (.Call (.Name x p) [] [] pos) (tCall (spC X.K C) [] E0 tNil) (dCall C dNil) := by
  obtain ⟨f, fd, Fu, F, hm, hb⟩ := G.ex
  refine ⟨⟨fun pins s σ H Q I h => ?_⟩, snd_call (fun c W σ s Qv Qd R h k => k [] W [] s R (Pr.refl _) .nil h)⟩
  apply wpAny_Call_Name_kw (ld_glob I hg hm ?_ hdb)
  apply PySem.W.callWith_K0 I.kIn Fu.kp
  have h : spC X.K C [] H Q E0 := h
  have hl : ([] : List Value).length = ps.length := F.len _ _ _ E0 h
  exact runG (args := ⟨[], []⟩) F hr hgd (hb s [] I.kIn hl) I .nil h
/-! ### keywords -/
/-- the keywords' values, as many as there are keywords -/
structure PKL (X : Cx) (kws : List Keyword) (t : TA) : Prop where
  run : ∀ (pos : Pos) (pins : List (Addr × Obj)) (s : Shared) (σ : St) (H : Hp) (Q : List V → Hp → Prop), Inv X pins σ H s → t σ H Q →
    wpAny (model X.prog X.w) X.A (evalAll ((backToKw pos (keywordEach kws X.env)).map (·.2))) (fun us s' => ∃ vs H', Inv X pins σ H' s' ∧ Vals vs us ∧ vs.length = kws.length ∧ Q vs H') X.xe s
theorem pkl_nil : PKL X [] tNil where
  run := fun _ _ _ _ H _ I h => wpAny_evalAll_nil ⟨[], H, I, .nil, rfl, h⟩
theorem pkl_cons {nm : Option Str} {kpos : Pos} {te : TE} {t : TA} (ha : PE X e te) (hr : PKL X kws t) : PKL X (⟨nm, e, kpos⟩ :: kws) (tCons te t) where
  run := by
    intro pos pins s σ H Q I h
    show wpAny _ _ (evalAll ((eval e X.env >>= fun v => standAt pos >>= fun _ => pure v) :: List.map (·.2) (backToKw pos (keywordEach kws X.env)))) _ _ s
    apply wpAny_evalAll_cons
    apply wpAny_bind
    apply thn (ha.run pins s σ H _ I h)
    rintro u s1 ⟨x, H1, I1, r1, q1⟩
    apply wpAny_bind
    apply wpAny_standAt
    apply wpAny_pure
    apply thn (hr.run pos pins s1 σ H1 _ I1 q1)
    rintro us s2 ⟨xs, H2, I2, r2, l2, q2⟩
    exact ⟨x :: xs, H2, I2, .cons r1 r2, congrArg Nat.succ l2, q2⟩
structure PDK (X : Cx) (kws : List Keyword) (ta : TA) (t : DA) : Prop where
  pk : PKL X kws ta
  snd : SndA X.K ta t
theorem dk_nil : PDK X [] tNil dNil := ⟨pkl_nil, fun c W σ s Qv Qd R h k => k [] W [] s R (Pr.refl _) .nil h⟩
theorem dk_cons {nm : Option Str} {kpos : Pos} {te : TE} {t : DE} (h1 : PD X e te t) (h2 : PDK X kws taa ra) : PDK X (⟨nm, e, kpos⟩ :: kws) (tCons te taa) (dCons t ra) := ⟨pkl_cons h1.pe h2.pk, snd_cons h1.snd h2.snd⟩
/-- the values in the parameters' order -/
def ord {α : Type} (is : List Nat) (xs : List α) : List α := is.filterMap fun i => xs[i]?
theorem ord_vals {is : List Nat} {vs : List V} {us : List Value} (r : Vals vs us) : Vals (ord is vs) (ord is us) := by
  induction is with
  | nil => exact .nil
  | cons i is ih =>
    unfold ord at ih ⊢
    rw [List.filterMap_cons, List.filterMap_cons]
    cases h : vs[i]? with
    | none =>
      rw [r.none_of h]
      exact ih
    | some v =>
      obtain ⟨u, h2, rv⟩ := r.get h
      rw [h2]
      exact .cons rv ih
def tCallO (sp : Sp) (is : List Nat) (E : XK) (t tk : TA) : TE := fun σ H Q => t σ H fun vs H1 => tk σ H1 fun zs H2 => sp (ord is (vs ++ zs)) H2 Q E
theorem unslots_ord {s : DS} {is : List Nat} {ds : List D} : unslots s (ord is ds) = unslots s (ord is ds) := rfl
/-- f(e, .., k = v, ..) over data: as f of the values in order -/
def dCallO (C : Ctr) (is : List Nat) (ra rk : DA) : DE := dCall C fun s Q => ra s fun ds s1 => rk s1 fun es s2 => Q (ord is (ds ++ es)) s2
theorem RepsT.append {K : PySem.W.Frag} {W : Wd} {σ : St} : ∀ {vs ws : List V} {ds es : List D}, RepsT K W σ vs ds → RepsT K W σ ws es → RepsT K W σ (vs ++ ws) (ds ++ es)
  | _, _, _, _, .nil, s => s
  | _, _, _, _, .cons a r, s => .cons a (r.append s)
theorem RepsT.get {K : PySem.W.Frag} {W : Wd} {σ : St} : ∀ {vs : List V} {ds : List D} {i : Nat}, RepsT K W σ vs ds → (vs[i]? = none ∧ ds[i]? = none) ∨ ∃ v d, vs[i]? = some v ∧ ds[i]? = some d ∧ RepT K W σ v d
  | _, _, _, .nil => .inl ⟨by simp, by simp⟩
  | _, _, 0, .cons (v := v) (d := d) a _ => .inr ⟨v, d, rfl, rfl, a⟩
  | _, _, i + 1, .cons _ r => r.get (i := i)
theorem ord_repsT {K : PySem.W.Frag} {W : Wd} {σ : St} {is : List Nat} {vs : List V} {ds : List D} (r : RepsT K W σ vs ds) : RepsT K W σ (ord is vs) (ord is ds) := by
  induction is with
  | nil => exact .nil
  | cons i is ih =>
    unfold ord at ih ⊢
    rw [List.filterMap_cons, List.filterMap_cons]
    rcases r.get (i := i) with ⟨h1, h2⟩ | ⟨v, d, h1, h2, rv⟩
    · rw [h1, h2]
      exact ih
    · rw [h1, h2]
      exact .cons rv ih
theorem snd_ord {K : PySem.W.Frag} {is : List Nat} (ha : SndA K taa ra) (hk : SndA K tk rk) : SndA K (fun σ H Q => taa σ H fun vs H1 => tk σ H1 fun zs H2 => Q (ord is (vs ++ zs)) H2) (fun s Q => ra s fun ds s1 => rk s1 fun es s2 => Q (ord is (ds ++ es)) s2) := by
  intro c W σ s Qv Qd R h k
  refine ha c W σ s _ _ R h fun vs W1 ds s1 R1 p1 r1 q1 => ?_
  refine hk c W1 σ s1 _ _ R1 q1 fun zs W2 es s2 R2 p2 r2 q2 => ?_
  exact k _ W2 _ s2 R2 (p1.trans p2) (ord_repsT ((r1.mono p2).append r2)) q2
theorem snd_callO {K : PySem.W.Frag} {is : List Nat} {E : XK} (ha : SndA K taa ra) (hk : SndA K tk rk) : SndE K (tCallO (spC K C) is E taa tk) (dCallO C is ra rk) := by
  have h := snd_call (C := C) (E := E) (snd_ord (is := is) ha hk)
  intro c W σ s Qv Qd R hq k
  have q := h c W σ s Qv Qd R hq k
  have e : ∀ (vs : List V), vs ++ [] = vs := fun vs => List.append_nil vs
  simpa only [tCall, tCallO, List.append_nil] using q
/-- f(e, .., k = v, ..), one positional argument at least -/
theorem d_callK {is : List Nat} (G : Fn X.prog X.w X.K X.mg X.base k x st ps C) (hr : Room k X.A) (hgd : X.A.guards = some []) (ha : PDA X (e :: es) taa ra) (hkw : PDK X kws tk rk)
    (hbd : ∀ (kV doc pm : Value) (an : Option Addr) (cdv ct : Value) (us ws : List Value), us.length = (e :: es).length → ws.length = kws.length → bindArgs (PySem.W.fnOf x x (defArgs st) (defBody st) (defScope st) .none kV doc pm an cdv ct) ⟨us, ks.zip ws⟩ = pure (ps.zip (ord is (us ++ ws))))
    (hg : Gl X x := by rfl) (hall : (backToKw pos (keywordEach kws X.env)).all (·.1.isSome) = true := by rfl) (hks : (backToKw pos (keywordEach kws X.env)).filterMap (·.1) = ks := by rfl)
    (hdb : (x == ("__debug__" : Str)) = false := by decide) (he : starEach (e :: es) X.env = (false, eval e X.env) :: starEach es X.env := by rfl)
    (hpl : ((backTo pos (starEach (e :: es) X.env)).any (·.1) || (backToKw pos (keywordEach kws X.env)).any (·.1.isNone)) = false := by rfl) :
    PD X (.Call (.Name x p) (e :: es) kws pos) (tCallO (spC X.K C) is E0 taa tk) (dCallO C is ra rk) := by
  obtain ⟨f, fd, Fu, F, hm, hb⟩ := G.ex
  refine ⟨⟨fun pins s σ H Q I h => ?_⟩, snd_callO ha.snd hkw.snd⟩
  apply wpAny_Call_Name_kw (ld_glob I hg hm ?_ hdb)
  apply PySem.W.callWith_KW (h₀ := X.base) I.ok.mod.kin Fu.kp hall (thn (ha.pal.run pos pins s σ H _ I h) ?_) hpl he
  rintro us s1 ⟨vs, H1, I1, r, n1, q⟩
  apply thn (hkw.pk.run pos pins s1 σ H1 _ I1 q)
  rintro ws s2 ⟨zs, H2, I2, rz, n2, q2⟩
  refine ⟨I2.kIn, ?_⟩
  rw [hks]
  refine runG (args := ⟨us, ks.zip ws⟩) (us := ord is (us ++ ws)) F hr hgd ?_ I2 (ord_vals (r.append rz)) q2
  obtain ⟨_, _, kV, doc, pm, an, cdv, ct, _, rfl, _, _⟩ := Fu.ex
  exact .of_eq (hbd kV doc pm an cdv ct us ws (r.length.symm.trans n1) (rz.length.symm.trans n2))
/-- f(k = v, ..) -/
theorem d_callK0 {is : List Nat} (G : Fn X.prog X.w X.K X.mg X.base k x st ps C) (hr : Room k X.A) (hgd : X.A.guards = some []) (hkw : PDK X kws tk rk)
    (hbd : ∀ (kV doc pm : Value) (an : Option Addr) (cdv ct : Value) (ws : List Value), ws.length = kws.length → bindArgs (PySem.W.fnOf x x (defArgs st) (defBody st) (defScope st) .none kV doc pm an cdv ct) ⟨[], ks.zip ws⟩ = pure (ps.zip (ord is ws)))
    (hg : Gl X x := by rfl) (hall : (backToKw pos (keywordEach kws X.env)).all (·.1.isSome) = true := by rfl) (hks : (backToKw pos (keywordEach kws X.env)).filterMap (·.1) = ks := by rfl)
    (hdb : (x == ("__debug__" : Str)) = false := by decide) (hpl : ((backTo pos (starEach [] X.env)).any (·.1) || (backToKw pos (keywordEach kws X.env)).any (·.1.isNone)) = false := by rfl) :
    PD X (.Call (.Name x p) [] kws pos) (tCallO (spC X.K C) is E0 tNil tk) (dCallO C is dNil rk) := by
  obtain ⟨f, fd, Fu, F, hm, hb⟩ := G.ex
  refine ⟨⟨fun pins s σ H Q I h => ?_⟩, snd_callO (fun c W σ s Qv Qd R h k => k [] W [] s R (Pr.refl _) .nil h) hkw.snd⟩
  apply wpAny_Call_Name_kw (ld_glob I hg hm ?_ hdb)
  have h' : tk σ H fun zs H2 => spC X.K C (ord is zs) H2 Q E0 := h
  apply PySem.W.callWith_KW0 (h₀ := X.base) I.ok.mod.kin Fu.kp hall (thn (hkw.pk.run pos pins s σ H _ I h') ?_) hpl
  rintro ws s2 ⟨zs, H2, I2, rz, n2, q2⟩
  refine ⟨I2.kIn, ?_⟩
  rw [hks]
  refine runG (args := ⟨[], ks.zip ws⟩) (us := ord is ws) F hr hgd ?_ I2 (ord_vals rz) q2
  obtain ⟨_, _, kV, doc, pm, an, cdv, ct, _, rfl, _, _⟩ := Fu.ex
  exact .of_eq (hbd kV doc pm an cdv ct ws (rz.length.symm.trans n2))
end
end DL

namespace DL
open PySem L2
section
variable {X : Cx} {K : PySem.W.Frag} {e : Expr} {es : List Expr} {te : TE} {t : DE} {pos p : Pos}
theorem repsT_one {W : Wd} {σ : St} {vs : List V} {d : D} (r : RepsT K W σ vs [d]) : ∃ v, vs = [v] ∧ RepT K W σ v d := by
  cases r with
  | cons a r =>
    cases r
    exact ⟨_, rfl, a⟩
theorem repsT_two {W : Wd} {σ : St} {vs : List V} {d e : D} (r : RepsT K W σ vs [d, e]) : ∃ v w, vs = [v, w] ∧ RepT K W σ v d ∧ RepT K W σ w e := by
  cases r with
  | cons a r =>
    cases r with
    | cons b r =>
      cases r
      exact ⟨_, _, rfl, a, b⟩
/-! ### abs, int, bool, len, max and min of two -/
def fAbs : DCl := fun _ ds Q => match ds with
  | [.int i] => Q (.int (if i < 0 then -i else i))
  | _ => False
theorem b_abs : CallR X (.builtin "abs") (fun xs H Q => ∃ i, xs = [.int i] ∧ Q (.int (if i < 0 then -i else i)) H) ∧ SndC X.K (fun xs H Q => ∃ i, xs = [.int i] ∧ Q (.int (if i < 0 then -i else i)) H) fAbs := by
  refine ⟨call_abs, fun c W σ s xs ds Qv Qd R r h k => ?_⟩
  unfold fAbs at h
  split at h
  · cases repsT1 r
    exact ⟨_, rfl, k _ W _ R (Pr.refl _) (Rep.int _).t h⟩
  · exact h.elim
def fInt : DCl := fun _ ds Q => match ds with
  | [.int i] => Q (.int i)
  | [.bl b] => Q (.int (if b then 1 else 0))
  | _ => False
theorem b_int : CallR X (.type "int") (fun xs H Q => (∃ i, xs = [.int i] ∧ Q (.int i) H) ∨ ∃ k, xs = [.bl k] ∧ Q (.int (if k then 1 else 0)) H) ∧ SndC X.K (fun xs H Q => (∃ i, xs = [.int i] ∧ Q (.int i) H) ∨ ∃ k, xs = [.bl k] ∧ Q (.int (if k then 1 else 0)) H) fInt := by
  refine ⟨call_int1, fun c W σ s xs ds Qv Qd R r h k => ?_⟩
  unfold fInt at h
  split at h
  · cases repsT1 r
    exact .inl ⟨_, rfl, k _ W _ R (Pr.refl _) (Rep.int _).t h⟩
  · obtain ⟨v, rfl, rv⟩ := repsT_one r
    cases rv
    exact .inr ⟨_, rfl, k _ W _ R (Pr.refl _) (Rep.int _).t h⟩
  · exact h.elim
def fLen : DCl := fun s ds Q => match ds with
  | [.str y] => y.length ≤ sizeLine ∧ Q (.int y.length)
  | [d] => match asSeq s d with
    | some xs => Q (.int xs.length)
    | none => False
  | _ => False
theorem b_len : CallR X (.builtin "len") (fun xs H Q => ∃ x n, xs = [x] ∧ LenV X.K x H n ∧ Q (.int n) H) ∧ SndC X.K (fun xs H Q => ∃ x n, xs = [x] ∧ LenV X.K x H n ∧ Q (.int n) H) fLen := by
  refine ⟨call_len, fun c W σ s xs ds Qv Qd R r h k => ?_⟩
  unfold fLen at h
  split at h
  · obtain ⟨v, rfl, rv⟩ := repsT_one r
    cases rv
    exact ⟨_, _, rfl, ⟨h.1, rfl⟩, k _ W _ R (Pr.refl _) (Rep.int _).t h.2⟩
  · rename_i d _
    obtain ⟨v, rfl, rv⟩ := repsT_one r
    cases q : asSeq s d with
    | none => rw [q] at h; exact h.elim
    | some ys =>
      rw [q] at h
      obtain ⟨l, vs, rfl, hs, rr⟩ := asSeq_spec R rv q
      refine ⟨_, vs.length, rfl, ?_, k _ W _ R (Pr.refl _) (Rep.int _).t (by rw [rr.length]; exact h)⟩
      rcases hs with hs | hs
      · exact .inl ⟨vs, hs, rfl⟩
      · exact .inr ⟨vs, hs.sq, rfl⟩
  · exact h.elim
def fMax2 : DCl := fun _ ds Q => match ds with
  | [.int i, .int j] => Q (.int (if j > i then j else i))
  | _ => False
theorem b_max2 (hc : X.calm = true) : CallR X (.builtin "max") (fun xs H Q => ∃ i j, xs = [.int i, .int j] ∧ Q (.int (if j > i then j else i)) H) ∧ SndC X.K (fun xs H Q => ∃ i j, xs = [.int i, .int j] ∧ Q (.int (if j > i then j else i)) H) fMax2 := by
  refine ⟨call_max2 hc, fun c W σ s xs ds Qv Qd R r h k => ?_⟩
  unfold fMax2 at h
  split at h
  · cases repsT2 r
    exact ⟨_, _, rfl, k _ W _ R (Pr.refl _) (Rep.int _).t h⟩
  · exact h.elim
def fMin2 : DCl := fun _ ds Q => match ds with
  | [.int i, .int j] => Q (.int (if j < i then j else i))
  | _ => False
theorem b_min2 (hc : X.calm = true) : CallR X (.builtin "min") (fun xs H Q => ∃ i j, xs = [.int i, .int j] ∧ Q (.int (if j < i then j else i)) H) ∧ SndC X.K (fun xs H Q => ∃ i j, xs = [.int i, .int j] ∧ Q (.int (if j < i then j else i)) H) fMin2 := by
  refine ⟨call_min2 hc, fun c W σ s xs ds Qv Qd R r h k => ?_⟩
  unfold fMin2 at h
  split at h
  · cases repsT2 r
    exact ⟨_, _, rfl, k _ W _ R (Pr.refl _) (Rep.int _).t h⟩
  · exact h.elim
/-! ### tuple(..), list(..) -/
def fTup : DCl := fun s ds Q => match ds with
  | [d] => match asSeq s d with
    | some xs => Q (.tup xs)
    | none => False
  | _ => False
theorem b_tuple : CallR X (.type "tuple") (fun xs H Q => ∃ p ys, xs = [.ref p] ∧ ((SqL X.K H p ys ∧ ∀ l, H l = none → Q (.ref l) (upd H l (.tup ys))) ∨ (SqT X.K H p ys ∧ Q (.ref p) H))) ∧
    SndC X.K (fun xs H Q => ∃ p ys, xs = [.ref p] ∧ ((SqL X.K H p ys ∧ ∀ l, H l = none → Q (.ref l) (upd H l (.tup ys))) ∨ (SqT X.K H p ys ∧ Q (.ref p) H))) fTup := by
  refine ⟨call_tuple_of, fun c W σ s xs ds Qv Qd R r h k => ?_⟩
  unfold fTup at h
  split at h
  · rename_i d
    obtain ⟨v, rfl, rv⟩ := repsT_one r
    cases q : asSeq s d with
    | none => rw [q] at h; exact h.elim
    | some ys =>
      rw [q] at h
      obtain ⟨l, vs, rfl, hs, rr⟩ := asSeq_spec R rv q
      rcases hs with hs | hs
      · exact ⟨l, vs, rfl, .inl ⟨hs, fun p hp => k (.ref p) ⟨W.M, upd W.H p (.tup vs), W.pa⟩ (.tup ys) (R.same (same_new hp)) (Pr.new hp) (Rep.tup (.inl upd_same) (rr.mono (Pr.new hp))) h⟩⟩
      · exact ⟨l, vs, rfl, .inr ⟨hs.sq, k (.ref l) W (.tup ys) R (Pr.refl _) (Rep.tup hs rr) h⟩⟩
  · exact h.elim
def rListOf (K : PySem.W.Frag) : List V → Hp → VK → Prop := fun xs H Q => ∃ p ys, xs = [.ref p] ∧ (SqL K H p ys ∨ SqT K H p ys) ∧ ∀ l, H l = none → Q (.ref l) (upd H l (.lst ys))
def seq1 (s : DS) : List D → Option (List D)
  | [d] => asSeq s d
  | _ => none
def dlListOf (r : DA) : DL_ := fun s Q => r s fun ds s1 => match seq1 s1 ds with
  | some xs => Q xs s1
  | none => False
/-- list(..), a new list -/
theorem dl_listOf {taa : TA} {ra : DA} (hm : X.mg "list" = none) (ha : PDA X (e :: es) taa ra) (hg : Gl X "list" := by rfl) (he : starEach (e :: es) X.env = (false, eval e X.env) :: starEach es X.env := by rfl) (hpl : (backTo pos (starEach es X.env)).any (·.1) = false := by rfl) :
    PL X (.Call (.Name "list" p) (e :: es) [] pos) (tCB (rListOf X.K) taa) (dlListOf ra) := by
  refine ⟨pe_callTy call_list_of hg hm (by decide +kernel) ha.pa (by decide) (by decide) he hpl, fun c W σ s Qv Qd R hq k => ?_⟩
  refine ha.snd c W σ s _ _ R hq fun vs W1 ds s1 R1 p1 r1 q1 => ?_
  have q2 : match seq1 s1 ds with
    | some xs => Qd xs s1
    | none => False := q1
  cases q : seq1 s1 ds with
  | none => rw [q] at q2; exact q2.elim
  | some ys =>
    rw [q] at q2
    match ds, q with
    | [d], q =>
      obtain ⟨v, rfl, rv⟩ := repsT_one r1
      obtain ⟨l, ws, rfl, hs, rr⟩ := asSeq_spec R1 rv q
      exact ⟨l, ws, rfl, hs.imp id TupV.sq, newL R1 p1 rr q2 k⟩
/-! ### sums and extremes of ints -/
def toInts : List D → Option (List Int)
  | [] => some []
  | .int i :: r => (toInts r).map fun is => i :: is
  | _ :: _ => none
theorem toInts_spec : ∀ {ds : List D} {is : List Int}, toInts ds = some is → ds = is.map D.int
  | [], _, h => by cases h; rfl
  | .int i :: r, is, h => by
    have h' : (toInts r).map (fun is => i :: is) = some is := h
    cases q : toInts r with
    | none => rw [q] at h'; cases h'
    | some js =>
      rw [q] at h'
      cases h'
      rw [toInts_spec q]
      rfl
  | .non :: _, _, h => by cases h
  | .bl _ :: _, _, h => by cases h
  | .str _ :: _, _, h => by cases h
  | .tup _ :: _, _, h => by cases h
  | .lst _ :: _, _, h => by cases h
  | .obj _ _ :: _, _, h => by cases h
  | .dT _ :: _, _, h => by cases h
  | .dK _ :: _, _, h => by cases h
  | .raw _ :: _, _, h => by cases h
  | .paw :: _, _, h => by cases h
  | .slot _ :: _, _, h => by cases h
theorem toInts_map {is : List Int} : toInts (is.map D.int) = some is := by
  induction is with
  | nil => rfl
  | cons i is ih => show (toInts (is.map D.int)).map _ = _; rw [ih]; rfl
def fL1 (g : List Int → (D → Prop) → Prop) : DCl := fun s ds Q => match ds with
  | [d] => match asL s d with
    | some xs => match toInts xs with
      | some is => g is Q
      | none => False
    | none => False
  | _ => False
theorem fL1_spec {c : C0} {W : Wd} {σ : St} {s : DS} {xs : List V} {ds : List D} {g : List Int → (D → Prop) → Prop} {Qd : D → Prop} (R : Rel K c W σ s) (r : RepsT K W σ xs ds) (h : fL1 g s ds Qd) : ∃ (a : Addr) (ns : List Int), xs = [V.ref a] ∧ SqL K W.H a (ns.map V.int) ∧ g ns Qd := by
  unfold fL1 at h
  split at h
  · rename_i d
    obtain ⟨v, rfl, rv⟩ := repsT_one r
    cases q : asL s d with
    | none => rw [q] at h; exact h.elim
    | some ys =>
      rw [q] at h
      simp only at h
      cases q2 : toInts ys with
      | none => rw [q2] at h; exact h.elim
      | some ns =>
        rw [q2] at h
        obtain ⟨l, vs, rfl, hs, rr⟩ := asL_spec R rv q
        rw [toInts_spec q2] at rr
        have e := reps_ints rr
        subst e
        exact ⟨l, ns, rfl, SqL.of hs, h⟩
  · exact h.elim
def fSum : DCl := fL1 fun ns Q => Q (.int ns.sum)
theorem b_sum : SndC K (rSum K) fSum := fun c W σ s xs ds Qv Qd R r h k => by
  obtain ⟨a, ns, e, hs, q⟩ := fL1_spec R r h
  exact ⟨a, ns, e, hs, k _ W _ R (Pr.refl _) (Rep.int _).t q⟩
def fMaxL : DCl := fL1 fun ns Q => 0 < ns.length ∧ ∀ m, m ∈ ns → (∀ y, y ∈ ns → y ≤ m) → Q (.int m)
theorem b_maxL : SndC K (rMax K) fMaxL := fun c W σ s xs ds Qv Qd R r h k => by
  obtain ⟨a, ns, e, hs, hl, q⟩ := fL1_spec R r h
  exact ⟨a, ns, e, hs, hl, fun m hm hy => k _ W _ R (Pr.refl _) (Rep.int _).t (q m hm hy)⟩
def fMinL : DCl := fL1 fun ns Q => 0 < ns.length ∧ ∀ m, m ∈ ns → (∀ y, y ∈ ns → m ≤ y) → Q (.int m)
theorem b_minL : SndC K (rMin K) fMinL := fun c W σ s xs ds Qv Qd R r h k => by
  obtain ⟨a, ns, e, hs, hl, q⟩ := fL1_spec R r h
  exact ⟨a, ns, e, hs, hl, fun m hm hy => k _ W _ R (Pr.refl _) (Rep.int _).t (q m hm hy)⟩

/-! ### isinstance -/
/-- the type of plain data -/
def tyD (s : DS) : D → Option String
  | .non => some "NoneType"
  | .bl _ => some "bool"
  | .int _ => some "int"
  | .str _ => some "str"
  | .tup _ => some "tuple"
  | .lst _ => some "list"
  | .dT _ => some "dict"
  | .dK _ => some "dict"
  | .slot i => match s.sl[i]? with
    | some (.own _) => some "list"
    | some (.ownT _) => some "dict"
    | some (.ownK _) => some "dict"
    | _ => none
  | _ => none
theorem tyx_tup {H : Hp} {a : Addr} {xs : List V} (h : TupV K H a xs) : TyX K H (.ref a) (.type "tuple") := by
  rcases h with h | ⟨o, its, n, h, hc, _⟩
  · exact .base (.tup h)
  · exact .kTuple h hc
theorem tyD_spec {c : C0} {W : Wd} {σ : St} {s : DS} {v : V} {d : D} {n : String} (R : Rel K c W σ s) (r : RepT K W σ v d) (h : tyD s d = some n) : TyX K W.H v (.type n) := by
  cases d with
  | non => cases r; cases h; exact .base .non
  | bl _ => cases r; cases h; exact .base (.bl _)
  | int _ => cases r; cases h; exact .base (.int _)
  | str _ => cases r; cases h; exact .base (.str _)
  | tup _ => cases h; cases r with | tup q _ => exact tyx_tup q
  | lst _ => cases h; cases r with | lst q _ _ => exact .base (.lst q)
  | dT _ => cases h; cases r with | dT q _ _ _ => exact .base (.dT q)
  | dK _ => cases h; cases r with | dK q _ _ _ => exact .base (.dK q)
  | slot i =>
    have h' : (match s.sl[i]? with
      | some (.own _) => some "list"
      | some (.ownT _) => some "dict"
      | some (.ownK _) => some "dict"
      | _ => none) = some n := h
    have r' : σ[i]? = some (some v) := r
    cases q : s.sl[i]? with
    | none => rw [q] at h'; cases h'
    | some en =>
      rw [q] at h'
      have en_ok := R.ent i _ q
      cases en with
      | own xs =>
        obtain ⟨l, vs, a1, _, _, a4, _⟩ := en_ok
        rw [r'] at a1; cases a1; cases h'
        exact .base (.lst a4)
      | ownT xs =>
        obtain ⟨l, vs, a1, _, _, a4, _⟩ := en_ok
        rw [r'] at a1; cases a1; cases h'
        exact .base (.dT a4)
      | ownK xs =>
        obtain ⟨l, vs, a1, _, _, a4, _⟩ := en_ok
        rw [r'] at a1; cases a1; cases h'
        exact .base (.dK a4)
      | _ => cases h'
  | _ => cases h
def rIsiA (K : PySem.W.Frag) : List V → Hp → VK → Prop := fun xs H Q => rIsi K xs H Q ∨ rIsiT K xs H Q ∨ rIsiK K xs H Q
theorem call_isiA : CallR X (.builtin "isinstance") (rIsiA X.K) := by
  intro pins s σ H xs us Q I r h
  rcases h with h | h | h
  · exact call_isi pins s σ H xs us Q I r h
  · exact call_isiT pins s σ H xs us Q I r h
  · exact call_isiK pins s σ H xs us Q I r h
def kitBs (a : String) : List String → Option Bool
  | [] => some false
  | c :: r => match kitB a c with
    | some true => some true
    | some false => kitBs a r
    | none => none
def rawTys : List D → Option (List String)
  | [] => some []
  | .raw (.ty n) :: r => (rawTys r).map fun ns => n :: ns
  | _ => none
/-- isinstance(x, T), isinstance(x, (T, ..)): plain data, built-in types -/
def fIsi : DCl := fun s ds Q => match ds with
  | [x, .raw (.ty n)] => match tyD s x with
    | some t => match kitB t n with
      | some b => Q (.bl b)
      | none => False
    | none => False
  | [x, .tup cs] => match tyD s x, rawTys cs with
    | some t, some ns => match kitBs t ns with
      | some b => Q (.bl b)
      | none => False
    | _, _ => False
  | _ => False
theorem kitBs_any {t : String} : ∀ {ns : List String} {b : Bool}, kitBs t ns = some b → PySem.W.kitAny K (.type t) (ns.map Value.type) = some b
  | [], b, h => by cases h; exact kitAny_nil
  | c :: r, b, h => by
    have h' : (match kitB t c with
      | some true => some true
      | some false => kitBs t r
      | none => none) = some b := h
    cases q : kitB t c with
    | none => rw [q] at h'; cases h'
    | some k =>
      rw [q] at h'
      refine kitAny_cons (kit_ty q) (fun e => ?_) fun e => ?_
      · subst e
        exact kitBs_any h'
      · subst e
        cases h'
        rfl
theorem rawTys_spec {W : Wd} : ∀ {cs : List D} {ns : List String} {vs : List V}, Reps K W vs cs → rawTys cs = some ns → vs = ns.map V.ty
  | [], _, _, .nil, h => by cases h; rfl
  | .raw (.ty n) :: r, ns, _, .cons a rr, h => by
    have h' : (rawTys r).map (fun ns => n :: ns) = some ns := h
    cases q : rawTys r with
    | none => rw [q] at h'; cases h'
    | some ms =>
      rw [q] at h'
      cases h'
      cases a
      rw [rawTys_spec rr q]
      rfl
theorem vals_tys : ∀ {ns : List String} {us : List Value}, Vals (ns.map V.ty) us → us = ns.map Value.type
  | [], _, .nil => rfl
  | n :: ns, _, .cons a r => by
    rw [vals_tys r]
    cases (show _ = Value.type n from a)
    rfl
theorem paired_tys : ∀ {ns : List String}, Paired ClsV (ns.map V.ty) (ns.map Value.type)
  | [] => .nil
  | n :: _ => .cons (.ty n) paired_tys
theorem b_isi : CallR X (.builtin "isinstance") (rIsiA X.K) ∧ SndC X.K (rIsiA X.K) fIsi := by
  refine ⟨call_isiA, fun c W σ s xs ds Qv Qd R r h k => ?_⟩
  unfold fIsi at h
  split at h
  · rename_i x n
    obtain ⟨v, w, rfl, rv, rw'⟩ := repsT_two r
    cases rw'
    cases q : tyD s x with
    | none => rw [q] at h; exact h.elim
    | some t =>
      rw [q] at h
      simp only at h
      cases q2 : kitB t n with
      | none => rw [q2] at h; exact h.elim
      | some b =>
        rw [q2] at h
        exact .inl ⟨v, .ty n, .type t, .type n, b, rfl, .ty n, tyD_spec R rv q, kit_ty q2, k _ W _ R (Pr.refl _) (Rep.bl _).t h⟩
  · rename_i x cs
    obtain ⟨v, w, rfl, rv, rw'⟩ := repsT_two r
    cases q : tyD s x with
    | none => rw [q] at h; exact h.elim
    | some t =>
      cases q3 : rawTys cs with
      | none => rw [q, q3] at h; exact h.elim
      | some ns =>
        rw [q, q3] at h
        simp only at h
        cases q2 : kitBs t ns with
        | none => rw [q2] at h; exact h.elim
        | some b =>
          rw [q2] at h
          cases rw' with
          | tup hq rr =>
            have e := rawTys_spec rr q3
            subst e
            have ka : PySem.W.kitAny X.K (.type t) (ns.map Value.type) = some b := kitBs_any q2
            rcases hq with hq | ⟨⟨oc, od, dt, sl⟩, its, n, h1, h2, h3, _, rvs⟩
            · exact .inr (.inl ⟨v, _, _, _, _, b, rfl, hq, paired_tys, tyD_spec R rv q, ka, k _ W _ R (Pr.refl _) (Rep.bl _).t h⟩)
            · have e2 : its = (ns.map Value.type).toArray := by
                have e3 : its.toList = ns.map Value.type := vals_tys rvs
                rw [← e3]
              simp only at h2 h3
              subst h2
              subst h3
              subst e2
              exact .inr (.inr ⟨v, _, od, ns.map Value.type, n, sl, _, b, rfl, h1, tyD_spec R rv q, ka, k _ W _ R (Pr.refl _) (Rep.bl _).t h⟩)
  · exact h.elim
end
end DL

namespace DL
open PySem L2
section
variable {X : Cx} {K : PySem.W.Frag}
/-! ### repr of plain data -/
mutual
theorem toPy_noDict : ∀ {d : D} {p : PyData}, toPy d = some p → p.hasDict = false
  | .non, _, h => by cases h; rfl
  | .bl _, _, h => by cases h; rfl
  | .int _, _, h => by cases h; rfl
  | .str _, _, h => by cases h; rfl
  | .tup xs, p, h => by
    rw [toPy] at h
    cases e : toPys xs with
    | none => rw [e] at h; cases h
    | some ps =>
      rw [e] at h
      cases h
      rw [PyData.hasDict]
      exact toPys_noDict e
  | .lst xs, p, h => by
    rw [toPy] at h
    cases e : toPys xs with
    | none => rw [e] at h; cases h
    | some ps =>
      rw [e] at h
      cases h
      rw [PyData.hasDict]
      exact toPys_noDict e
  | .obj _ _, _, h => by rw [toPy] at h; cases h
  | .dT _, _, h => by rw [toPy] at h; cases h
  | .dK _, _, h => by rw [toPy] at h; cases h
  | .raw _, _, h => by rw [toPy] at h; cases h
  | .paw, _, h => by rw [toPy] at h; cases h
  | .slot _, _, h => by rw [toPy] at h; cases h
theorem toPys_noDict : ∀ {ds : List D} {ps : List PyData}, toPys ds = some ps → PyData.hasDictAll ps = false
  | [], _, h => by rw [toPys] at h; cases h; rfl
  | d :: ds, ps, h => by
    rw [toPys] at h
    cases e : toPy d with
    | none => rw [e] at h; cases h
    | some p =>
      rw [e] at h
      cases e2 : toPys ds with
      | none => rw [e2] at h; cases h
      | some qs =>
        rw [e2] at h
        cases h
        rw [PyData.hasDictAll, toPy_noDict e, toPys_noDict e2]
        rfl
end
theorem toPyT_noDict {s : DS} {d : D} {p : PyData} (h : toPyT s d = some p) : p.hasDict = false := by
  cases d with
  | slot i =>
    have h' : (match s.sl[i]? with
      | some (.own xs) => (toPys xs).map PyData.list
      | _ => none) = some p := h
    cases e : s.sl[i]? with
    | none => rw [e] at h'; cases h'
    | some x =>
      rw [e] at h'
      cases x with
      | own ys =>
        have h'' : (toPys ys).map PyData.list = some p := h'
        cases e2 : toPys ys with
        | none => rw [e2] at h''; cases h''
        | some ps =>
          rw [e2] at h''
          cases h''
          rw [PyData.hasDict]
          exact toPys_noDict e2
      | _ => cases h'
  | raw _ => cases h
  | paw => cases h
  | obj _ _ => cases h
  | dT _ => cases h
  | dK _ => cases h
  | non => exact toPy_noDict h
  | bl _ => exact toPy_noDict h
  | int _ => exact toPy_noDict h
  | str _ => exact toPy_noDict h
  | tup _ => exact toPy_noDict h
  | lst _ => exact toPy_noDict h
def rRepr (K : PySem.W.Frag) : List V → Hp → VK → Prop := fun xs H Q => ∃ x d, xs = [x] ∧ Dp K H x d ∧ d.hasDict = false ∧ d.showable = true ∧ d.depth ≤ 60 ∧ d.shown.length ≤ sizeLine ∧ Q (.str d.shown) H
theorem call_reprD (hg : X.A.guards = some []) (hu : X.A.units + 64 < cLine) : CallR X (.builtin "repr") (rRepr X.K) := by
  intro pins s σ H xs us Q I r h
  obtain ⟨x, d, rfl, hd, hn, hs, hdp, hz, q⟩ := h
  obtain ⟨u, rfl, rx⟩ := vals1 r
  cases hd with
  | non => cases rx; exact PySem.P.repr_of_none ⟨.str _, H, I.tok _, ⟨_, rfl⟩, q⟩
  | bl b => cases rx; exact PySem.P.repr_of_bool ⟨.str _, H, I.tok _, ⟨_, rfl⟩, q⟩
  | int i =>
    obtain ⟨t, rfl⟩ := rx
    have hs' : i.natAbs.log2 < 1920 := by simpa [PyData.showable] using hs
    exact PySem.P.repr_of_int hs' ⟨.str _, H, I.tok _, ⟨_, rfl⟩, q⟩
  | str y =>
    obtain ⟨t, rfl⟩ := rx
    exact PySem.P.repr_of_str ⟨.str _, H, I.tok _, ⟨_, rfl⟩, q⟩ hz
  | lst h1 h2 =>
    obtain ⟨as, rd⟩ := Dp.reads I _ _ _ (.lst h1 h2) rx
    cases rx
    exact repr_of_reads' rd hs (PyData.noDict_hsm hn) hg (by omega) (fun b o e => e) (fun h' u tk hk => ⟨.str _, H, I.kept (t' := tk) hk, ⟨_, rfl⟩, q⟩) hz
  | tup h1 h2 =>
    obtain ⟨as, rd⟩ := Dp.reads I _ _ _ (.tup h1 h2) rx
    cases rx
    exact repr_of_reads' rd hs (PyData.noDict_hsm hn) hg (by omega) (fun b o e => e) (fun h' u tk hk => ⟨.str _, H, I.kept (t' := tk) hk, ⟨_, rfl⟩, q⟩) hz
def fRepr : DCl := fun s ds Q => match ds with
  | [d] => match toPyT s d with
    | some p => p.showable = true ∧ p.depth ≤ 60 ∧ p.shown.length ≤ sizeLine ∧ Q (.str p.shown)
    | none => False
  | _ => False
theorem b_repr (hg : X.A.guards = some []) (hu : X.A.units + 64 < cLine) : CallR X (.builtin "repr") (rRepr X.K) ∧ SndC X.K (rRepr X.K) fRepr := by
  refine ⟨call_reprD hg hu, fun c W σ s xs ds Qv Qd R r h k => ?_⟩
  unfold fRepr at h
  split at h
  · rename_i d
    obtain ⟨v, rfl, rv⟩ := repsT_one r
    cases q : toPyT s d with
    | none => rw [q] at h; exact h.elim
    | some p =>
      rw [q] at h
      obtain ⟨h1, h2, h3, h4⟩ := h
      exact ⟨v, p, rfl, toPyT_spec R rv q, toPyT_noDict q, h1, h2, h3, k _ W _ R (Pr.refl _) (Rep.str _).t h4⟩
  · exact h.elim
end
end DL

namespace DL
open PySem L2
section
variable {X : Cx} {K : PySem.W.Frag} {c : C0} {a b e elt tg iter : Expr} {es ifs : List Expr} {te tea teb tec : TE} {t ta tb tc : DE} {pos : Pos} {tt : TT} {dt : DT} {wi : TI} {ti : DI} {g : TG} {dg : DG}
/-! ### chains -/
def dChain (f f' : DR) (ta tb tc : DE) : DE := fun s Q => ta s fun d1 s1 => tb s1 fun d2 s2 => d2.isSlot = false ∧ f s2 d1 d2 fun d => match d with
  | .bl k => if k = true then tc s2 fun d3 s3 => f' s3 d2 d3 fun d => Q d s3 else Q (.bl false) s2
  | _ => False
theorem snd_chain {r r' : R2} {f f' : DR} (h : SndR K r f) (h' : SndR K r' f') (ha : SndE K tea ta) (hb : SndE K teb tb) (hc : SndE K tec tc) : SndE K (tChain r r' tea teb tec) (dChain f f' ta tb tc) := by
  intro c W σ s Qv Qd R hq k
  refine ha c W σ s _ _ R hq fun x W1 d1 s1 R1 p1 r1 q1 => ?_
  refine hb c W1 σ s1 _ _ R1 q1 fun y W2 d2 s2 R2 p2 r2 q2 => ?_
  refine h c W2 σ s2 x y d1 d2 _ _ R2 (r1.mono p2) r2 q2.2 fun v W3 d R3 p3 r3 q3 => ?_
  cases d with
  | bl k' =>
    cases r3
    refine ⟨k', rfl, ?_⟩
    cases k' with
    | true => exact hc c W3 σ s2 _ _ R3 q3 fun z W4 d3 s3 R4 p4 r4 q4 => h' c W4 σ s3 y z d2 d3 _ _ R4 ((r2.mono p3).mono p4) r4 q4 fun v W5 d R5 p5 r5 q5 => k v W5 d s3 R5 ((((p1.trans p2).trans p3).trans p4).trans p5) r5 q5
    | false => exact k _ W3 _ s2 R3 ((p1.trans p2).trans p3) (Rep.bl false).t q3
  | _ => exact q3.elim
theorem d_chain {op op' : CmpOp} {r r' : R2} {f f' : DR} {cc : Expr} (h : OpR X (compareOp op) r ∧ SndR X.K r f) (h' : OpR X (compareOp op') r' ∧ SndR X.K r' f') (ha : PD X a tea ta) (hb : PD X b teb tb) (hc : PD X cc tec tc)
    (hm : lastMarks [op, op'] [b, cc] = false := by with_unfolding_all rfl) : PD X (.Compare a [op, op'] [b, cc] pos) (tChain r r' tea teb tec) (dChain f f' ta tb tc) := ⟨pe_chain h.1 h'.1 ha.pe hb.pe hc.pe hm, snd_chain h.2 h'.2 ha.snd hb.snd hc.snd⟩
theorem dt_chain {op op' : CmpOp} {r r' : R2} {f f' : DR} {cc : Expr} (h : OpR X (compareOp op) r ∧ SndR X.K r f) (h' : OpR X (compareOp op') r' ∧ SndR X.K r' f') (ha : PD X a tea ta) (hb : PD X b teb tb) (hc : PD X cc tec tc)
    (hm : lastMarks [op, op'] [b, cc] = false := by with_unfolding_all rfl) : PDT X (.Compare a [op, op'] [b, cc] pos) (tTest (tChain r r' tea teb tec)) (dB (dChain f f' ta tb tc)) := ⟨pt_chain h.1 h'.1 ha.pe hb.pe hc.pe hm, snd_test (snd_chain h.2 h'.2 ha.snd hb.snd hc.snd)⟩
/-! ### dicts that are written -/
def dDict0 : DE := fun s Q => Q (.dK []) s
theorem d_dict0 : PD X (.Dict [] [] pos) tDNewK dDict0 := by
  refine ⟨pe_dnewK, fun c W σ s Qv Qd R h k p hp => ?_⟩
  exact k (.ref p) ⟨W.M, upd W.H p (.dK []), W.pa⟩ (.dK []) s (R.same (same_new hp)) (Pr.new hp) (Rep.dK (vs := []) upd_same (R.fresh hp) rfl .nil) h
def dDict0T : DE := fun s Q => Q (.dT []) s
theorem d_dict0T : PD X (.Dict [] [] pos) tDNewT dDict0T := by
  refine ⟨pe_dnewT, fun c W σ s Qv Qd R h k p hp => ?_⟩
  exact k (.ref p) ⟨W.M, upd W.H p (.dT []), W.pa⟩ (.dT []) s (R.same (same_new hp)) (Pr.new hp) (Rep.dT (vs := []) upd_same (R.fresh hp) rfl .nil) h
/-- keys that are ints and texts -/
def asKey : D → Option Key
  | .int i => some (.inl i)
  | .str x => some (.inr x)
  | _ => none
theorem asKey_spec {W : Wd} {σ : St} {v : V} {d : D} {k : Key} (r : RepT K W σ v d) (h : asKey d = some k) : v = kV k := by
  cases d with
  | int i => cases r; cases h; rfl
  | str x => cases r; cases h; rfl
  | _ => cases h
def dPairs : List (DE × DE) → DS → (List (Key × D) → DS → Prop) → Prop
  | [], s, Q => Q [] s
  | (tk, tv) :: r, s, Q => tk s fun dk s1 => tv s1 fun dv s2 => match asKey dk with
    | some k => dv.isSlot = false ∧ dPairs r s2 fun ps s3 => Q ((k, dv) :: ps) s3
    | none => False
structure PDP (X : Cx) (pos : Pos) (keys : List (Option Expr)) (values : List Expr) (trs : List (TE × TE)) (ds : List (DE × DE)) : Prop where
  pps : PPs X pos keys values trs
  snd : ∀ (c : C0) (W : Wd) (σ : St) (s : DS) (Qv : List (V × V) → Hp → Prop) (Qd : List (Key × D) → DS → Prop), Rel X.K c W σ s → dPairs ds s Qd →
    (∀ (vs : List (Key × V)) W' ps s', Rel X.K c W' σ s' → Pr W W' → vs.map (·.1) = ps.map (·.1) → Reps X.K W' (vs.map (·.2)) (ps.map (·.2)) → Qd ps s' → Qv (vs.map fun kv => (kV kv.1, kv.2)) W'.H) → tPairs trs σ W.H Qv
theorem dp_nil : PDP X pos [] [] [] [] := ⟨pps_nil, fun c W σ s Qv Qd R h k => k [] W [] s R (Pr.refl _) rfl .nil h⟩
theorem dp_cons {ky v : Expr} {ks : List (Option Expr)} {vs : List Expr} {tk tv : TE} {dk dv : DE} {trs : List (TE × TE)} {ds : List (DE × DE)} (hk : PD X ky tk dk) (hv : PD X v tv dv) (hr : PDP X pos ks vs trs ds) : PDP X pos (some ky :: ks) (v :: vs) ((tk, tv) :: trs) ((dk, dv) :: ds) := by
  refine ⟨pps_cons hk.pe hv.pe hr.pps, fun c W σ s Qv Qd R h k => ?_⟩
  refine hk.snd c W σ s _ _ R h fun x W1 d1 s1 R1 p1 r1 q1 => ?_
  refine hv.snd c W1 σ s1 _ _ R1 q1 fun y W2 d2 s2 R2 p2 r2 q2 => ?_
  have q2 : match asKey d1 with
    | some k => d2.isSlot = false ∧ dPairs ds s2 fun ps s3 => Qd ((k, d2) :: ps) s3
    | none => False := q2
  cases ek : asKey d1 with
  | none => rw [ek] at q2; exact q2.elim
  | some kk =>
    rw [ek] at q2
    obtain ⟨n2, q2⟩ := q2
    have e := asKey_spec r1 ek
    subst e
    refine hr.snd c W2 σ s2 _ _ R2 q2 fun ws W3 ps s3 R3 p3 hm rr q3 => ?_
    exact k ((kk, y) :: ws) W3 ((kk, d2) :: ps) s3 R3 ((p1.trans p2).trans p3) (congrArg (List.cons kk) hm) (.cons ((r2.to n2).mono p3) rr) q3
theorem put_end {k : Key} {v : V} : ∀ {l : List (Key × V)}, k ∉ l.map (·.1) → putK l k v = l ++ [(k, v)] := fun {l} h => by
  unfold putK
  rw [if_neg]
  intro z
  rw [List.any_eq_true] at z
  obtain ⟨p, hp, e⟩ := z
  exact h (List.mem_map.mpr ⟨p, hp, of_decide_eq_true e⟩)
theorem merge_nodup : ∀ {r l : List (Key × V)}, ((l ++ r).map (·.1)).Nodup → mergeK l r = l ++ r
  | [], l, _ => by rw [List.append_nil]; rfl
  | p :: r, l, h => by
    have hk : p.1 ∉ l.map (·.1) := fun m => by
      rw [List.map_append, List.map_cons] at h
      exact (List.nodup_append.mp h).2.2 _ m _ (List.mem_cons_self ..) rfl
    show mergeK (putK l p.1 p.2) r = l ++ p :: r
    rw [put_end hk]
    have e : (l ++ [(p.1, p.2)]) ++ r = l ++ p :: r := by rw [List.append_assoc]; rfl
    rw [merge_nodup (by rw [e]; exact h), e]
def dDict (ds : List (DE × DE)) : DE := fun s Q => dPairs ds s fun ps s1 => ps.length ≤ 15 ∧ (ps.map (·.1)).Nodup ∧ Q (.dK ps) s1
theorem d_dict {keys : List (Option Expr)} {values : List Expr} {trs : List (TE × TE)} {ds : List (DE × DE)} (h : PDP X pos keys values trs ds) (hall : keys.all (·.isSome) = true := by rfl) (hl : keys.length = values.length := by rfl) (h0 : keys ≠ [] := by exact fun z => by cases z)
    (h15 : keys.length ≤ 15 := by decide) : PD X (.Dict keys values pos) (tDisp trs) (dDict ds) := by
  refine ⟨pe_disp h.pps hall hl h0 h15, fun c W σ s Qv Qd R hq k p hp => ?_⟩
  have hz : c.H0 p = none := R.new0 hp
  have R1 : Rel X.K c ⟨fun a => W.M a ∨ a = p, upd W.H p (.dK []), W.pa⟩ σ s := R.laid (.dK []) hp
  have RH := R1.hold hz (.inr rfl) upd_same (R.newOwn hp)
  refine h.snd (c.hold p (.dK [])) _ σ s _ _ RH hq fun vs W2 ps s2 R2 p2 hm rr q2 => ?_
  obtain ⟨R3, h3, m3, n3⟩ := R1.unhold hz R2
  obtain ⟨hlen, hnd, q2⟩ := q2
  have hvl : vs.length = ps.length := by
    have e := congrArg List.length hm
    rw [List.length_map, List.length_map] at e
    exact e
  refine ⟨h3, vs, rfl, by rw [hvl]; exact hlen, ?_⟩
  have em : mergeK [] vs = vs := merge_nodup (l := []) (by rw [List.nil_append, hm]; exact hnd)
  rw [em]
  have P4 : Pr W2 ⟨W2.M, upd W2.H p (.dK vs), W2.pa⟩ := Pr.mut m3 h3 fun z => z
  have R4 : Rel X.K c ⟨W2.M, upd W2.H p (.dK vs), W2.pa⟩ σ s2 := R3.poke hz m3 h3 (fun z => z) n3
  obtain ⟨R5, P5⟩ := R4.freeze hz n3
  exact k (.ref p) ⟨fun a => W2.M a ∧ a ≠ p, upd W2.H p (.dK vs), W2.pa⟩ (.dK ps) s2 R5 (((Pr.laid hp).trans p2).trans (P4.trans P5)) (Rep.dK (vs := vs) upd_same (fun z => z.2 rfl) hm ((rr.mono P4).mono P5)) q2
/-! ### a, b, c = x, y, z -/
def dPar3 (i j l : Nat) (r : DA) : DTS := fun F s => r s fun ds s1 => match ds with
  | [a, b, c] => (a.isSlot = false ∧ b.isSlot = false ∧ c.isSlot = false) ∧ F.nx { s1 with sl := ((s1.sl.set i (.fz a)).set j (.fz b)).set l (.fz c) }
  | _ => False
theorem snd_par3 {i j l : Nat} {taa : TA} {r : DA} (ha : SndA K taa r) : SndS K (tPar3 i j l taa) (dPar3 i j l r) := by
  intro c W σ s E F R C h
  refine ha c W σ s _ _ R h fun vs W1 ds s1 R1 p1 r1 q1 => ?_
  cases r1 with
  | nil => exact q1.elim
  | cons ra r1 =>
    cases r1 with
    | nil => exact q1.elim
    | cons rb r1 =>
      cases r1 with
      | nil => exact q1.elim
      | cons rc r1 =>
        cases r1 with
        | nil =>
          obtain ⟨⟨n1, n2, n3⟩, q⟩ := q1
          refine ⟨_, _, _, rfl, ?_⟩
          exact C.nx W1 _ _ (((R1.putFz i (ra.to n1)).putFz j (rb.to n2)).putFz l (rc.to n3)) p1 q
        | cons _ _ => exact q1.elim
theorem ds_par3 {i j l : Nat} {x y z : Str} {a b cc : Expr} {taa : TA} {r : DA} {px py pz pt : Pos} {kt k2 pt2} (hc : X.calm = true) (hN : X.N.Nodup) (hi : X.N[i]? = some x) (hj : X.N[j]? = some y) (hl : X.N[l]? = some z) (hij : i ≠ j) (hil : i ≠ l) (hjl : j ≠ l)
    (hx : X.env.scope.names.lookup x = some .local) (hy : X.env.scope.names.lookup y = some .local) (hz : X.env.scope.names.lookup z = some .local) (ha : PDA X [a, b, cc] taa r)
    (hw : swappedStores [.Tuple [.Name x px, .Name y py, .Name z pz] kt pt] (.Tuple [a, b, cc] k2 pt2) X.env = pure (some [x, y, z]))
    (hs : swapsWithSole [.Tuple [.Name x px, .Name y py, .Name z pz] kt pt] (.Tuple [a, b, cc] k2 pt2) pos.line X.env = pure false := by rfl) :
    PDS X (.Assign [.Tuple [.Name x px, .Name y py, .Name z pz] kt pt] (.Tuple [a, b, cc] k2 pt2) pos) (tPar3 i j l taa) (dPar3 i j l r) :=
  ⟨ps_par3 hc hN hi hj hl hij hil hjl hx hy hz ha.pa hw hs, snd_par3 ha.snd⟩
/-! ### y = [..] as data -/
theorem ds_setLc {i : Nat} {y : Str} {py spos : Pos} {scope : Scope} {own : List (Str × Nat)} (hc : X.calm = true) (hN : X.N.Nodup) (hy : X.N[i]? = some y) (hyl : X.env.scope.names.lookup y = some .local)
    (hsw : swapsWith (.ListComp elt [⟨tg, iter, ifs, 0⟩] scope pos) (some (.Name y py)) spos.line X.env = pure true) (hi : PDI X tg iter wi ti) (ok : BlkOk X.N X.env.scope scope own) (gk : GOk g (own.map (·.2)))
    (hg : ∀ (s : Shared) (H : Hp) (C : Addr) (cl : List (Str × Addr)) (fp : List Addr), PDG (X.blk s H scope (compEnvC scope cl C X.env) fp) tg g dg) (ht : ∀ (s : Shared) (H : Hp) (C : Addr) (cl : List (Str × Addr)) (fp : List Addr), PDTs (X.blk s H scope (compEnvC scope cl C X.env) fp) ifs tt dt)
    (he : ∀ (s : Shared) (H : Hp) (C : Addr) (cl : List (Str × Addr)) (fp : List Addr), PD (X.blk s H scope (compEnvC scope cl C X.env) fp) elt te t) (hs : ∀ x, foldedSetIterable iter X.env x = pure x := by intro _; rfl) :
    PDS X (.Assign [.Name y py] (.ListComp elt [⟨tg, iter, ifs, 0⟩] scope pos) spos) (tAsg (tLc wi g tt te (own.map (·.2))) (gName i)) (dAsg (dOfL (dLc ti dg dt t (own.map (·.2)))) (dgName i)) := by
  have h := ds_ownLc hc hN hy hyl hsw hi ok gk hg ht he hs
  have hl : SndL X.K (tLc wi g tt te (own.map (·.2))) (dLc ti dg dt t (own.map (·.2))) := snd_lc hi.snd (hg X.s_0 (fun _ => none) 0 [] []).snd gk (ht X.s_0 (fun _ => none) 0 [] []).snd (he X.s_0 (fun _ => none) 0 [] []).snd
  refine ⟨h.ps, snd_asg (fun c W σ s Qv Qd R hq k => ?_) snd_gName⟩
  refine hl c W σ s _ _ R hq fun p vs W1 xs s1 R1 p1 hm hp r h0 no q => ?_
  obtain ⟨R2, p2⟩ := R1.freeze h0 no
  exact k (.ref p) ⟨fun a => W1.M a ∧ a ≠ p, W1.H, W1.pa⟩ (.lst xs) s1 R2 (p1.trans p2) (Rep.lst hp (fun z => z.2 rfl) (r.mono p2)) q
end
/-! ### a def by its place -/
structure Dfn (K : PySem.W.Frag) (mg : Str → Option Value) (x : Str) (st : Stmt) (ps : List Str) : Prop where
  ex : ∃ f fd, Fun K x x st f fd ∧ mg x = some (.ref f) ∧ Binds K fd ps []
theorem dfn_mk {K : PySem.W.Frag} {h : Heap} {mg : Str → Option Value} {x : Str} {st : Stmt} {ps : List Str} {f : Addr} {od an : Option Addr} {sl : Array (Option Value)} {oc kV dc pm cd ct : Value} (X : K.In h) (G : h.Ns mainGlobals mg)
    (b : ∀ (kV doc pm : Value) (an : Option Addr) (cdv ct : Value) (us : List Value), us.length = ps.length → bindArgs (PySem.W.fnOf x x (defArgs st) (defBody st) (defScope st) .none kV doc pm an cdv ct) ⟨us, []⟩ = pure (ps.zip us))
    (a : PySem.W.nsIn K mainGlobals x = some (some (.ref f))) (l : K.lookup f = some ⟨oc, od, .func (PySem.W.fnOf x x (defArgs st) (defBody st) (defScope st) .none kV dc pm an cd ct), sl⟩) (c : PySem.W.codeIn K cd x = true) (k : PySem.W.keepIn K (.ref f) = true) :
    Dfn K mg x st ps := ⟨f, _, fun_mk l c k, PySem.W.mg_of X G a, (fun_mk l c k).binds b⟩
theorem fnC {P : Program} {w : World} {K : PySem.W.Frag} {mg : Str → Option Value} {base : Heap} {x : Str} {st : Stmt} {N ps : List Str} {k : Nat} {C : Ctr} (D : Dfn K mg x st ps) (S : FnScope N ps (defScope st)) (len : ∀ ds b Q, C ds b Q → ds.length = ps.length)
    (hbody : ∀ (f : Addr) (cdv : Value) (A : Around) (outer : List Env) (s : Shared) (H : Hp) (E : XK), Room k (A.deeper (PyProof.Rows.envOfC x (defScope st) s.heap.objs.size f cdv)) → (A.deeper (PyProof.Rows.envOfC x (defScope st) s.heap.objs.size f cdv)).guards = some [] →
      ∃ ts t, PDSs (cxOf CX0 P w K mg base N x (defScope st) f cdv A outer s H E).nox (defBody st) ts t ∧ ∀ ds b Qd, C ds b Qd → t (endsC Qd) (startD N ds b)) : Fn P w K mg base (k + 1) x st ps C := by
  obtain ⟨f, fd, F, hm, hb⟩ := D.ex
  exact ⟨f, fd, F, FunCG F S len fun cdv A outer s H E hr hg => hbody f cdv A outer s H E hr hg, hm, hb⟩
end DL

namespace DL
open PySem L2
/-! ### readings by what is known -/
theorem isi_ty {s : DS} {x : D} {n t : String} {b : Bool} {Q : D → Prop} (h1 : tyD s x = some t) (h2 : kitB t n = some b) (q : Q (.bl b)) : fIsi s [x, .raw (.ty n)] Q := by
  show (match tyD s x with
    | some t => match kitB t n with
      | some b => Q (.bl b)
      | none => False
    | none => False)
  rw [h1]
  show (match kitB t n with
      | some b => Q (.bl b)
      | none => False)
  rw [h2]
  exact q
theorem isi_tup {s : DS} {x : D} {cs : List D} {ns : List String} {t : String} {b : Bool} {Q : D → Prop} (h0 : rawTys cs = some ns) (h1 : tyD s x = some t) (h2 : kitBs t ns = some b) (q : Q (.bl b)) : fIsi s [x, .tup cs] Q := by
  show (match tyD s x, rawTys cs with
    | some t, some ns => match kitBs t ns with
      | some b => Q (.bl b)
      | none => False
    | _, _ => False)
  rw [h1, h0]
  show (match kitBs t ns with
      | some b => Q (.bl b)
      | none => False)
  rw [h2]
  exact q
/-! ### the draws' own defs, at the level of the heap -/
/-- [[int(cell) for cell in script[:n]], 0, 0] -/
def spDen (K : PySem.W.Frag) : Sp := fun vs H Q _ => ∃ (a : Addr) (ns : List Int), vs = [.ref a] ∧ SqL K H a (ns.map V.int) ∧ ns.length ≤ 63 ∧
  ∀ (pa pl : Addr) (H' : Hp) (ms : List Int), Same H H' → H pa = none → H pl = none → pa ≠ pl → ms.length ≤ 63 → H' pl = some (.lst (ms.map V.int)) → H' pa = some (.lst [.ref pl, .int 0, .int 0]) → Q (.ref pa) H'
/-- what a draw promises: any number below many -/
def CTell : Ctr := fun ds b Q => ∃ n : Int, ds = [.paw, .int n] ∧ 0 < n ∧ n < 1073741824 ∧ 1 ≤ b ∧ ∀ r : Int, 0 ≤ r → r < n → Q (.int r) (b - 1)
theorem ctell_len : ∀ ds b Q, CTell ds b Q → ds.length = 2 := by
  rintro ds b Q ⟨n, rfl, _⟩
  rfl
/-- an entry of the well's own list -/
theorem pow5 {x : Int} (h0 : 0 ≤ x) (h : x < 2 ^ 62) : CPow x 5 := ⟨by decide, by decide, by omega⟩
theorem pow3 {x : Int} (h0 : 0 ≤ x) (h : x < 2 ^ 63) : CPow x 3 := ⟨by decide, by decide, by omega⟩
/-- the ends of a law that has drawn its well: the rest of its body over data -/
theorem lawRest {K : PySem.W.Frag} {ts : TS} {t : DTS} {H1 : Hp} {pa pl : Addr} {σ : L2.St} {n : Nat} {E : Ends} (h : SndS K ts t) (hl : σ.length = n + 2) (hs : σ[1]? = some (some (.ref pa))) {ms : List Int} (hm : ms.length ≤ 63) (h1 : H1 pl = some (.lst (ms.map V.int))) (h2 : H1 pa = some (.lst [.ref pl, .int 0, .int 0])) (ne : pa ≠ pl)
    (hE : ∀ H, E.rt (.bl true) H) (q : t { nx := fun _ => False, rt := fun d _ => d = .bl true } ⟨.un :: .fz .paw :: List.replicate n .un, 1000000⟩) : ts E σ H1 := by
  have R : Rel K ⟨fun a => a = pa, H1, pa, pl, fun a => a = pa⟩ ⟨fun a => a = pa, H1, pa⟩ σ ⟨.un :: .fz .paw :: List.replicate n .un, 1000000⟩ := by
    have ent : ∀ (i : Nat) (e : EV), (EV.un :: .fz .paw :: List.replicate n EV.un)[i]? = some e → e = .un ∨ (i = 1 ∧ e = .fz .paw) := by
      intro i e h
      match i, h with
      | 0, h => cases h; exact .inl rfl
      | 1, h => cases h; exact .inr ⟨rfl, rfl⟩
      | i + 2, h =>
        have h' : (List.replicate n EV.un)[i]? = some e := h
        rw [List.getElem?_replicate] at h'
        split at h'
        · cases h'; exact .inl rfl
        · cases h'
    refine ⟨by simp [hl], fun a h => ?_, rfl, fun i e h => ?_, fun i j l a _ => ?_, fun _ h => h, fun a o h _ => h, fun a h => ?_, fun a _ h => h, fun a h => h, fun a h => ?_, rfl, rfl, fun z => ne z.symm, ⟨0, 0, ms, h2, h1, hm, by decide, (by show (0 : Int) + (1000000 : Nat) ≤ 1000000; decide), by decide⟩⟩
    · have e : a = pa := h
      subst e
      show H1 a ≠ none
      rw [h2]
      exact fun z => by cases z
    · rcases ent i e h with z | ⟨z1, z2⟩
      · subst z; trivial
      · subst z1; subst z2
        exact ⟨.ref pa, hs, .paw⟩
    · obtain ⟨⟨e, a1, a2⟩, _⟩ := a
      rcases ent i e a1 with z | ⟨z1, z2⟩
      · subst z; cases a2
      · subst z2; cases a2
    · have e : a = pa := h
      exact ⟨_, e ▸ h2⟩
    · have e : a = pa := h
      subst e
      show H1 a ≠ none
      rw [h2]
      exact fun z => by cases z
  refine h _ _ σ _ E { nx := fun _ => False, rt := fun d _ => d = .bl true } R ⟨fun _ _ _ _ _ z => z.elim, fun v W' σ' d s' R' P r z => ?_, fun _ _ _ _ _ z => z.elim, fun _ _ _ _ _ z => z.elim⟩ q
  subst z
  cases r
  exact hE _
/-! ### lists of ints as data -/
theorem dp_nums {K : PySem.W.Frag} {H : Hp} : ∀ {ns : List Int}, DpAll K H (ns.map V.int) (ns.map PyData.int)
  | [] => .nil
  | n :: _ => .cons (.int n) dp_nums
theorem lay_nums : ∀ {ns : List Int}, PyData.canLayAll0 (ns.map PyData.int) = true
  | [] => rfl
  | n :: ns => by
    show (PyData.canLay0 (.int n) && PyData.canLayAll0 (ns.map PyData.int)) = true
    rw [lay_nums]
    rfl
theorem depth_nums : ∀ {ns : List Int}, PyData.depthAll (ns.map PyData.int) = 0
  | [] => rfl
  | n :: ns => by
    show max (PyData.depth (.int n)) (PyData.depthAll (ns.map PyData.int)) = 0
    rw [depth_nums]
    rfl
theorem shaped_nums {ns : List Int} : SeqAt.shaped (.list (ns.map PyData.int)) = true := by
  unfold SeqAt.shaped
  rw [Bool.and_eq_true]
  refine ⟨?_, decide_eq_true ?_⟩
  · rw [PyData.canLay0]
    exact lay_nums
  · rw [PyData.depth, depth_nums]
    decide
theorem eqv_nil {ns : List Int} : PyData.eqv (.list (ns.map PyData.int)) (.list []) = ns.isEmpty := by
  cases ns with
  | nil => simp [PyData.eqv, PyData.eqvAll]
  | cons n ns => simp [PyData.eqv, PyData.eqvAll]
theorem use_go {G : Int → Prop} {A : Prop} (h : ∀ c, G c) (k : (∀ c, G c) → A) : A := k h
theorem use_end {E A : Prop} (h : E) (k : E → A) : A := k h
theorem exact_last {E : Prop} (h : E) : E := h
end DL

namespace DL
open PySem L2
section
variable {X : Cx} {K : PySem.W.Frag} {es : List Expr} {pos : Pos}
/-! ### (a, b, ..) = a tuple or a list of that length -/
theorem pg_either {e : Expr} {g g' : TG} (h : PG X e g) (h' : PG X e g') : PG X e (fun v σ H Q => g v σ H Q ∨ g' v σ H Q) :=
  ⟨fun pins s σ H v u Q I r hw => hw.elim (h.run pins s σ H v u Q I r) (h'.run pins s σ H v u Q I r)⟩
def dgUnp (n : Nat) (t : DGs) : DG := fun d s Q => match d with
  | .tup ds => ds.length = n ∧ t ds s Q
  | .lst ds => ds.length = n ∧ t ds s Q
  | _ => False
theorem dg_unp {k n : Nat} {gs : TGs} {a : DGs} (hc : X.calm = true) (h : PDGs X es gs a) (hn : (assignEach es X.env).length = n := by rfl) (hst : (assignEach es X.env).findIdx? (·.1) = none := by rfl) :
    PDG X (.Tuple es k pos) (fun v σ H Q => gTup X.K n gs v σ H Q ∨ gUnl X.K n gs v σ H Q) (dgUnp n a) := by
  refine ⟨pg_either (pg_tup hc h.pgs hn hst) (pg_unl hc h.pgs hn hst), fun c W σ s v d Qv Qd R r hw k => ?_⟩
  cases r with
  | tup q r => exact .inl ⟨_, _, rfl, q.sq, by rw [r.length]; exact hw.1, h.snd c W σ s _ _ _ _ R r hw.2 k⟩
  | lst q _ r => exact .inr ⟨_, _, rfl, SqL.of q, by rw [r.length]; exact hw.1, h.snd c W σ s _ _ _ _ R r hw.2 k⟩
  | _ => exact hw.elim
end
/-! ### a call by any promise -/
structure FnS (P : Program) (w : World) (K : PySem.W.Frag) (mg : Str → Option Value) (base : Heap) (k : Nat) (x : Str) (st : Stmt) (ps : List Str) (sp : Sp) : Prop where
  ex : ∃ f fd, Fun K x x st f fd ∧ FnOkG P w K mg base k f fd ps sp ∧ mg x = some (.ref f) ∧ Binds K fd ps []
section
variable {X : Cx} {e : Expr} {es : List Expr} {taa : TA} {pos p : Pos} {k : Nat} {x : Str} {ps : List Str} {st : Stmt} {sp : Sp}
theorem pe_callS (G : FnS X.prog X.w X.K X.mg X.base k x st ps sp) (hr : Room k X.A) (hgd : X.A.guards = some []) (ha : PA X (e :: es) taa) (hg : Gl X x := by rfl) (hdb : (x == ("__debug__" : Str)) = false := by decide)
    (he : starEach (e :: es) X.env = (false, eval e X.env) :: starEach es X.env := by rfl) (hpl : (backTo pos (starEach es X.env)).any (·.1) = false := by rfl) : PE X (.Call (.Name x p) (e :: es) [] pos) (tCall sp [] E0 taa) := by
  obtain ⟨f, fd, Fu, F, hm, hb⟩ := G.ex
  refine ⟨fun pins s σ H Q I h => ?_⟩
  apply wpAny_Call_Name_kw (ld_glob I hg hm ?_ hdb)
  apply PySem.W.callWith_K (h₀ := X.base) I.ok.mod.kin Fu.kp (thn (ha.run pos pins s σ H _ I h) ?_) he hpl
  rintro us s1 ⟨vs, H1, I1, r, q⟩
  rw [List.append_nil] at q
  refine ⟨I1.kIn, runG (args := ⟨us, []⟩) F hr hgd ?_ I1 r q⟩
  have hl : (us ++ []).length = ps.length := by rw [List.append_nil, ← r.length]; exact F.len _ _ _ _ q
  have z := hb s1 us I1.kIn hl
  rw [List.append_nil] at z
  exact z
end
section
variable {P : Program} {w : World} {K : PySem.W.Frag} {mg : Str → Option Value} {base : Heap} {k : Nat} {x : Str} {st : Stmt} {ps : List Str}
/-- a def that keeps its promise at the level of the heap -/
theorem fnS {sp : Sp} (D : Dfn K mg x st ps) (h : ∀ (f : Addr) (fd : FuncData), Fun K x x st f fd → FnOk P w K mg base CX0 k f fd ps sp) : FnS P w K mg base k x st ps sp := by
  obtain ⟨f, fd, F, hm, hb⟩ := D.ex
  exact ⟨f, fd, F, FnOk.g (h f fd F), hm, hb⟩
theorem fnOf_ok {C : Ctr} (D : Dfn K mg x st ps) (h : ∀ (f : Addr) (fd : FuncData), Fun K x x st f fd → FnOk P w K mg base CX0 k f fd ps (spC K C)) : Fn P w K mg base k x st ps C := by
  obtain ⟨f, fd, F, hm, hb⟩ := D.ex
  exact ⟨f, fd, F, FnOk.g (h f fd F), hm, hb⟩
end
/-! ### readings -/
theorem forL_ind {dg : DG} {d : DTS} {F : DEnds} {chk : DS → Prop} {I : List D → DS → Prop} (h0 : ∀ s, I [] s → chk s ∧ F.nx s)
    (hs : ∀ x xs s, I (x :: xs) s → (∀ s', I xs s' → forL dg d F chk xs s') → chk s ∧ dg x s fun s1 => d { nx := forL dg d F chk xs, ct := forL dg d F chk xs, bk := F.nx, rt := F.rt } s1) : ∀ (xs : List D) (s : DS), I xs s → forL dg d F chk xs s
  | [], s, h => h0 s h
  | x :: xs, s, h => hs x xs s h fun s' h' => forL_ind h0 hs xs s' h'
/-- plain values that are no places and no own classes -/
def plainD : D → Bool
  | .non => true
  | .bl _ => true
  | .int _ => true
  | .str _ => true
  | .tup _ => true
  | .lst _ => true
  | .dT _ => true
  | .dK _ => true
  | _ => false

section
variable {X : Cx} {pos : Pos}
/-- a number of the module -/
theorem d_globI {x : Str} {i : Int} (hm : ∃ t, X.mg x = some (.int i t)) (hg : Gl X x := by rfl) (hd : (x == ("__debug__" : Str)) = false := by decide) : PD X (.Name x pos) (tC (.int i)) (dC (.int i)) := by
  obtain ⟨t, hm⟩ := hm
  exact d_glob hg hm (v := .int i) ⟨t, rfl⟩ (fun _ => .int i) hd
end
theorem eqv_int {i j : Int} : PyData.eqv (.int i) (.int j) = (i == j) := by simp [PyData.eqv]
theorem shaped_int {i : Int} : SeqAt.shaped (.int i) = true := by simp [SeqAt.shaped, PyData.canLay0, PyData.depth]
theorem shaped_str {x : Str} (h : PyData.strOk x = true) : SeqAt.shaped (.str x) = true := by simp [SeqAt.shaped, PyData.canLay0, PyData.depth, h]
theorem eqv_str {x y : Str} : PyData.eqv (.str x) (.str y) = (x == y) := by simp [PyData.eqv]
/-- != of ints, of texts -/
theorem ne_int {s : DS} {i j : Int} {Q : D → Prop} (q : Q (.bl (!(i == j)))) : fEq true s (.int i) (.int j) Q := by
  refine ⟨shaped_int, shaped_int, ?_⟩
  rw [if_pos rfl, eqv_int]
  exact q
theorem eq_int {s : DS} {i j : Int} {Q : D → Prop} (q : Q (.bl (i == j))) : fEq false s (.int i) (.int j) Q := by
  refine ⟨shaped_int, shaped_int, ?_⟩
  rw [eqv_int]
  exact q
theorem ne_str {s : DS} {i j : Str} {Q : D → Prop} (hi : PyData.strOk i = true) (hj : PyData.strOk j = true) (q : Q (.bl (!(i == j)))) : fEq true s (.str i) (.str j) Q := by
  refine ⟨shaped_str hi, shaped_str hj, ?_⟩
  rw [if_pos rfl, eqv_str]
  exact q
/-- the same text on both sides: not unlike -/
theorem ne_same {s : DS} {i : Str} {Q : D → Prop} (hi : PyData.strOk i = true) (q : Q (.bl false)) : fEq true s (.str i) (.str i) Q := by
  refine ne_str hi hi ?_
  have e : (i == i) = true := by simp
  rw [e]
  exact q
theorem strOk_bl {a : Bool} : PyData.strOk (PyData.shown (.bool a)) = true := by cases a <;> decide +kernel
theorem strOk_bl2 {a b : Bool} : PyData.strOk (PyData.shown (.list [.bool a, .bool b])) = true := by cases a <;> cases b <;> decide +kernel
/-- what is written of a list of truths -/
theorem repr_bl {s : DS} {b : Bool} {Q : D → Prop} (q : Q (.str (PyData.shown (.bool b)))) : fRepr s [.bl b] Q := by
  refine ⟨by simp [PyData.showable], by simp [PyData.depth], ?_, q⟩
  cases b <;> decide +kernel
theorem repr_bl2 {s : DS} {a b : Bool} {Q : D → Prop} (q : Q (.str (PyData.shown (.list [.bool a, .bool b])))) : fRepr s [.lst [.bl a, .bl b]] Q := by
  refine ⟨by simp [PyData.showable, PyData.showableAll], by simp [PyData.depth, PyData.depthAll], ?_, q⟩
  cases a <;> cases b <;> decide +kernel
/-! ### calls with plain arguments -/
theorem plain_slot {d : D} (h : plainD d = true) : d.isSlot = false := by cases d <;> first | rfl | cases h
theorem unslots_no {s : DS} : ∀ {ds : List D}, noSlots ds = true → unslots s ds = some ds
  | [], _ => rfl
  | d :: ds, h => by
    have h' : (!d.isSlot && noSlots ds) = true := h
    rw [Bool.and_eq_true] at h'
    have e : unslot s d = some d := by
      cases d <;> first | rfl | (exact absurd h'.1 (by simp [D.isSlot]))
    show (unslot s d).bind (fun e => (unslots s ds).map fun es => e :: es) = some (d :: ds)
    rw [e, unslots_no h'.2]
    rfl
theorem noSlots_cons {d : D} {ds : List D} (h : d.isSlot = false) (r : noSlots ds = true) : noSlots (d :: ds) = true := by
  show (!d.isSlot && noSlots ds) = true
  rw [h, r]
  rfl
theorem dcall_go {C : Ctr} {ra : DA} {s s1 : DS} {ds : List D} {Q : D → DS → Prop} (hra : ∀ R : List D → DS → Prop, R ds s1 → ra s R) (hn : noSlots ds = true) (h : C ds s1.bud fun d b => Q d { s1 with bud := b }) : dCall C ra s Q := by
  refine hra _ ?_
  show match unslots s1 ds with
    | some ds' => C ds' s1.bud fun d b => (noSlots ds || d.flat) = true ∧ Q d { s1 with bud := b }
    | none => False
  rw [unslots_no hn]
  have e : (fun (d : D) (b : Nat) => (noSlots ds || d.flat) = true ∧ Q d { s1 with bud := b }) = fun d b => Q d { s1 with bud := b } := by
    funext d b
    rw [hn, Bool.true_or]
    exact propext ⟨fun h => h.2, fun h => ⟨rfl, h⟩⟩
  show C ds s1.bud fun d b => (noSlots ds || d.flat) = true ∧ Q d { s1 with bud := b }
  rw [e]
  exact h
theorem rtD_of {Q : D → Nat → Prop} {d : D} {s : DS} (h : d.isSlot = false) (q : Q d s.bud) : rtD Q d s := by cases d <;> first | exact q | cases h
theorem noSlots_mem : ∀ {ds : List D} {d : D}, noSlots ds = true → d ∈ ds → d.isSlot = false
  | [], _, _, h => by simp at h
  | e :: ds, d, h, hm => by
    have h' : (!e.isSlot && noSlots ds) = true := h
    rw [Bool.and_eq_true] at h'
    rcases List.mem_cons.mp hm with q | q
    · rw [q]
      simpa using h'.1
    · exact noSlots_mem h'.2 q
end DL

namespace DL
open PySem L2
/-! ### reading a denotation bit by bit -/
section
variable {F : DEnds} {s : DS} {a b d e : DTS} {t u ta tb tc : DE} {q q' : DT} {r rk : DA} {l : DL_} {Q : D → DS → Prop} {QT : Bool → DS → Prop} {QA : List D → DS → Prop} {g : DG} {f f' : DR} {i j n : Nat} {x : D}
theorem r_seq (h : a { F with nx := b F } s) : dSeq a b F s := h
theorem r_next (h : F.nx s) : dNext F s := h
theorem r_ret (h : t s F.rt) : dRet t F s := h
theorem r_drop (h : t s fun _ s1 => F.nx s1) : dDrop t F s := h
theorem r_ifS (h : q s fun k s1 => if k = true then a F s1 else b F s1) : dIfS q a b F s := h
theorem r_asg (h : t s fun d s1 => d.isSlot = false ∧ g d s1 F.nx) : dAsg t g F s := h
theorem r_c {d : D} (h : Q d s) : dC d s Q := h
theorem r_var {d : D} (hs : s.sl[i]? = some (.fz d)) (h : Q d s) : dVar i s Q := by
  unfold dVar
  rw [hs]
  exact h
theorem r_nil (h : QA [] s) : dNil s QA := h
theorem r_cons (h : t s fun d s1 => r s1 fun ds s2 => QA (d :: ds) s2) : dCons t r s QA := h
theorem r_op (h : ta s fun d1 s1 => tb s1 fun d2 s2 => f s2 d1 d2 fun d => Q d s2) : dOp f ta tb s Q := h
theorem r_cb {f : DCl} (h : r s fun ds s1 => f s1 ds fun d => Q d s1) : dCB f r s Q := h
theorem r_ofL (h : l s fun xs s1 => Q (.lst xs) s1) : dOfL l s Q := h
theorem r_lst {QL : List D → DS → Prop} (h : r s fun ds s1 => ds.length ≤ sizeLine ∧ noSlots ds = true ∧ QL ds s1) : dlLst r s QL := h
theorem r_tup (h : r s fun ds s1 => ds.length ≤ sizeLine ∧ noSlots ds = true ∧ Q (.tup ds) s1) : dTup r s Q := h
theorem r_b (h : t s fun d s1 => match d with
    | .bl k => QT k s1
    | _ => False) : dB t s QT := h
theorem r_not (h : q s fun b s1 => QT (!b) s1) : dNot q s QT := h
theorem r_and (h : q s fun b s1 => if b = true then q' s1 QT else QT false s1) : dAnd q q' s QT := h
theorem r_or (h : q s fun b s1 => if b = true then QT true s1 else q' s1 QT) : dOr q q' s QT := h
theorem r_andV (h : t s fun d s1 => match d with
    | .bl b => if b = true then u s1 Q else Q (.bl false) s1
    | _ => False) : dAndV t u s Q := h
theorem r_orV (h : t s fun d s1 => match d with
    | .bl b => if b = true then Q (.bl true) s1 else u s1 Q
    | _ => False) : dOrV t u s Q := h
theorem r_notV (h : t s fun d s1 => match d with
    | .bl b => Q (.bl (!b)) s1
    | _ => False) : dNotV t s Q := h
theorem r_neg (h : t s fun d s1 => match d with
    | .int i => Q (.int (-i)) s1
    | _ => False) : dNeg t s Q := h
theorem r_par {i j : Nat} (h : r s fun ds s1 => match ds with
    | [a, b] => a.isSlot = false ∧ b.isSlot = false ∧ F.nx { s1 with sl := (s1.sl.set i (.fz a)).set j (.fz b) }
    | _ => False) : dPar i j r F s := h
theorem r_par3 {i j l : Nat} (h : r s fun ds s1 => match ds with
    | [a, b, c] => (a.isSlot = false ∧ b.isSlot = false ∧ c.isSlot = false) ∧ F.nx { s1 with sl := ((s1.sl.set i (.fz a)).set j (.fz b)).set l (.fz c) }
    | _ => False) : dPar3 i j l r F s := h
theorem r_gname {QS : DS → Prop} (h : QS { s with sl := s.sl.set i (.fz x) }) : dgName i x s QS := h
theorem r_callO {C : Ctr} {is : List Nat} (h : dCall C (fun s Q => r s fun ds s1 => rk s1 fun es s2 => Q (ord is (ds ++ es)) s2) s Q) : dCallO C is r rk s Q := h
/-- a call with plain arguments: what they are, then the promise -/
theorem r_call {C : Ctr} {ds : List D} {s1 : DS} (hra : ∀ R : List D → DS → Prop, R ds s1 → r s R) (hn : noSlots ds = true) (h : C ds s1.bud fun d b => Q d { s1 with bud := b }) : dCall C r s Q := dcall_go hra hn h
theorem r_if1 {A B : Prop} (h : A) : if true = true then A else B := h
theorem r_if0 {A B : Prop} (h : B) : if false = true then A else B := h
end
section
variable {P : Program} {w : World} {K : PySem.W.Frag} {mg : Str → Option Value} {base : Heap} {X : Cx} {e : Expr} {es : List Expr} {taa : TA} {ra : DA} {pos p : Pos} {C : Ctr} {k : Nat} {x : Str} {ps : List Str} {st : Stmt}
/-- a call in a comprehension: the room is that around it -/
theorem d_callX (G : Fn P w K mg base k x st ps C) (hr : Room k X.A) (hgd : X.A.guards = some []) (ha : PDA X (e :: es) taa ra) (hX : X.prog = P ∧ X.w = w ∧ X.K = K ∧ X.mg = mg ∧ X.base = base := by exact ⟨rfl, rfl, rfl, rfl, rfl⟩) (hg : Gl X x := by rfl) (hdb : (x == ("__debug__" : Str)) = false := by decide)
    (he : starEach (e :: es) X.env = (false, eval e X.env) :: starEach es X.env := by rfl) (hpl : (backTo pos (starEach es X.env)).any (·.1) = false := by rfl) : PD X (.Call (.Name x p) (e :: es) [] pos) (tCall (spC K C) [] E0 taa) (dCall C ra) := by
  obtain ⟨h1, h2, h3, h4, h5⟩ := hX
  subst h1 h2 h3 h4 h5
  exact d_call G hr hgd ha hg hdb he hpl
end
section
variable {P : Program} {w : World} {K : PySem.W.Frag} {mg : Str → Option Value} {base : Heap}
/-- a def by its body, the guards known, any promise -/
theorem FunS {x qual : Str} {st : Stmt} {f : Addr} {fd : FuncData} {N ps : List Str} {k : Nat} {sp : Sp} (F : Fun K x qual st f fd) (S : FnScope N ps (defScope st)) (len : ∀ vs H Q E, sp vs H Q E → vs.length = ps.length)
    (hb : ∀ (cdv : Value) (A : Around) (outer : List Env) (s : Shared) (H : Hp) (vs : List V) (Q : VK) (E : XK), Room k (A.deeper (PyProof.Rows.envOfC qual (defScope st) s.heap.objs.size f cdv)) → A.guards = some [] → sp vs H Q E →
      ∃ t, PSs (cxOf CX0 P w K mg base N qual (defScope st) f cdv A outer s H E) (defBody st) t ∧ t { nx := fun _ H' => Q .non H', rt := Q } (L2.start N vs) H) : FnOkG P w K mg base (k + 1) f fd ps sp := by
  obtain ⟨oc, od, kV, doc, pm, an, cdv, ct, osl, rfl, lk, hcd⟩ := F.ex
  exact fnG lk hcd S len fun A outer s H vs Q E hr hg h => hb cdv A outer s H vs Q E hr hg h
/-- what a law promises: true, from any script -/
def spLaw (K : PySem.W.Frag) : Sp := fun vs H Q _ => ∃ (a : Addr) (ns : List Int), vs = [.ref a] ∧ SqL K H a (ns.map V.int) ∧ ns.length ≤ 63 ∧ ∀ H', Q (.bl true) H'
theorem spLaw_len {K : PySem.W.Frag} : ∀ vs H Q E, spLaw K vs H Q E → vs.length = 1 := by
  rintro vs H Q E ⟨a, ns, rfl, _⟩
  rfl
theorem spDen_len {K : PySem.W.Frag} : ∀ vs H Q E, spDen K vs H Q E → vs.length = 1 := by
  rintro vs H Q E ⟨a, ns, rfl, _⟩
  rfl
/-- the first statement of a law draws its well; then the rest over data -/
theorem lawStart {N : List Str} {n : Nat} {H : Hp} {a : Addr} {ns : List Int} {E : Ends} {ts : TS} {t : DTS} (hN : N.length = n + 2) (hS : SqL K H a (ns.map V.int)) (hl : ns.length ≤ 63) (hE : ∀ H, E.rt (.bl true) H) (h : SndS K ts t)
    (q : t { nx := fun _ => False, rt := fun d _ => d = .bl true } ⟨.un :: .fz .paw :: List.replicate n .un, 1000000⟩) :
    tSeq (tAsg (tCall (spDen K) [] E0 (tCons (tVar 0) tNil)) (gName 1)) ts E (L2.start N [.ref a]) H := by
  obtain ⟨x, N1, rfl⟩ : ∃ x N1, N = x :: N1 := by
    cases N with
    | nil => cases hN
    | cons x N1 => exact ⟨x, N1, rfl⟩
  obtain ⟨y, N2, rfl⟩ : ∃ y N2, N1 = y :: N2 := by
    cases N1 with
    | nil => cases hN
    | cons x N1 => exact ⟨x, N1, rfl⟩
  refine ⟨_, rfl, a, ns, rfl, hS, hl, fun pa pl H' ms s0 h1 h2 ne hm e1 e2 => ?_⟩
  show ts E ((L2.start (x :: y :: N2) [.ref a]).set 1 (some (.ref pa))) H'
  have hN2 : N2.length = n := by
    simp only [List.length_cons] at hN
    omega
  refine lawRest (n := n) h ?_ ?_ hm e1 e2 ne hE q
  · rw [List.length_set]
    unfold L2.start
    simp only [List.length_append, List.length_map, List.length_replicate, List.length_cons, List.length_nil]
    omega
  · rw [List.getElem?_set_self]
    unfold L2.start
    simp only [List.length_append, List.length_map, List.length_replicate, List.length_cons, List.length_nil]
    omega
end
end DL


namespace K02
open PySem L2 DL
def top (i : Nat) : Stmt := PySem.Challenge.pw_fourstones_k02_what_any_value_is.main.body.getD i (.Pass ⟨0, 0, 0, 0⟩)
abbrev s_is_integer : Stmt := top 2
abbrev s_is_within : Stmt := top 3
abbrev s_is_cell : Stmt := top 4
abbrev s_is_side : Stmt := top 5
abbrev s__law_paw : Stmt := top 7
abbrev s__law_tell : Stmt := top 8
abbrev s__law_pick : Stmt := top 9
abbrev s__law_value : Stmt := top 10
abbrev s__law_is_integer : Stmt := top 11
abbrev s_law : Stmt := top 12
structure Txt (K : PySem.W.Frag) (mg : Str → Option Value) : Prop where
  b_int : mg "int" = none
  b_abs : mg "abs" = none
  b_len : mg "len" = none
section
variable {P : Program} {w : World} {K : PySem.W.Frag} {mg : Str → Option Value} {base : Heap}
/-! ### the well of draws -/
theorem sc_paw : FnScope ["script", "cell"] ["script"] (defScope s__law_paw) := ⟨rfl, rfl, rfl, by decide +kernel, rfl, by decide +kernel, by decide +kernel⟩
theorem ok_paw {f : Addr} {fd : FuncData} (F : Fun K "_law_paw" "_law_paw" s__law_paw f fd) (T : Txt K mg) : FnOk P w K mg base CX0 1 f fd ["script"] (spDen K) := by
  refine F.ok sc_paw (fun vs H Q E h => ?_) (fun cdv A outer s H vs Q E hr h => ?_)
  · obtain ⟨a, ns, rfl, _⟩ := h
    rfl
  · obtain ⟨a, ns, rfl, hS, hlen, k⟩ := h
    have nd := sc_paw.nd
    refine ⟨_, pss_one (ps_ret (pe_lst (pa_cons (pe_lc (own := [("cell", 1)]) (g := gName 1) (tt := tYes) rfl nd (pi_list (pe_slice sl_list (pv 0) po_none (po_some pe_int))) (blkOk_by (N := ["script", "cell"]) (sc := defScope s__law_paw) (by decide +kernel))
      (fun _ _ _ _ _ => pg_name (i := 1) nd rfl (Or.inl rfl)) (fun _ _ _ _ _ => pts_nil) (fun _ _ _ _ _ => pe_callTy call_int1 (by rfl) T.b_int (by decide +kernel) (pa_cons (pv 1) pa_nil))) (pa_cons pe_int (pa_cons pe_int pa_nil))))), ?_⟩
    refine ⟨_, rfl, _, rfl, a, ns.map V.int, rfl, hS, fun c nc => ?_⟩
    have e0 : ∀ xs : List V, cutV xs none (some 52) = (xs.drop 0).take (HT.sIx xs.length xs.length (some 52) - 0) := fun xs => rfl
    generalize hcut : cutV (ns.map V.int) none (some 52) = ys
    obtain ⟨ms, hms, hml⟩ : ∃ ms : List Int, ys = ms.map V.int ∧ ms.length ≤ 63 := by
      refine ⟨ns.take (HT.sIx ns.length ns.length (some 52)), ?_, ?_⟩
      · rw [← hcut, e0, List.drop_zero, List.length_map, Nat.sub_zero, List.map_take]
      · rw [List.length_take]; omega
    subst hms
    refine ⟨_, rfl, ⟨_, SqL.of upd_same⟩, fun D hD => ?_⟩
    have hDc : D ≠ c := fun e => by
      subst e
      rw [upd_same] at hD
      cases hD
    have hD0 : H D = none := by
      rw [upd_ne hDc] at hD
      exact hD
    refine lc_list (K := K) (a := c) (xs := ms.map V.int) (fun i H' => H' = upd (upd H c (.lst (ms.map V.int))) D (.lst ((ms.take i).map V.int))) rfl (fun i H' _ e => ?_) (fun i x H' hx e => ?_) (fun H' e => ?_)
    · subst e
      exact SqL.of ((upd_ne (Ne.symm hDc)).trans upd_same)
    · subst e
      rw [List.getElem?_map] at hx
      cases hm : ms[i]? with
      | none => rw [hm] at hx; cases hx
      | some z =>
        rw [hm] at hx
        cases hx
        refine ⟨rfl, _, rfl, .inl ⟨z, rfl, _, upd_same, ?_, ?_⟩⟩
        · rw [List.length_map, List.length_take]
          exact small1000 (by omega)
        · rw [upd_upd, List.take_add_one, hm, List.map_append]
          rfl
    · subst e
      rw [List.length_map, List.take_length]
      refine ⟨by show 3 ≤ sizeLine; decide, fun p hp => ?_⟩
      have hpD : p ≠ D := fun e => by
        subst e
        rw [upd_same] at hp
        cases hp
      have hpc : p ≠ c := fun e => by
        subst e
        rw [upd_ne hpD, upd_same] at hp
        cases hp
      have hp0 : H p = none := by
        rw [upd_ne hpD, upd_ne hpc] at hp
        exact hp
      refine k p D _ ms (fun b o e => ?_) hp0 hD0 hpD hml ((upd_ne (Ne.symm hpD)).trans upd_same) upd_same
      rw [upd_ne (ne_of_none e hp0), upd_ne (ne_of_none e hD0), upd_ne (ne_of_none e nc)]
      exact e
theorem pe_i1 {X : Cx} {e : Expr} {te : TE} {p pos : Pos} (hm : X.mg "int" = none) (he : PE X e te) (hg : Gl X "int" := by rfl) (hs : starEach [e] X.env = (false, eval e X.env) :: starEach [] X.env := by rfl) (hpl : (backTo pos (starEach [] X.env)).any (·.1) = false := by rfl) :
    PE X (.Call (.Name "int" p) [e] [] pos) (tCB (fun xs H Q => (∃ i, xs = [.int i] ∧ Q (.int i) H) ∨ ∃ k, xs = [.bl k] ∧ Q (.int (if k then 1 else 0)) H) (tCons te tNil)) := pe_callTy call_int1 hg hm (by decide +kernel) (pa_cons he pa_nil hs) (by decide) (by decide) hs hpl
theorem sc_tell : FnScope ["paw", "many", "rest", "turn", "cell", "mixed"] ["paw", "many"] (defScope s__law_tell) := ⟨rfl, rfl, rfl, by decide +kernel, rfl, by decide +kernel, by decide +kernel⟩
theorem ok_tell {f : Addr} {fd : FuncData} (F : Fun K "_law_tell" "_law_tell" s__law_tell f fd) (T : Txt K mg) : FnOk P w K mg base CX0 1 f fd ["paw", "many"] (spC K CTell) := by
  refine F.ok sc_tell (okC_len ctell_len) (fun cdv A outer s H vs Q E hr h => ?_)
  obtain ⟨M, pa, pl, ds, b, Qd, r, mp, npl, m0, pw, hc, k⟩ := h
  obtain ⟨n, rfl, n0, n1, hb, q⟩ := hc
  have nd := sc_tell.nd
  have hu := hu_of hr
  have hu64 : (A.deeper (PyProof.Rows.envOfC "_law_tell" (defScope s__law_tell) s.heap.objs.size f cdv)).units + 64 < cLine := by have := hr.un; omega
  cases r with
  | cons r1 r2 =>
  cases r2 with
  | cons r2 r3 =>
  cases r3
  cases r1
  cases r2
  obtain ⟨t, rst, ns, h1, h2, hl, t0, t1, r0⟩ := pw
  have npp : pl ≠ pa := fun e => npl (e ▸ mp)
  -- the well behind a draw
  have fin : ∀ (t' r' v : Int), 0 ≤ t' → t' ≤ t + 1 → 0 ≤ r' → 0 ≤ v → v < n → Q (.int v) (upd H pa (.lst [.ref pl, .int t', .int r'])) := fun t' r' v a1 a2 a3 a4 a5 => by
    refine k (.int v) _ (.int v) (b - 1) (fun a o e ne => (upd_ne ne).trans e) ⟨t', r', ns, upd_same, (upd_ne npp).trans h2, hl, a1, by omega, a3⟩ (.int v) (q v a4 a5)
  obtain ⟨tu, hTail7, htail7⟩ : ∃ tt, PSs (cxOf CX0 P w K mg base ["paw", "many", "rest", "turn", "cell", "mixed"] "_law_tell" (defScope s__law_tell) f cdv A outer s H E).nox ((defBody s__law_tell).drop 7) tt ∧
      ∀ (D : Ends) (o2 o4 : Option V) (m1 : Int) (H2 : Hp), 0 ≤ m1 → m1 < 2147483648 → (∀ v : Int, 0 ≤ v → v < n → D.rt (.int v) H2) → tt D [some (.ref pa), some (.int n), o2, some (.int t), o4, some (.int m1)] H2 := by
    refine ⟨_, (pss_cons (ps_set (i := 5) nd rfl (.inl rfl) (pe_op op_mod (pe_i1 T.b_int (pe_op op_pow (pe_op op_add (pe_op op_add (pe_op op_mul (pv 5) (pe_op op_add (pe_op op_mul pe_int (pv 3)) pe_int)) (pe_op op_mul (pe_op op_mul pe_int (pv 3)) (pv 3))) pe_int) pe_int)) pe_int))
    (pss_one (ps_ret (pe_op op_mod (pe_i1 T.b_int (pe_op op_fdiv (pv 5) pe_int)) (pv 1))))), fun D o2 o4 m1 H2 m0' m1' hD => ?_⟩
    have b1 : m1 * (2 * t + 42875) ≤ 2147483648 * 4194304 := Int.mul_le_mul (by omega) (by omega) (by omega) (by decide)
    have b2 : 0 ≤ m1 * (2 * t + 42875) := Int.mul_nonneg m0' (by omega)
    have b3 : 607809 * t * t ≤ 607809 * 1000000 * 1000000 := Int.mul_le_mul (by omega) (by omega) t0 (by decide)
    have b4 : 0 ≤ 607809 * t * t := Int.mul_nonneg (by omega) t0
    refine ⟨_, rfl, _, rfl, _, t, rfl, rfl, .inl (by decide), _, _, rfl, rfl, m1, _, rfl, rfl, .inl ⟨by omega, by omega⟩, _, rfl, _, t, rfl, rfl, .inl (by decide), _, rfl, _, t, rfl, rfl, .inl ⟨by omega, by omega⟩, _, _, rfl, rfl, _, _, rfl, rfl, _, 3, rfl, rfl, pow3 (by omega) (by omega), .inl ⟨_, rfl, _, _, rfl, rfl, (by show (0 : Int) < _; decide), ?_⟩⟩
    refine ⟨_, rfl, _, _, rfl, rfl, ⟨by decide, by decide⟩, .inl ⟨_, rfl, _, rfl, _, n, rfl, rfl, n0, ?_⟩⟩
    exact hD _ (Int.emod_nonneg _ (by omega)) (Int.emod_lt_of_pos _ n0)
  obtain ⟨tt, hTail, htail⟩ : ∃ tt, PSs (cxOf CX0 P w K mg base ["paw", "many", "rest", "turn", "cell", "mixed"] "_law_tell" (defScope s__law_tell) f cdv A outer s H E).nox ((defBody s__law_tell).drop 6) tt ∧
      ∀ (D : Ends) (o2 o5 : Option V) (cell : Int) (H2 : Hp), (∀ v : Int, 0 ≤ v → v < n → D.rt (.int v) H2) → tt D [some (.ref pa), some (.int n), o2, some (.int t), some (.int cell), o5] H2 := by
    refine ⟨_, (pss_cons (ps_set (i := 5) nd rfl (.inl rfl) (pe_op op_mod (pe_i1 T.b_int (pe_op op_pow (pe_op op_add (pe_op op_add (pe_op op_mod (pe_i1 T.b_int (pv 4)) pe_int) (pe_op op_mul pe_int (pv 3))) pe_int) pe_int)) pe_int)) hTail7), fun D o2 o5 cell H2 hD => ?_⟩
    refine ⟨_, rfl, .inl ⟨cell, rfl, _, _, rfl, rfl, (by show (0 : Int) < _; decide), _, rfl, _, t, rfl, rfl, .inl (by decide), _, _, rfl, rfl, _, _, rfl, rfl, _, 5, rfl, rfl, pow5 (by omega) (by omega), .inl ⟨_, rfl, _, _, rfl, rfl, (by show (0 : Int) < _; decide), ?_⟩⟩⟩
    refine htail7 D o2 (some (.int cell)) _ H2 ?_ ?_ hD
    · exact Int.emod_nonneg _ (by decide)
    · exact Int.lt_trans (Int.emod_lt_of_pos _ (by decide)) (by decide)
  refine ⟨_, pss_cons (ps_if (pt_cmpR op_gt (pe_ix ix_list (pv 0) pe_int (fun _ _ => rfl)) pe_int (nomark _))
      (pss_cons (ps_set (i := 2) nd rfl (.inl rfl) (pe_i1 T.b_int (pe_ix ix_list (pv 0) pe_int (fun _ _ => rfl)))) (pss_cons (ps_asg (pe_op op_fdiv (pv 2) (pv 1)) (pg_sub (pv 0) pe_int set_list)) (pss_one (ps_ret (pe_op op_mod (pe_i1 T.b_int (pv 2)) (pv 1)))))) pss_nil)
    (pss_cons (ps_set (i := 3) nd rfl (.inl rfl) (pe_ix ix_list (pv 0) pe_int (fun _ _ => rfl)))
    (pss_cons (ps_asg (pe_op op_add (pv 3) pe_int) (pg_sub (pv 0) pe_int set_list))
    (pss_cons (ps_set (i := 4) nd rfl (.inl rfl) (pe_op op_add (pe_op op_mul pe_int (pv 3)) pe_int))
    (pss_cons (ps_if (pt_cmpR (op_neD hu64) (pe_ix ix_list (pv 0) pe_int (fun _ _ => rfl)) (pe_lst pa_nil) (nomark _))
      (pss_one (ps_set (i := 4) nd rfl (.inl rfl) (pe_ix ix_list (pe_ix ix_list (pv 0) pe_int (fun _ _ => rfl)) (pe_op op_mod (pe_i1 T.b_int (pv 3)) (pe_callB call_len_seq (by rfl) T.b_len PySem.boot_len (pa_cons (pe_ix ix_list (pv 0) pe_int (fun _ _ => rfl)) pa_nil))) (fun _ _ => rfl)))) pss_nil)
    (pss_cons (ps_if (PW.pt (pw_and (pt_cmpR op_lt (pv 3) (pe_callB call_len_seq (by rfl) T.b_len PySem.boot_len (pa_cons (pe_ix ix_list (pv 0) pe_int (fun _ _ => rfl)) pa_nil)) (nomark _))
        (pw_and1 (pt_cmpR op_ge (pe_callB call_abs (by rfl) T.b_abs (by decide +kernel) (pa_cons (pv 4) pa_nil)) (pe_op op_pow pe_int pe_int) (nomark _)))))
      (pss_cons (ps_set (i := 2) nd rfl (.inl rfl) (pe_op op_add (pe_op op_mul pe_int (pe_op op_sub (pe_callB call_abs (by rfl) T.b_abs (by decide +kernel) (pa_cons (pv 4) pa_nil)) (pe_op op_pow pe_int pe_int))) (pe_i1 T.b_int (pe_cmpR op_lt (pv 4) pe_int (nomark _)))))
        (pss_cons (ps_asg (pe_op op_fdiv (pv 2) (pv 1)) (pg_sub (pv 0) pe_int set_list)) (pss_one (ps_ret (pe_op op_mod (pe_i1 T.b_int (pv 2)) (pv 1)))))) pss_nil)
hTail))))), ?_⟩
  have hL : SqL K H pa [.ref pl, .int t, .int rst] := SqL.of h1
  refine ⟨_, rfl, pa, _, 2, _, rfl, rfl, hL, rfl, rst, 0, rfl, rfl, _, rfl, ?_⟩
  refine ite2 (fun hp => ?_) (fun hp => ?_)
  · have hp : 0 < rst := of_decide_eq_true hp
    refine ⟨_, rfl, pa, _, 2, _, rfl, rfl, hL, rfl, .inl ⟨rst, rfl, ?_⟩⟩
    refine ⟨_, rfl, _, rfl, rst, n, rfl, rfl, ⟨n0, n1⟩, _, rfl, pa, _, 2, 2, rfl, rfl, h1, rfl, ?_⟩
    refine ⟨_, rfl, .inl ⟨rst, rfl, _, rfl, rst, n, rfl, rfl, n0, ?_⟩⟩
    exact fin t (rst / n) (rst % n) t0 (by omega) (Int.ediv_nonneg r0 (Int.le_of_lt n0)) (Int.emod_nonneg _ (by omega)) (Int.emod_lt_of_pos _ n0)
  · -- turn = paw[1]; paw[1] = turn + 1
    refine ⟨_, rfl, pa, _, 1, _, rfl, rfl, hL, rfl, ?_⟩
    refine ⟨_, rfl, t, 1, rfl, rfl, _, rfl, pa, _, 1, 1, rfl, rfl, h1, rfl, ?_⟩
    generalize hH1 : upd H pa (.lst ([V.ref pl, .int t, .int rst].set 1 (.int (t + 1)))) = H1
    have e1 : H1 pa = some (.lst [.ref pl, .int (t + 1), .int rst]) := by rw [← hH1]; exact upd_same
    have e2 : H1 pl = some (.lst (ns.map V.int)) := by rw [← hH1]; exact (upd_ne npp).trans h2
    have e3 : ∀ o, upd H1 pa o = upd H pa o := fun o => by rw [← hH1, upd_upd]
    have hL1 : SqL K H1 pa [.ref pl, .int (t + 1), .int rst] := SqL.of e1
    have hL2 : SqL K H1 pl (ns.map V.int) := SqL.of e2
    -- cell = c * turn + c
    refine ⟨_, rfl, _, t, rfl, rfl, .inl (by decide), _, _, rfl, rfl, ?_⟩
    refine ⟨_, rfl, pa, _, 0, _, rfl, rfl, hL1, rfl, Nat.zero_le _, fun p hp => ?_⟩
    have p1 : p ≠ pa := fun e => by rw [e, e1] at hp; cases hp
    have p2 : p ≠ pl := fun e => by rw [e, e2] at hp; cases hp
    have p3 : H p = none := by
      rw [← hH1, upd_ne p1] at hp
      exact hp
    generalize hH2 : upd H1 p (.lst []) = H2
    have f1 : H2 pa = some (.lst [.ref pl, .int (t + 1), .int rst]) := by rw [← hH2]; exact (upd_ne (Ne.symm p1)).trans e1
    have f2 : H2 pl = some (.lst (ns.map V.int)) := by rw [← hH2]; exact (upd_ne (Ne.symm p2)).trans e2
    have f3 : H2 p = some (.lst []) := by rw [← hH2]; exact upd_same
    have fL1 : SqL K H2 pa [.ref pl, .int (t + 1), .int rst] := SqL.of f1
    have fL2 : SqL K H2 pl (ns.map V.int) := SqL.of f2
    -- the well behind a draw, with the new list beside it
    have fin2 : ∀ (r' v : Int), 0 ≤ r' → 0 ≤ v → v < n → Q (.int v) (upd H2 pa (.lst [.ref pl, .int (t + 1), .int r'])) := fun r' v a3 a4 a5 => by
      refine k (.int v) _ (.int v) (b - 1) (fun a o e ne => ?_) ⟨t + 1, r', ns, upd_same, (upd_ne npp).trans f2, hl, by omega, by omega, a3⟩ (.int v) (q v a4 a5)
      rw [upd_ne ne, ← hH2, upd_ne (ne_of_none e p3), ← hH1, upd_ne ne]
      exact e
    have upd_self : H2 = upd H2 pa (.lst [.ref pl, .int (t + 1), .int rst]) := by
      funext z
      by_cases hz : z = pa
      · subst hz; rw [upd_same, f1]
      · rw [upd_ne hz]
    refine ⟨_, _, .lst fL2 dp_nums, .lst (SqL.of f3) .nil, shaped_nums, by decide, _, rfl, ?_⟩
    rw [eqv_nil]
    have len63 : ((ns.map V.int).length : Int) ≤ 63 := by rw [List.length_map]; omega
    refine use_go (G := ?G) ?rest (fun go => ?cell)
    case cell =>
     refine ite2 (fun hc => ?_) (fun hc => ?_)
     · have hpos : 0 < ns.length := by
         cases ns with
         | nil => simp at hc
         | cons _ _ => simp
       have hmod0 : 0 ≤ t % ((ns.map V.int).length : Int) := Int.emod_nonneg _ (by rw [List.length_map]; omega)
       have hmod1 : t % ((ns.map V.int).length : Int) < ((ns.map V.int).length : Int) := Int.emod_lt_of_pos _ (by rw [List.length_map]; omega)
       obtain ⟨j, hj⟩ : ∃ j : Nat, t % ((ns.map V.int).length : Int) = (j : Int) := ⟨(t % ((ns.map V.int).length : Int)).toNat, by omega⟩
       have hjn : j < ns.length := by
         rw [hj, List.length_map] at hmod1
         omega
       refine ⟨_, rfl, pa, _, 0, _, rfl, rfl, fL1, rfl, _, rfl, .inl ⟨t, rfl, _, rfl, pa, _, 0, _, rfl, rfl, fL1, rfl, pl, _, rfl, .inl fL2, t, _, rfl, rfl, (by rw [List.length_map]; omega), pl, _, _, .int ns[j], rfl, rfl, fL2, at_of hj (by rw [List.getElem?_map, List.getElem?_eq_getElem hjn]; rfl), ?_⟩⟩
       generalize ns[j] = cell
       exact go cell
     · exact go _
    case rest =>
      intro cell
      refine ⟨_, rfl, _, rfl, pa, _, 0, _, rfl, rfl, fL1, rfl, pl, _, rfl, .inl fL2, t, _, rfl, rfl, _, rfl, ?_⟩
      refine ite2 (fun ha => ?_) (fun ha => htail _ _ _ cell H2 ?_)
      · refine ⟨_, rfl, cell, rfl, 10, 18, rfl, rfl, ⟨by decide, by decide, by decide⟩, _, _, rfl, rfl, _, rfl, ?_⟩
        refine ite2 (fun hb => ?_) (fun hb => htail _ _ _ cell H2 ?_)
        · have hb2 : (10 : Int) ^ 18 ≤ (if cell < 0 then -cell else cell) := of_decide_eq_true hb
          refine ⟨_, rfl, cell, rfl, 10, 18, rfl, rfl, ⟨by decide, by decide, by decide⟩, _, _, rfl, rfl, 2, _, rfl, rfl, .inl (by decide), _, rfl, cell, 0, rfl, rfl, .inr ⟨_, rfl, _, _, rfl, rfl, ?_⟩⟩
          have Rn : (0 : Int) ≤ 2 * ((if cell < 0 then -cell else cell) - 10 ^ (18 : Int).toNat) + (if decide (cell < 0) = true then 1 else 0) := by
            have e18 : (10 : Int) ^ (18 : Int).toNat = 10 ^ 18 := rfl
            rw [e18]
            split <;> omega
          refine ⟨_, rfl, _, rfl, _, n, rfl, rfl, ⟨n0, n1⟩, _, rfl, pa, _, 2, 2, rfl, rfl, f1, rfl, ?_⟩
          refine ⟨_, rfl, .inl ⟨_, rfl, _, rfl, _, n, rfl, rfl, n0, ?_⟩⟩
          exact fin2 _ _ (Int.ediv_nonneg Rn (Int.le_of_lt n0)) (Int.emod_nonneg _ (by omega)) (Int.emod_lt_of_pos _ n0)
        · intro v a4 a5
          rw [upd_self]
          exact fin2 rst v r0 a4 a5
      · intro v a4 a5
        rw [upd_self]
        exact fin2 rst v r0 a4 a5
end
end K02

namespace K02
open PySem L2 DL
structure Txt2 (K : PySem.W.Frag) (mg : Str → Option Value) : Prop where
  t : Txt K mg
  b_isinstance : mg "isinstance" = none
  b_bool : mg "bool" = none
  b_list : mg "list" = none
  b_tuple : mg "tuple" = none
  b_range : mg "range" = none
  b_repr : mg "repr" = none
  b_int : mg "int" = none
  b_abs : mg "abs" = none
  b_len : mg "len" = none
  c_FARTHEST : ∃ t, mg "FARTHEST" = some (.int 1000000 t)
def isI : D → Bool
  | .int _ => true
  | _ => false
def bndD : D → Bool
  | .non => true
  | .int _ => true
  | _ => false
def geD : D → D → Bool
  | .int v, .int k => decide (k ≤ v)
  | .int _, .non => true
  | _, _ => false
def leD : D → D → Bool
  | .int v, .int k => decide (v ≤ k)
  | .int _, .non => true
  | _, _ => false
def farD (x : D) : Bool := geD x (.int (-1000000)) && leD x (.int 1000000)
def cellL : List D → Bool
  | [x, y] => farD x && farD y
  | _ => false
def cellD : D → Bool
  | .lst xs => cellL xs
  | .tup xs => cellL xs
  | _ => false
def partsD : D → Bool
  | .lst xs => xs.all plainD
  | .tup xs => xs.all plainD
  | _ => true
def CInt : Ctr := fun ds b Q => ∃ d, ds = [d] ∧ plainD d = true ∧ Q (.bl (isI d)) b
def CWithin : Ctr := fun ds b Q => ∃ v l m, ds = [v, l, m] ∧ plainD v = true ∧ bndD l = true ∧ bndD m = true ∧ Q (.bl (geD v l && leD v m)) b
def CSide : Ctr := fun ds b Q => ∃ v, ds = [v] ∧ plainD v = true ∧ Q (.bl (geD v (.int 0) && leD v (.int 3))) b
def CCell : Ctr := fun ds b Q => ∃ v, ds = [v] ∧ plainD v = true ∧ partsD v = true ∧ Q (.bl (cellD v)) b
def CPick : Ctr := fun ds b Q => ∃ xs, ds = [.paw, .lst xs] ∧ 0 < xs.length ∧ xs.length < 1000 ∧ noSlots xs = true ∧ 1 ≤ b ∧ ∀ d, d ∈ xs → Q d (b - 1)
theorem len1 {ds : List D} {d : D} (h : ds = [d]) : ds.length = 1 := by subst h; rfl
section
variable {P : Program} {w : World} {K : PySem.W.Frag} {mg : Str → Option Value} {base : Heap}
abbrev N_1 : List Str := ["value"]
theorem sc_is_integer : FnScope N_1 ["value"] (defScope s_is_integer) := ⟨rfl, rfl, rfl, by decide +kernel, rfl, by decide +kernel, by decide +kernel⟩
theorem ok_is_integer (Df : Dfn K mg "is_integer" s_is_integer ["value"]) (T : Txt2 K mg) : Fn P w K mg base 1 "is_integer" s_is_integer ["value"] CInt := by
  refine fnC Df sc_is_integer (fun ds b Q h => by obtain ⟨d, h, _⟩ := h; exact len1 h) fun f cdv A outer s H E hr hgd => ?_
  have nd := sc_is_integer.nd
  refine ⟨_, _, (dss_one (ds_ret (d_and (d_callB b_isi (by rfl) T.b_isinstance (by decide +kernel) (da_cons (dv 0) (da_cons (d_bltn (v := .ty "int") (by rfl) T.b_int (by decide +kernel) rfl) da_nil))) (d_one (d_not (d_callB b_isi (by rfl) T.b_isinstance (by decide +kernel) (da_cons (dv 0) (da_cons (d_bltn (v := .ty "bool") (by rfl) T.b_bool (by decide +kernel) rfl) da_nil)))))))), ?_⟩
  rintro _ b Qd ⟨d, rfl, hp, q⟩
  cases d <;> first | exact q | cases hp
abbrev N_3 : List Str := ["value", "least", "most"]
theorem sc_is_within : FnScope N_3 N_3 (defScope s_is_within) := ⟨rfl, rfl, rfl, by decide +kernel, rfl, by decide +kernel, by decide +kernel⟩
theorem ok_is_within (Df : Dfn K mg "is_within" s_is_within N_3) (G_is_integer : Fn P w K mg base 1 "is_integer" s_is_integer ["value"] CInt) (T : Txt2 K mg) : Fn P w K mg base 2 "is_within" s_is_within N_3 CWithin := by
  refine fnC Df sc_is_within (fun ds b Q h => by obtain ⟨v, l, m, h, _⟩ := h; subst h; rfl) fun f cdv A outer s H E hr hgd => ?_
  have nd := sc_is_within.nd
  refine ⟨_, _, (dss_cons (ds_if (dt_not (dt_val (d_call G_is_integer (hr.mono (by decide)) hgd (da_cons (dv 0) da_nil)))) (dss_one (ds_ret d_bl)) dss_nil)
      (dss_cons (ds_if (PDW.pt (dw_and (dt_cmp o_isnt (dv 1) d_non) (dw_and1 (dt_cmp o_lt (dv 0) (dv 1))))) (dss_one (ds_ret d_bl)) dss_nil)
      (dss_one (ds_ret (d_or (d_cmp o_is (dv 2) d_non) (d_one (d_cmp o_le (dv 0) (dv 2)))))))), ?_⟩
  rintro _ b Qd ⟨v, l, m, rfl, h1, h2, h3, q⟩
  cases v with
  | int v =>
    refine ⟨.int v, rfl, rfl, rfl, ?_⟩
    have last : ∀ k : Bool, k = true → Qd (.bl (k && leD (.int v) m)) b → dRet (dOrV (dOp (fIs false) (dVar 2) (dC .non)) (dOp (fI0 fun i j => .bl (decide (i ≤ j))) (dVar 0) (dVar 2))) (endsC Qd) (startD N_3 [.int v, l, m] b) := by
      rintro k rfl q
      cases m with
      | non => exact q
      | int m => exact q
      | _ => cases h3
    cases l with
    | non => exact last true rfl q
    | int l =>
      show if decide (v < l) = true then Qd (.bl false) b else _
      refine ite2 (fun h => ?_) (fun h => ?_)
      · have e : geD (.int v) (.int l) = false := by
          have := of_decide_eq_true h
          exact decide_eq_false (by omega)
        rw [e] at q
        exact q
      · refine last _ ?_ q
        have : ¬ v < l := fun z => h (decide_eq_true z)
        exact decide_eq_true (by omega)
    | _ => cases h2
  | _ => first | exact ⟨_, rfl, rfl, rfl, q⟩ | cases h1
abbrev N_c : List Str := ["value", "x", "y"]
theorem sc_is_cell : FnScope N_c ["value"] (defScope s_is_cell) := ⟨rfl, rfl, rfl, by decide +kernel, rfl, by decide +kernel, by decide +kernel⟩
theorem ok_is_cell (Df : Dfn K mg "is_cell" s_is_cell ["value"]) (G_is_within : Fn P w K mg base 2 "is_within" s_is_within N_3 CWithin) (T : Txt2 K mg) : Fn P w K mg base 3 "is_cell" s_is_cell ["value"] CCell := by
  refine fnC Df sc_is_cell (fun ds b Q h => by obtain ⟨v, h, _⟩ := h; subst h; rfl) fun f cdv A outer s H E hr hgd => ?_
  have nd := sc_is_cell.nd
  have hu := hu_of hr
  have hu : (A.deeper (PyProof.Rows.envOfC "is_cell" (defScope s_is_cell) s.heap.objs.size f cdv)).units + 64 < cLine := by have := hr.un; omega
  refine ⟨_, _, (dss_cons (ds_if (PDW.pt (dw_or (dt_not (dt_val (d_callB b_isi (by rfl) T.b_isinstance (by decide +kernel) (da_cons (dv 0) (da_cons (d_tup (da_cons (d_bltn (v := .ty "list") (by rfl) T.b_list (by decide +kernel) rfl) (da_cons (d_bltn (v := .ty "tuple") (by rfl) T.b_tuple (by decide +kernel) rfl) da_nil))) da_nil))))) (dw_or1 (dt_cmp (o_ne hu) (d_callB b_len (by rfl) T.b_len (by decide +kernel) (da_cons (dv 0) da_nil)) d_int)))) (dss_one (ds_ret d_bl)) dss_nil)
      (dss_cons (ds_asg (dv 0) (dg_unp rfl (dgs_cons (dg_name (i := 1) nd rfl (by first | exact .inl rfl | exact .inr rfl)) (dgs_cons (dg_name (i := 2) nd rfl (by first | exact .inl rfl | exact .inr rfl)) dgs_nil))))
      (dss_one (ds_ret (d_and (d_call G_is_within (hr.mono (by decide)) hgd (da_cons (dv 1) (da_cons (d_neg (d_globI T.c_FARTHEST)) (da_cons (d_globI T.c_FARTHEST) da_nil)))) (d_one (d_call G_is_within (hr.mono (by decide)) hgd (da_cons (dv 2) (da_cons (d_neg (d_globI T.c_FARTHEST)) (da_cons (d_globI T.c_FARTHEST) da_nil)))))))))), ?_⟩
  rintro _ b Qd ⟨v, rfl, h1, h2, q⟩
  have two : ∀ x y : D, plainD x = true → plainD y = true → Qd (.bl (farD x && farD y)) b → ∀ e0 : EV,
      dRet (dAndV (dCall CWithin (dCons (dVar 1) (dCons (dNeg (dC (.int 1000000))) (dCons (dC (.int 1000000)) dNil)))) (dCall CWithin (dCons (dVar 2) (dCons (dNeg (dC (.int 1000000))) (dCons (dC (.int 1000000)) dNil))))) (endsC Qd) ⟨[e0, .fz x, .fz y], b⟩ := by
    intro x y hx hy q e0
    dsimp only [dRet, dAndV]
    refine dcall_go (ds := [x, .int (-1000000), .int 1000000]) (fun _ h => h) (noSlots_cons (plain_slot hx) rfl) ⟨x, _, _, rfl, hx, rfl, rfl, ?_⟩
    show if farD x = true then _ else Qd (.bl false) b
    refine ite2 (fun h => ?_) (fun h => ?_)
    · rw [h] at q
      exact dcall_go (ds := [y, .int (-1000000), .int 1000000]) (fun _ h => h) (noSlots_cons (plain_slot hy) rfl) ⟨y, _, _, rfl, hy, rfl, rfl, q⟩
    · rw [Bool.eq_false_iff.mpr h] at q
      exact q
  cases v with
  | lst xs =>
    match xs, h2, q with
    | [], _, q => exact ⟨by decide, rfl, shaped_int, shaped_int, q⟩
    | [x], _, q => exact ⟨by decide, rfl, shaped_int, shaped_int, q⟩
    | [x, y], h2, q =>
      have h2' : (plainD x && (plainD y && true)) = true := h2
      rw [Bool.and_eq_true, Bool.and_eq_true] at h2'
      exact ⟨by decide, rfl, shaped_int, shaped_int, rfl, rfl, two x y h2'.1 h2'.2.1 q _⟩
    | x :: y :: z :: r, _, q =>
      refine ⟨by decide, rfl, shaped_int, shaped_int, ?_⟩
      have e : PyData.eqv (.int ((x :: y :: z :: r).length : Nat)) (.int 2) = false := by
        rw [eqv_int, beq_eq_false_iff_ne]
        simp only [List.length_cons]
        omega
      show if (!PyData.eqv (.int ((x :: y :: z :: r).length : Nat)) (.int 2)) = true then _ else _
      rw [e]
      exact q
  | tup xs =>
    match xs, h2, q with
    | [], _, q => exact ⟨by decide, rfl, shaped_int, shaped_int, q⟩
    | [x], _, q => exact ⟨by decide, rfl, shaped_int, shaped_int, q⟩
    | [x, y], h2, q =>
      have h2' : (plainD x && (plainD y && true)) = true := h2
      rw [Bool.and_eq_true, Bool.and_eq_true] at h2'
      exact ⟨by decide, rfl, shaped_int, shaped_int, rfl, rfl, two x y h2'.1 h2'.2.1 q _⟩
    | x :: y :: z :: r, _, q =>
      refine ⟨by decide, rfl, shaped_int, shaped_int, ?_⟩
      have e : PyData.eqv (.int ((x :: y :: z :: r).length : Nat)) (.int 2) = false := by
        rw [eqv_int, beq_eq_false_iff_ne]
        simp only [List.length_cons]
        omega
      show if (!PyData.eqv (.int ((x :: y :: z :: r).length : Nat)) (.int 2)) = true then _ else _
      rw [e]
      exact q
  | _ => first | exact ⟨by decide, rfl, q⟩ | cases h1
theorem sc_is_side : FnScope N_1 ["value"] (defScope s_is_side) := ⟨rfl, rfl, rfl, by decide +kernel, rfl, by decide +kernel, by decide +kernel⟩
theorem ok_is_side (Df : Dfn K mg "is_side" s_is_side ["value"]) (G_is_within : Fn P w K mg base 2 "is_within" s_is_within N_3 CWithin) (T : Txt2 K mg) : Fn P w K mg base 3 "is_side" s_is_side ["value"] CSide := by
  refine fnC Df sc_is_side (fun ds b Q h => by obtain ⟨v, h, _⟩ := h; subst h; rfl) fun f cdv A outer s H E hr hgd => ?_
  have nd := sc_is_side.nd
  refine ⟨_, _, (dss_one (ds_ret (d_call G_is_within (hr.mono (by decide)) hgd (da_cons (dv 0) (da_cons d_int (da_cons d_int da_nil)))))), ?_⟩
  rintro _ b Qd ⟨v, rfl, h1, q⟩
  dsimp only [dRet]
  exact dcall_go (ds := [v, .int 0, .int 3]) (fun _ h => h) (noSlots_cons (plain_slot h1) rfl) ⟨v, _, _, rfl, h1, rfl, rfl, q⟩
abbrev N_p : List Str := ["paw", "some"]
theorem sc_pick : FnScope N_p N_p (defScope s__law_pick) := ⟨rfl, rfl, rfl, by decide +kernel, rfl, by decide +kernel, by decide +kernel⟩
theorem ok_pick (Df : Dfn K mg "_law_pick" s__law_pick N_p) (G__law_tell : Fn P w K mg base 1 "_law_tell" s__law_tell ["paw", "many"] CTell) (T : Txt2 K mg) : Fn P w K mg base 2 "_law_pick" s__law_pick N_p CPick := by
  refine fnC Df sc_pick (fun ds b Q h => by obtain ⟨xs, h, _⟩ := h; subst h; rfl) fun f cdv A outer s H E hr hgd => ?_
  have nd := sc_pick.nd
  refine ⟨_, _, (dss_one (ds_ret (d_ix (dv 1) (d_call G__law_tell (hr.mono (by decide)) hgd (da_cons (dv 0) (da_cons (d_callB b_len (by rfl) T.b_len (by decide +kernel) (da_cons (dv 1) da_nil)) da_nil)))))), ?_⟩
  rintro _ b Qd ⟨xs, rfl, h0, h1, hn, hb, q⟩
  refine ⟨xs.length, rfl, by omega, by omega, hb, fun r r0 r1 => ?_⟩
  obtain ⟨j, rfl⟩ : ∃ j : Nat, r = (j : Int) := ⟨r.toNat, by omega⟩
  have hj : j < xs.length := by omega
  have e : atI xs (j : Int) = some xs[j] := atI_nat (List.getElem?_eq_getElem hj)
  have hm := List.getElem_mem hj
  have hs := noSlots_mem hn hm
  refine ⟨rfl, ?_⟩
  show match atI xs (j : Int) with
    | some d => d.isSlot = false ∧ rtD Qd d _
    | none => False
  rw [e]
  exact ⟨hs, rtD_of hs (q _ hm)⟩
/-- what a drawn value is -/
def valD : D → Bool
  | .tup [.int _, .int _] => true
  | .tup [.int _] => true
  | .lst [.int _] => true
  | .lst [] => true
  | .dK [] => true
  | .non => true
  | .bl _ => true
  | .int _ => true
  | .str _ => true
  | _ => false
theorem val_slot {d : D} (h : valD d = true) : d.isSlot = false := by cases d <;> first | rfl | (exact absurd h (by simp [valD]))
def CValue : Ctr := fun ds b Q => ds = [.paw] ∧ 2 ≤ b ∧ ∀ d, valD d = true → Q d (b - 2)
abbrev N_v : List Str := ["paw", "some"]
theorem sc_value : FnScope N_v ["paw"] (defScope s__law_value) := ⟨rfl, rfl, rfl, by decide +kernel, rfl, by decide +kernel, by decide +kernel⟩
theorem ok_value (Df : Dfn K mg "_law_value" s__law_value ["paw"]) (G__law_tell : Fn P w K mg base 1 "_law_tell" s__law_tell ["paw", "many"] CTell) (G__law_pick : Fn P w K mg base 2 "_law_pick" s__law_pick N_p CPick) (T : Txt2 K mg) : Fn P w K mg base 3 "_law_value" s__law_value ["paw"] CValue := by
  refine fnC Df sc_value (fun ds b Q h => by obtain ⟨h, _⟩ := h; subst h; rfl) fun f cdv A outer s H E hr hgd => ?_
  have nd := sc_value.nd
  refine ⟨_, _, (dss_cons (ds_set (i := 1) nd rfl (Or.inl rfl) (d_ofL (dl_lst (da_cons d_int (da_cons d_int (da_cons d_int (da_cons d_int (da_cons d_int (da_cons (d_neg d_int) (da_cons (d_op o_pow d_int d_int) (da_cons (d_op o_add (d_op o_pow d_int d_int) d_int) (da_cons (d_neg (d_op o_pow d_int d_int)) (da_cons (d_op o_sub (d_neg (d_op o_pow d_int d_int)) d_int) (da_cons (d_op o_pow d_int d_int) (da_cons d_bl (da_cons d_bl (da_cons d_non (da_cons d_str (da_cons d_str (da_cons (d_tup (da_cons d_int da_nil)) (da_cons (d_ofL (dl_lst da_nil)) (da_cons d_dict0 (da_cons (d_tup (da_cons d_int da_nil)) da_nil)))))))))))))))))))))))
      (dss_one (ds_ret (d_call G__law_pick (hr.mono (by decide)) hgd (da_cons (dv 0) (da_cons (d_op o_add (dv 1) (d_ofL (dl_lst (da_cons (d_op o_sub (d_call G__law_tell (hr.mono (by decide)) hgd (da_cons (dv 0) (da_cons d_int da_nil))) d_int) (da_cons (d_ofL (dl_lst (da_cons d_int da_nil))) (da_cons (d_tup (da_cons d_int (da_cons d_int da_nil))) da_nil)))))) da_nil)))))), ?_⟩
  rintro _ b Qd ⟨rfl, hb, q⟩
  have cp : ∀ j : Int, 0 ≤ j → j ≤ 64 → CPow 10 j := fun j h1 h2 => ⟨h1, by omega, by decide⟩
  refine ⟨cp _ (by decide) (by decide), cp _ (by decide) (by decide), cp _ (by decide) (by decide), cp _ (by decide) (by decide), cp _ (by decide) (by decide), by decide, rfl, by decide, rfl, by decide, rfl, by decide, rfl, rfl, ?_⟩
  refine ⟨9, rfl, by decide, by decide, (by show 1 ≤ b; omega), fun r r0 r1 => ⟨rfl, by decide, rfl, by decide, rfl, (by show 3 ≤ sizeLine; decide), rfl, (by show 20 + 3 ≤ sizeLine; decide), _, rfl, (by show 0 < 23; decide), (by show 23 < 1000; decide), rfl, (by show 1 ≤ b - 1; omega), fun d hd => ⟨rfl, ?_⟩⟩⟩
  have e : b - 1 - 1 = b - 2 := by omega
  have go : ∀ d, valD d = true → Qd d (b - 1 - 1) := fun d h => by rw [e]; exact q d h
  have hv : valD d = true := List.all_eq_true.mp rfl d hd
  exact rtD_of (val_slot hv) (go d hv)
theorem sc_law_int : FnScope N_1 ["value"] (defScope s__law_is_integer) := ⟨rfl, rfl, rfl, by decide +kernel, rfl, by decide +kernel, by decide +kernel⟩
theorem ok_law_int (Df : Dfn K mg "_law_is_integer" s__law_is_integer ["value"]) (T : Txt2 K mg) : Fn P w K mg base 1 "_law_is_integer" s__law_is_integer ["value"] CInt := by
  refine fnC Df sc_law_int (fun ds b Q h => by obtain ⟨d, h, _⟩ := h; exact len1 h) fun f cdv A outer s H E hr hgd => ?_
  have nd := sc_law_int.nd
  refine ⟨_, _, (dss_one (ds_ret (d_and (d_callB b_isi (by rfl) T.b_isinstance (by decide +kernel) (da_cons (dv 0) (da_cons (d_bltn (v := .ty "int") (by rfl) T.b_int (by decide +kernel) rfl) da_nil))) (d_and (d_cmp o_isnt (dv 0) d_bl) (d_one (d_cmp o_isnt (dv 0) d_bl)))))), ?_⟩
  rintro _ b Qd ⟨d, rfl, hp, q⟩
  cases d with
  | bl k => cases k <;> exact q
  | _ => first | exact q | cases hp
end
end K02

namespace K02
open PySem L2 DL
theorem val_plain {d : D} (h : valD d = true) : plainD d = true := by cases d <;> first | rfl | (exact absurd h (by simp [valD]))
theorem bnd_slot {d : D} (h : bndD d = true) : d.isSlot = false := by cases d <;> first | rfl | cases h
abbrev dPow6 : DE := dOp (fI CPow fun i j => .int (i ^ j.toNat)) (dC (.int 10)) (dC (.int 6))
theorem cp10 {j : Int} (h1 : 0 ≤ j) (h2 : j ≤ 64) : CPow 10 j := ⟨h1, by omega, by decide⟩
theorem r_due {s : DS} {v l m : D} {Q : D → DS → Prop} (h3 : s.sl[3]? = some (.fz v)) (h4 : s.sl[4]? = some (.fz l)) (h5 : s.sl[5]? = some (.fz m)) (h6 : s.sl[6]? = some (.fz (.bl (isI v)))) (hv : valD v = true) (hl : bndD l = true) (hm : bndD m = true)
    (h : Q (.bl (geD v l && leD v m)) s) :
    dAndV (dVar 6) (dAndV (dOrV (dOp (fIs false) (dVar 4) (dC .non)) (dOp (fI0 fun i j => .bl (decide (j ≤ i))) (dVar 3) (dVar 4))) (dOrV (dOp (fIs false) (dVar 5) (dC .non)) (dOp (fI0 fun i j => .bl (decide (i ≤ j))) (dVar 3) (dVar 5)))) s Q := by
  refine r_andV (r_var h6 ?_)
  cases v with
  | int v =>
    have last : ∀ k : Bool, Q (.bl (k && leD (.int v) m)) s → if k = true then dOrV (dOp (fIs false) (dVar 5) (dC .non)) (dOp (fI0 fun i j => .bl (decide (i ≤ j))) (dVar 3) (dVar 5)) s Q else Q (.bl false) s := by
      rintro (_ | _) q
      · exact q
      · refine r_orV (r_op (r_var h5 (r_c ?_)))
        cases m with
        | non => exact q
        | int m => exact r_op (r_var h3 (r_var h5 q))
        | _ => cases hm
    refine r_andV (r_orV (r_op (r_var h4 (r_c ?_))))
    cases l with
    | non => exact last true h
    | int l => exact r_op (r_var h3 (r_var h4 (last _ h)))
    | _ => cases hl
  | _ => exact h
theorem r_side {s : DS} {v : D} {Q : D → DS → Prop} (h3 : s.sl[3]? = some (.fz v)) (h6 : s.sl[6]? = some (.fz (.bl (isI v)))) (hv : valD v = true) (h : Q (.bl (geD v (.int 0) && leD v (.int 3))) s) :
    dAndV (dVar 6) (dOp (fIn false) (dVar 3) (dTup (dCons (dC (.int 0)) (dCons (dC (.int 1)) (dCons (dC (.int 2)) (dCons (dC (.int 3)) dNil)))))) s Q := by
  refine r_andV (r_var h6 ?_)
  cases v with
  | int v =>
    refine r_op (r_var h3 ⟨by decide, rfl, shaped_int, by decide +kernel, ?_⟩)
    have e : ([PyData.int 0, .int 1, .int 2, .int 3].any fun z => PyData.eqv z (.int v)) = (geD (.int v) (.int 0) && leD (.int v) (.int 3)) := by
      simp only [List.any_cons, List.any_nil, eqv_int, geD, leD]
      rw [Bool.eq_iff_iff]
      simp only [Bool.or_eq_true, beq_iff_eq, Bool.and_eq_true, decide_eq_true_eq, Bool.false_eq_true, or_false]
      omega
    show Q (.bl ([PyData.int 0, .int 1, .int 2, .int 3].any fun z => PyData.eqv z (.int v))) s
    rw [e]
    exact h
  | _ => exact h
theorem far_abs {i : Int} : decide ((if i < 0 then -i else i) ≤ 1000000) = farD (.int i) := by
  show _ = (decide (-1000000 ≤ i) && decide (i ≤ 1000000))
  rw [Bool.eq_iff_iff]
  simp only [Bool.and_eq_true, decide_eq_true_eq]
  split <;> omega
theorem r_near {s : DS} {x : D} {Q : Bool → DS → Prop} (h12 : s.sl[12]? = some (.fz x)) (hx : valD x = true) (h : Q (farD x) s) :
    dAnd (dB (dCall CInt (dCons (dVar 12) dNil))) (dB (dOp (fI0 fun i j => .bl (decide (i ≤ j))) (dCB fAbs (dCons (dVar 12) dNil)) dPow6)) s Q := by
  refine r_and (r_b (r_call (ds := [x]) (fun R hR => r_cons (r_var h12 (r_nil hR))) (noSlots_cons (val_slot hx) rfl) ⟨x, rfl, val_plain hx, ?_⟩))
  cases x with
  | int i =>
    refine r_b (r_op (r_cb (r_cons (r_var h12 (r_nil ⟨cp10 (by decide) (by decide), ?_⟩)))))
    show Q (decide ((if i < 0 then -i else i) ≤ 1000000)) s
    rw [far_abs]
    exact h
  | _ => exact h
abbrev S13 (e0 e1 e2 : EV) (v l m i6 d7 o t p d : EV) (z : EV) (b : Nat) : DS := ⟨[e0, e1, e2, v, l, m, i6, d7, o, t, p, d, z], b⟩
theorem r_places {e0 e1 e2 l m i6 d7 t p d z : EV} {b : Nat} {v o : D} {Q : D → DS → Prop} (hv : valD v = true) (ho : valD o = true)
    (h : ∀ pl : List D, noSlots pl = true → (((pl.length : Nat) : Int) == 2) = (farD v && farD o) → pl.length ≤ 2 → Q (.lst pl) (S13 e0 e1 e2 (.fz v) l m i6 d7 (.fz o) t p d .un b)) :
    dOfL (dLc (diSeq (dTup (dCons (dVar 3) (dCons (dVar 8) dNil)))) (dgName 12) (dAnd (dB (dCall CInt (dCons (dVar 12) dNil))) (dB (dOp (fI0 fun i j => .bl (decide (i ≤ j))) (dCB fAbs (dCons (dVar 12) dNil)) dPow6))) (dVar 12) [12]) (S13 e0 e1 e2 (.fz v) l m i6 d7 (.fz o) t p d z b) Q := by
  refine ⟨by show 2 ≤ sizeLine; decide, noSlots_cons (val_slot hv) (noSlots_cons (val_slot ho) rfl), trivial, trivial, r_near (x := v) rfl hv ?_⟩
  cases hf : farD v with
  | true =>
    refine r_if1 (r_var rfl ⟨val_slot hv, by show 0 < sizeLine; decide, trivial, r_near (x := o) rfl ho ?_⟩)
    cases hg : farD o with
    | true =>
      refine r_if1 (r_var rfl ⟨val_slot ho, by show 1 < sizeLine; decide, trivial, h [v, o] (noSlots_cons (val_slot hv) (noSlots_cons (val_slot ho) rfl)) ?_ (by show 2 ≤ 2; decide)⟩)
      rw [hf, hg]; rfl
    | false =>
      refine r_if0 ⟨trivial, h [v] (noSlots_cons (val_slot hv) rfl) ?_ (by show 1 ≤ 2; decide)⟩
      rw [hf, hg]; rfl
  | false =>
    refine r_if0 ⟨trivial, r_near (x := o) rfl ho ?_⟩
    cases hg : farD o with
    | true =>
      refine r_if1 (r_var rfl ⟨val_slot ho, by show 0 < sizeLine; decide, trivial, h [o] (noSlots_cons (val_slot ho) rfl) ?_ (by show 1 ≤ 2; decide)⟩)
      rw [hf, hg]; rfl
    | false =>
      refine r_if0 ⟨trivial, h [] rfl ?_ (by show 0 ≤ 2; decide)⟩
      rw [hf, hg]; rfl
/-! ### the last look: what is odd -/
def oddD : D → Bool
  | .lst [.int _, .int _] => true
  | .tup [.int _, .int _] => true
  | .lst [] => true
  | .tup [] => true
  | .lst [x] => plainD x
  | .tup [x] => plainD x
  | .lst [x, y, z] => plainD x && plainD y && plainD z
  | .non => true
  | .bl _ => true
  | .int _ => true
  | .str _ => true
  | .dK _ => true
  | _ => false
theorem toPys_ints : ∀ {ns : List Int}, toPys (ns.map D.int) = some (ns.map PyData.int)
  | [] => by simp [toPys]
  | n :: ns => by
    rw [List.map_cons, toPys, toPys_ints]
    simp [toPy]
theorem eq_nil {s : DS} {ns : List Int} {Q : D → Prop} (q : Q (.bl ns.isEmpty)) : fEq false s (.lst (ns.map .int)) (.lst []) Q := by
  have e1 : toPyT s (.lst (ns.map D.int)) = some (.list (ns.map PyData.int)) := by
    show toPy (.lst (ns.map D.int)) = _
    rw [toPy, toPys_ints]
    rfl
  have e2 : toPyT s (.lst []) = some (.list []) := by
    show toPy (.lst []) = _
    rw [toPy, toPys]
    rfl
  show match toPyT s (.lst (ns.map D.int)), toPyT s (.lst []) with
    | some p, some q => SeqAt.shaped p = true ∧ SeqAt.shaped q = true ∧ Q (.bl (if false = true then !PyData.eqv p q else PyData.eqv p q))
    | _, _ => False
  rw [e1, e2]
  refine ⟨shaped_nums, shaped_nums (ns := []), ?_⟩
  rw [if_neg (by decide), eqv_nil]
  exact q
theorem abs_far {i : Int} : decide (1000000 < (if i < 0 then -i else i)) = !farD (.int i) := by
  show _ = !(decide (-1000000 ≤ i) && decide (i ≤ 1000000))
  rw [Bool.eq_iff_iff]
  simp only [Bool.not_eq_true', Bool.and_eq_false_iff, decide_eq_true_eq, decide_eq_false_iff_not]
  split <;> omega
theorem r_odd1 {s : DS} {i : Int} {Q : Bool → DS → Prop} (h12 : s.sl[12]? = some (.fz (.int i))) (h : Q (!farD (.int i)) s) :
    dOr (dNot (dB (dCall CInt (dCons (dVar 12) dNil)))) (dB (dOp (fI0 fun i j => .bl (decide (j < i))) (dCB fAbs (dCons (dVar 12) dNil)) dPow6)) s Q := by
  refine r_or (r_not (r_b (r_call (ds := [.int i]) (fun R hR => r_cons (r_var h12 (r_nil hR))) rfl ⟨.int i, rfl, rfl, ?_⟩)))
  refine r_b (r_op (r_cb (r_cons (r_var h12 (r_nil ⟨cp10 (by decide) (by decide), ?_⟩)))))
  show Q (decide (1000000 < (if i < 0 then -i else i))) s
  rw [abs_far]
  exact h
theorem r_last {e0 e1 e2 v l m i6 d7 o t p z : EV} {b : Nat} {d : D} {Q : D → DS → Prop} (hd : oddD d = true) (h : ∀ z', Q (.bl (cellD d)) (S13 e0 e1 e2 v l m i6 d7 o t p (.fz d) z' b)) :
    dAndV (dCB fIsi (dCons (dVar 11) (dCons (dTup (dCons (dC (.raw (.ty "list"))) (dCons (dC (.raw (.ty "tuple"))) dNil))) dNil))) (dAndV (dOp (fEq false) (dCB fLen (dCons (dVar 11) dNil)) (dC (.int 2)))
      (dOp (fEq false) (dOfL (dLc (diSeq (dVar 11)) (dgName 12) (dOr (dNot (dB (dCall CInt (dCons (dVar 12) dNil)))) (dB (dOp (fI0 fun i j => .bl (decide (j < i))) (dCB fAbs (dCons (dVar 12) dNil)) dPow6))) (dVar 12) [12])) (dOfL (dlLst dNil)))) (S13 e0 e1 e2 v l m i6 d7 o t p (.fz d) z b) Q := by
  have two : ∀ (i j : Int) (d : D), (d = .lst [.int i, .int j] ∨ d = .tup [.int i, .int j]) → (∀ z', Q (.bl (farD (.int i) && farD (.int j))) (S13 e0 e1 e2 v l m i6 d7 o t p (.fz d) z' b)) →
      dOp (fEq false) (dOfL (dLc (diSeq (dVar 11)) (dgName 12) (dOr (dNot (dB (dCall CInt (dCons (dVar 12) dNil)))) (dB (dOp (fI0 fun i j => .bl (decide (j < i))) (dCB fAbs (dCons (dVar 12) dNil)) dPow6))) (dVar 12) [12])) (dOfL (dlLst dNil)) (S13 e0 e1 e2 v l m i6 d7 o t p (.fz d) z b) Q := by
    intro i j d hd h
    have go : lcL (dgName 12) (dOr (dNot (dB (dCall CInt (dCons (dVar 12) dNil)))) (dB (dOp (fI0 fun i j => .bl (decide (j < i))) (dCB fAbs (dCons (dVar 12) dNil)) dPow6))) (dVar 12) [12] (fun _ => True) [.int i, .int j] [] (S13 e0 e1 e2 v l m i6 d7 o t p (.fz d) .un b) (fun acc s2 => ([] : List D).length ≤ sizeLine ∧ noSlots [] = true ∧ fEq false (s2.wipe [12]) (.lst acc) (.lst []) fun d => Q d (s2.wipe [12])) := by
      refine ⟨trivial, r_odd1 (i := i) rfl ?_⟩
      cases hf : farD (.int i) with
      | true =>
        refine r_if0 ⟨trivial, r_odd1 (i := j) rfl ?_⟩
        cases hg : farD (.int j) with
        | true =>
          refine r_if0 ⟨trivial, Nat.zero_le _, rfl, eq_nil (ns := []) ?_⟩
          have := h .un
          rw [hf, hg] at this
          exact this
        | false =>
          refine r_if1 (r_var rfl ⟨rfl, by show 0 < sizeLine; decide, trivial, Nat.zero_le _, rfl, eq_nil (ns := [j]) ?_⟩)
          have := h .un
          rw [hf, hg] at this
          exact this
      | false =>
        refine r_if1 (r_var rfl ⟨rfl, by show 0 < sizeLine; decide, trivial, r_odd1 (i := j) rfl ?_⟩)
        cases hg : farD (.int j) with
        | true =>
          refine r_if0 ⟨trivial, Nat.zero_le _, rfl, eq_nil (ns := [i]) ?_⟩
          have := h .un
          rw [hf, hg] at this
          exact this
        | false =>
          refine r_if1 (r_var rfl ⟨rfl, by show 1 < sizeLine; decide, trivial, Nat.zero_le _, rfl, eq_nil (ns := [i, j]) ?_⟩)
          have := h .un
          rw [hf, hg] at this
          exact this
    rcases hd with rfl | rfl
    · exact ⟨trivial, go⟩
    · exact ⟨trivial, go⟩
  refine r_andV (r_cb (r_cons (r_var rfl (r_cons (r_tup ⟨by decide, rfl, ?_⟩)))))
  have len : ∀ xs : List D, asSeq (S13 e0 e1 e2 v l m i6 d7 o t p (.fz d) z b) d = some xs → True := fun _ _ => trivial
  cases d with
  | lst xs =>
    match xs, hd, h with
    | [], _, h => exact ⟨shaped_int, shaped_int, h _⟩
    | [x], _, h => exact ⟨shaped_int, shaped_int, h _⟩
    | [x, y, z], _, h => exact ⟨shaped_int, shaped_int, h _⟩
    | [x, y], hd, h =>
      cases x with
      | int i =>
        cases y with
        | int j => exact ⟨shaped_int, shaped_int, two i j _ (.inl rfl) h⟩
        | _ => cases hd
      | _ => cases hd
    | _ :: _ :: _ :: _ :: _, hd, _ => exact absurd hd (by simp [oddD])
  | tup xs =>
    match xs, hd, h with
    | [], _, h => exact ⟨shaped_int, shaped_int, h _⟩
    | [x], _, h => exact ⟨shaped_int, shaped_int, h _⟩
    | [x, y], hd, h =>
      cases x with
      | int i =>
        cases y with
        | int j => exact ⟨shaped_int, shaped_int, two i j _ (.inr rfl) h⟩
        | _ => cases hd
      | _ => cases hd
    | _ :: _ :: _ :: _, hd, _ => exact absurd hd (by simp [oddD])
  | _ => first | exact h _ | cases hd
theorem val_odd {d : D} (h : valD d = true) : oddD d = true := by
  unfold valD at h
  split at h <;> first | rfl | cases h
theorem odd_slot {d : D} (h : oddD d = true) : d.isSlot = false := by cases d <;> first | rfl | (exact absurd h (by simp [oddD]))
theorem odd_plain {d : D} (h : oddD d = true) : plainD d = true := by cases d <;> first | rfl | (exact absurd h (by simp [oddD]))
theorem odd_parts {d : D} (h : oddD d = true) : partsD d = true := by
  unfold oddD at h
  split at h <;> first | rfl | cases h | simpa [partsD, Bool.and_assoc] using h
theorem len_lst {s : DS} {xs : List D} {Q : D → Prop} (q : Q (.int xs.length)) : fLen s [.lst xs] Q := q
theorem odd_one {v : D} (h : plainD v = true) : oddD (.lst [v]) = true := by cases v <;> exact h
theorem odd_three {v o t : D} (h : (plainD v && plainD o && plainD t) = true) : oddD (.lst [v, o, t]) = true := by cases v <;> cases o <;> exact h
end K02

namespace K02
open PySem L2 DL
section
variable {P : Program} {w : World} {K : PySem.W.Frag} {mg : Str → Option Value} {base : Heap}
abbrev N_law : List Str := ["script", "paw", "turn", "value", "least", "most", "is_so", "due", "other", "third", "places", "odd", "each"]
theorem sc_law : FnScope N_law ["script"] (defScope s_law) := ⟨rfl, rfl, rfl, by decide +kernel, rfl, by decide +kernel, by decide +kernel⟩
structure Calls (P : Program) (w : World) (K : PySem.W.Frag) (mg : Str → Option Value) (base : Heap) : Prop where
  i : Fn P w K mg base 1 "is_integer" s_is_integer ["value"] CInt
  wi : Fn P w K mg base 2 "is_within" s_is_within N_3 CWithin
  c : Fn P w K mg base 3 "is_cell" s_is_cell ["value"] CCell
  s : Fn P w K mg base 3 "is_side" s_is_side ["value"] CSide
  p : Fn P w K mg base 2 "_law_pick" s__law_pick N_p CPick
  v : Fn P w K mg base 3 "_law_value" s__law_value ["paw"] CValue
  li : Fn P w K mg base 1 "_law_is_integer" s__law_is_integer ["value"] CInt
def Inv02 (xs : List D) (s : DS) : Prop := (∀ x, x ∈ xs → ∃ i, x = .int i) ∧ ∃ e2 e3 e4 e5 e6 e7 e8 e9 e10 e11 e12 b, s = ⟨[.un, .fz .paw, e2, e3, e4, e5, e6, e7, e8, e9, e10, e11, e12], b⟩ ∧ 9 * xs.length ≤ b
theorem law_body (T : Txt2 K mg) (G : Calls P w K mg base) {A : Around} {outer : List Env} {f : Addr} {cdv : Value} {s : Shared} {H : Hp} {E : XK} (hr : Room 4 (A.deeper (PyProof.Rows.envOfC "law" (defScope s_law) s.heap.objs.size f cdv)))
    (hgd : (A.deeper (PyProof.Rows.envOfC "law" (defScope s_law) s.heap.objs.size f cdv)).guards = some []) :
    ∃ ts t, PDSs (cxOf CX0 P w K mg base N_law "law" (defScope s_law) f cdv A outer s H E).nox ((defBody s_law).drop 1) ts t ∧ t { nx := fun _ => False, rt := fun d _ => d = .bl true } ⟨.un :: .fz .paw :: List.replicate 11 .un, 1000000⟩ := by
  have nd := sc_law.nd
  have hu : (A.deeper (PyProof.Rows.envOfC "law" (defScope s_law) s.heap.objs.size f cdv)).units + 64 < cLine := by have := hr.un; omega
  have hu5 : (A.deeper (PyProof.Rows.envOfC "law" (defScope s_law) s.heap.objs.size f cdv)).units + 65 < cLine := by have := hr.un; omega
  have G_is_integer := G.i
  have G_is_within := G.wi
  have G_is_cell := G.c
  have G_is_side := G.s
  have G__law_pick := G.p
  have G__law_value := G.v
  have G__law_is_integer := G.li
  refine ⟨_, _, (dss_cons (ds_for PassesOwn.never rfl (di_range1 (by rfl) T.b_range (da_cons d_int da_nil)) (dg_name (i := 2) nd rfl (by first | exact .inl rfl | exact .inr rfl)) (dss_cons (ds_par3 (i := 3) (j := 4) (l := 5) rfl nd rfl rfl rfl (by decide) (by decide) (by decide) rfl rfl rfl (da_cons (d_call G__law_value (hr.mono (by decide)) hgd (da_cons (dv 1) da_nil)) (da_cons (d_call G__law_pick (hr.mono (by decide)) hgd (da_cons (dv 1) (da_cons (d_ofL (dl_lst (da_cons d_non (da_cons d_int (da_cons (d_neg d_int) (da_cons (d_op o_pow d_int d_int) da_nil)))))) da_nil))) (da_cons (d_call G__law_pick (hr.mono (by decide)) hgd (da_cons (dv 1) (da_cons (d_ofL (dl_lst (da_cons d_non (da_cons d_int (da_cons d_int (da_cons (d_op o_pow d_int d_int) (da_cons (d_op o_pow d_int d_int) da_nil))))))) da_nil))) da_nil))) (by rfl))
      (dss_cons (ds_set (i := 6) nd rfl (Or.inl rfl) (d_call G__law_is_integer (hr.mono (by decide)) hgd (da_cons (dv 3) da_nil)))
      (dss_cons (ds_if (dt_cmp (o_ne hu) (d_callB (b_repr hgd hu) (by rfl) T.b_repr (by decide +kernel) (da_cons (d_ofL (dl_lst (da_cons (d_call G_is_integer (hr.mono (by decide)) hgd (da_cons (dv 3) da_nil)) (da_cons (d_callK0 (is := [0]) G_is_integer (hr.mono (by decide)) hgd (dk_cons (dv 3) dk_nil) (fun _ _ _ _ _ _ ws h => match ws, h with | [_], _ => rfl)) da_nil)))) da_nil)) (d_callB (b_repr hgd hu) (by rfl) T.b_repr (by decide +kernel) (da_cons (d_ofL (dl_lst (da_cons (dv 6) (da_cons (dv 6) da_nil)))) da_nil))) (dss_one (ds_ret d_bl)) dss_nil)
      (dss_cons (ds_set (i := 7) nd rfl (Or.inl rfl) (d_and (dv 6) (d_and (d_or (d_cmp o_is (dv 4) d_non) (d_one (d_cmp o_ge (dv 3) (dv 4)))) (d_one (d_or (d_cmp o_is (dv 5) d_non) (d_one (d_cmp o_le (dv 3) (dv 5))))))))
      (dss_cons (ds_if (dt_cmp (o_ne hu) (d_callB (b_repr hgd hu) (by rfl) T.b_repr (by decide +kernel) (da_cons (d_ofL (dl_lst (da_cons (d_call G_is_within (hr.mono (by decide)) hgd (da_cons (dv 3) (da_cons (dv 4) (da_cons (dv 5) da_nil)))) (da_cons (d_callK0 (is := [2, 1, 0]) G_is_within (hr.mono (by decide)) hgd (dk_cons (dv 5) (dk_cons (dv 4) (dk_cons (dv 3) dk_nil))) (fun _ _ _ _ _ _ ws h => match ws, h with | [_, _, _], _ => rfl)) da_nil)))) da_nil)) (d_callB (b_repr hgd hu) (by rfl) T.b_repr (by decide +kernel) (da_cons (d_ofL (dl_lst (da_cons (dv 7) (da_cons (dv 7) da_nil)))) da_nil))) (dss_one (ds_ret d_bl)) dss_nil)
      (dss_cons (ds_if (dt_cmp (o_ne hu) (d_callB (b_repr hgd hu) (by rfl) T.b_repr (by decide +kernel) (da_cons (d_ofL (dl_lst (da_cons (d_call G_is_side (hr.mono (by decide)) hgd (da_cons (dv 3) da_nil)) (da_cons (d_callK0 (is := [0]) G_is_side (hr.mono (by decide)) hgd (dk_cons (dv 3) dk_nil) (fun _ _ _ _ _ _ ws h => match ws, h with | [_], _ => rfl)) da_nil)))) da_nil)) (d_callB (b_repr hgd hu) (by rfl) T.b_repr (by decide +kernel) (da_cons (d_op o_mul (d_ofL (dl_lst (da_cons (d_and (dv 6) (d_one (d_cmp (o_in hu5) (dv 3) (d_tup (da_cons d_int (da_cons d_int (da_cons d_int (da_cons d_int da_nil)))))))) da_nil))) d_int) da_nil))) (dss_one (ds_ret d_bl)) dss_nil)
      (dss_cons (ds_par (i := 8) (j := 9) rfl nd rfl rfl (by decide) rfl rfl (da_cons (d_call G__law_value (hr.mono (by decide)) hgd (da_cons (dv 1) da_nil)) (da_cons (d_call G__law_value (hr.mono (by decide)) hgd (da_cons (dv 1) da_nil)) da_nil)) (by rfl))
      (dss_cons (ds_setLc (i := 10) rfl nd rfl rfl (sw_true rfl rfl rfl (by decide +kernel)) (own := [("each", 12)]) (di_seq (d_tup (da_cons (dv 3) (da_cons (dv 8) da_nil)))) (blkOk_by (N := N_law) (sc := defScope s_law) (by decide +kernel)) (gk_name (by decide)) (fun _ _ _ _ _ => (dg_name (i := 12) nd rfl (by first | exact .inl rfl | exact .inr rfl))) (fun _ _ _ _ _ => by exact (dts_one (PDW.pt (dw_and (dt_val (d_callX G__law_is_integer (hr.mono (by decide)) hgd (da_cons (dv 12) da_nil))) (dw_and1 (dt_cmp o_le (d_callB b_abs (by rfl) T.b_abs (by decide +kernel) (da_cons (dv 12) da_nil)) (d_op o_pow d_int d_int))))))) (fun _ _ _ _ _ => by exact (dv 12)))
      (dss_cons (ds_if (dt_cmp (o_ne hu) (d_callB (b_repr hgd hu) (by rfl) T.b_repr (by decide +kernel) (da_cons (d_ofL (dl_lst (da_cons (d_call G_is_cell (hr.mono (by decide)) hgd (da_cons (d_ofL (dl_lst (da_cons (dv 3) (da_cons (dv 8) da_nil)))) da_nil)) (da_cons (d_call G_is_cell (hr.mono (by decide)) hgd (da_cons (d_tup (da_cons (dv 3) (da_cons (dv 8) da_nil))) da_nil)) da_nil)))) da_nil)) (d_callB (b_repr hgd hu) (by rfl) T.b_repr (by decide +kernel) (da_cons (d_op o_mul (d_ofL (dl_lst (da_cons (d_cmp (o_eq hu) (d_callB b_len (by rfl) T.b_len (by decide +kernel) (da_cons (dv 10) da_nil)) d_int) da_nil))) d_int) da_nil))) (dss_one (ds_ret d_bl)) dss_nil)
      (dss_cons (ds_set (i := 11) nd rfl (Or.inl rfl) (d_call G__law_pick (hr.mono (by decide)) hgd (da_cons (dv 1) (da_cons (d_ofL (dl_lst (da_cons (d_ofL (dl_lst (da_cons (dv 3) da_nil))) (da_cons (d_ofL (dl_lst (da_cons (dv 3) (da_cons (dv 8) (da_cons (dv 9) da_nil))))) (da_cons (dv 3) (da_cons d_str (da_cons (d_dict (dp_cons d_int d_int (dp_cons d_int d_int dp_nil))) (da_cons d_non (da_cons (d_tup da_nil) (da_cons (d_tup (da_cons (d_tup (da_cons d_int (da_cons d_int da_nil))) da_nil)) da_nil)))))))))) da_nil))))
      (dss_cons (ds_set (i := 7) nd rfl (Or.inl rfl) (d_and (d_callB b_isi (by rfl) T.b_isinstance (by decide +kernel) (da_cons (dv 11) (da_cons (d_tup (da_cons (d_bltn (v := .ty "list") (by rfl) T.b_list (by decide +kernel) rfl) (da_cons (d_bltn (v := .ty "tuple") (by rfl) T.b_tuple (by decide +kernel) rfl) da_nil))) da_nil))) (d_and (d_cmp (o_eq hu) (d_callB b_len (by rfl) T.b_len (by decide +kernel) (da_cons (dv 11) da_nil)) d_int) (d_one (d_cmp (o_eq hu) (d_ofL (dl_lc (own := [("each", 12)]) rfl nd (di_seq (dv 11)) (blkOk_by (N := N_law) (sc := defScope s_law) (by decide +kernel)) (gk_name (by decide)) (fun _ _ _ _ _ => (dg_name (i := 12) nd rfl (by first | exact .inl rfl | exact .inr rfl))) (fun _ _ _ _ _ => by exact (dts_one (PDW.pt (dw_or (dt_not (dt_val (d_callX G__law_is_integer (hr.mono (by decide)) hgd (da_cons (dv 12) da_nil)))) (dw_or1 (dt_cmp o_gt (d_callB b_abs (by rfl) T.b_abs (by decide +kernel) (da_cons (dv 12) da_nil)) (d_op o_pow d_int d_int))))))) (fun _ _ _ _ _ => by exact (dv 12)))) (d_ofL (dl_lst da_nil)))))))
      (dss_one (ds_if (dt_cmp (o_ne hu) (d_callB (b_repr hgd hu) (by rfl) T.b_repr (by decide +kernel) (da_cons (d_call G_is_cell (hr.mono (by decide)) hgd (da_cons (dv 11) da_nil)) da_nil)) (d_callB (b_repr hgd hu) (by rfl) T.b_repr (by decide +kernel) (da_cons (dv 7) da_nil))) (dss_one (ds_ret d_bl)) dss_nil))))))))))))))
      (dss_one (ds_ret d_bl))), ?_⟩
  repeat (first | with_reducible refine DL.r_seq ?_ | with_reducible refine DL.r_next ?_ | with_reducible refine DL.r_ret ?_ | with_reducible refine DL.r_ifS ?_ | with_reducible refine DL.r_asg ?_ | with_reducible refine DL.r_drop ?_ | with_reducible refine DL.r_c ?_ | with_reducible refine DL.r_nil ?_ | with_reducible refine DL.r_cons ?_ | with_reducible refine DL.r_op ?_ | with_reducible refine DL.r_cb ?_ | with_reducible refine DL.r_ofL ?_ | with_reducible refine DL.r_lst ?_ | with_reducible refine DL.r_tup ?_ | with_reducible refine DL.r_b ?_ | with_reducible refine DL.r_not ?_ | with_reducible refine DL.r_and ?_ | with_reducible refine DL.r_or ?_ | with_reducible refine DL.r_andV ?_ | with_reducible refine DL.r_orV ?_ | with_reducible refine DL.r_notV ?_ | with_reducible refine DL.r_neg ?_ | with_reducible refine DL.r_par ?_ | with_reducible refine DL.r_par3 ?_ | with_reducible refine DL.r_gname ?_ | with_reducible refine DL.r_callO ?_ | (with_reducible apply DL.r_var; focus exact rfl) | with_reducible refine DL.r_if1 ?_ | with_reducible refine DL.r_if0 ?_)
  refine ⟨by decide, by decide, rfl, forL_ind (I := Inv02) ?_ ?_ _ _ ⟨fun x hx => ?_, _, _, _, _, _, _, _, _, _, _, _, _, rfl, ?_⟩⟩
  · intro s _
    refine ⟨trivial, ?_⟩
    repeat (first | with_reducible refine DL.r_seq ?_ | with_reducible refine DL.r_next ?_ | with_reducible refine DL.r_ret ?_ | with_reducible refine DL.r_ifS ?_ | with_reducible refine DL.r_asg ?_ | with_reducible refine DL.r_drop ?_ | with_reducible refine DL.r_c ?_ | with_reducible refine DL.r_nil ?_ | with_reducible refine DL.r_cons ?_ | with_reducible refine DL.r_op ?_ | with_reducible refine DL.r_cb ?_ | with_reducible refine DL.r_ofL ?_ | with_reducible refine DL.r_lst ?_ | with_reducible refine DL.r_tup ?_ | with_reducible refine DL.r_b ?_ | with_reducible refine DL.r_not ?_ | with_reducible refine DL.r_and ?_ | with_reducible refine DL.r_or ?_ | with_reducible refine DL.r_andV ?_ | with_reducible refine DL.r_orV ?_ | with_reducible refine DL.r_notV ?_ | with_reducible refine DL.r_neg ?_ | with_reducible refine DL.r_par ?_ | with_reducible refine DL.r_par3 ?_ | with_reducible refine DL.r_gname ?_ | with_reducible refine DL.r_callO ?_ | (with_reducible apply DL.r_var; focus exact rfl) | with_reducible refine DL.r_if1 ?_ | with_reducible refine DL.r_if0 ?_)
    rfl
  · rintro x xs s ⟨hx, e2, e3, e4, e5, e6, e7, e8, e9, e10, e11, e12, b, rfl, hb⟩ ih
    refine ⟨trivial, ?_⟩
    repeat (first | with_reducible refine DL.r_seq ?_ | with_reducible refine DL.r_next ?_ | with_reducible refine DL.r_ret ?_ | with_reducible refine DL.r_ifS ?_ | with_reducible refine DL.r_asg ?_ | with_reducible refine DL.r_drop ?_ | with_reducible refine DL.r_c ?_ | with_reducible refine DL.r_nil ?_ | with_reducible refine DL.r_cons ?_ | with_reducible refine DL.r_op ?_ | with_reducible refine DL.r_cb ?_ | with_reducible refine DL.r_ofL ?_ | with_reducible refine DL.r_lst ?_ | with_reducible refine DL.r_tup ?_ | with_reducible refine DL.r_b ?_ | with_reducible refine DL.r_not ?_ | with_reducible refine DL.r_and ?_ | with_reducible refine DL.r_or ?_ | with_reducible refine DL.r_andV ?_ | with_reducible refine DL.r_orV ?_ | with_reducible refine DL.r_notV ?_ | with_reducible refine DL.r_neg ?_ | with_reducible refine DL.r_par ?_ | with_reducible refine DL.r_par3 ?_ | with_reducible refine DL.r_gname ?_ | with_reducible refine DL.r_callO ?_ | (with_reducible apply DL.r_var; focus exact rfl) | with_reducible refine DL.r_if1 ?_ | with_reducible refine DL.r_if0 ?_)
    have hb9 : 9 ≤ b := by
      rw [List.length_cons] at hb
      omega
    refine ⟨rfl, (by show 2 ≤ b; omega), fun v hv => ⟨rfl, cp10 (by decide) (by decide), (by show 4 ≤ sizeLine; decide), rfl, _, rfl, (by show 0 < 4; decide), (by show 4 < 1000; decide), rfl, (by show 1 ≤ b - 2; omega), fun l hl => ⟨rfl, cp10 (by decide) (by decide), cp10 (by decide) (by decide),
      (by show 5 ≤ sizeLine; decide), rfl, _, rfl, (by show 0 < 5; decide), (by show 5 < 1000; decide), rfl, (by show 1 ≤ b - 2 - 1; omega), fun m hm => ⟨rfl, ?_⟩⟩⟩⟩
    have hl : bndD l = true := (List.all_eq_true (p := bndD)).mp rfl l hl
    have hm : bndD m = true := (List.all_eq_true (p := bndD)).mp rfl m hm
    refine ⟨⟨val_slot hv, bnd_slot hl, bnd_slot hm⟩, ?_⟩
    have nv : noSlots [v] = true := noSlots_cons (val_slot hv) rfl
    generalize hB : b - 2 - 1 - 1 = B
    with_reducible refine r_seq ?_
    change dAsg _ _ _ (S13 .un (.fz .paw) (.fz x) (.fz v) (.fz l) (.fz m) e6 e7 e8 e9 e10 e11 e12 B)
    -- is_so
    repeat (first | with_reducible refine DL.r_seq ?_ | with_reducible refine DL.r_next ?_ | with_reducible refine DL.r_ret ?_ | with_reducible refine DL.r_ifS ?_ | with_reducible refine DL.r_asg ?_ | with_reducible refine DL.r_drop ?_ | with_reducible refine DL.r_c ?_ | with_reducible refine DL.r_nil ?_ | with_reducible refine DL.r_cons ?_ | with_reducible refine DL.r_op ?_ | with_reducible refine DL.r_cb ?_ | with_reducible refine DL.r_ofL ?_ | with_reducible refine DL.r_lst ?_ | with_reducible refine DL.r_tup ?_ | with_reducible refine DL.r_b ?_ | with_reducible refine DL.r_not ?_ | with_reducible refine DL.r_and ?_ | with_reducible refine DL.r_or ?_ | with_reducible refine DL.r_andV ?_ | with_reducible refine DL.r_orV ?_ | with_reducible refine DL.r_notV ?_ | with_reducible refine DL.r_neg ?_ | with_reducible refine DL.r_par ?_ | with_reducible refine DL.r_par3 ?_ | with_reducible refine DL.r_gname ?_ | with_reducible refine DL.r_callO ?_ | (with_reducible apply DL.r_var; focus exact rfl) | with_reducible refine DL.r_if1 ?_ | with_reducible refine DL.r_if0 ?_)
    refine r_call (ds := [v]) (fun _ h => h) nv ⟨v, rfl, val_plain hv, rfl, r_gname ?_⟩
    with_reducible refine r_seq ?_
    change dIfS _ _ _ _ (S13 .un (.fz .paw) (.fz x) (.fz v) (.fz l) (.fz m) (.fz (.bl (isI v))) e7 e8 e9 e10 e11 e12 B)
    repeat (first | with_reducible refine DL.r_seq ?_ | with_reducible refine DL.r_next ?_ | with_reducible refine DL.r_ret ?_ | with_reducible refine DL.r_ifS ?_ | with_reducible refine DL.r_asg ?_ | with_reducible refine DL.r_drop ?_ | with_reducible refine DL.r_c ?_ | with_reducible refine DL.r_nil ?_ | with_reducible refine DL.r_cons ?_ | with_reducible refine DL.r_op ?_ | with_reducible refine DL.r_cb ?_ | with_reducible refine DL.r_ofL ?_ | with_reducible refine DL.r_lst ?_ | with_reducible refine DL.r_tup ?_ | with_reducible refine DL.r_b ?_ | with_reducible refine DL.r_not ?_ | with_reducible refine DL.r_and ?_ | with_reducible refine DL.r_or ?_ | with_reducible refine DL.r_andV ?_ | with_reducible refine DL.r_orV ?_ | with_reducible refine DL.r_notV ?_ | with_reducible refine DL.r_neg ?_ | with_reducible refine DL.r_par ?_ | with_reducible refine DL.r_par3 ?_ | with_reducible refine DL.r_gname ?_ | with_reducible refine DL.r_callO ?_ | (with_reducible apply DL.r_var; focus exact rfl) | with_reducible refine DL.r_if1 ?_ | with_reducible refine DL.r_if0 ?_)
    refine r_call (ds := [v]) (fun _ h => h) nv ⟨v, rfl, val_plain hv, ?_⟩
    repeat (first | with_reducible refine DL.r_seq ?_ | with_reducible refine DL.r_next ?_ | with_reducible refine DL.r_ret ?_ | with_reducible refine DL.r_ifS ?_ | with_reducible refine DL.r_asg ?_ | with_reducible refine DL.r_drop ?_ | with_reducible refine DL.r_c ?_ | with_reducible refine DL.r_nil ?_ | with_reducible refine DL.r_cons ?_ | with_reducible refine DL.r_op ?_ | with_reducible refine DL.r_cb ?_ | with_reducible refine DL.r_ofL ?_ | with_reducible refine DL.r_lst ?_ | with_reducible refine DL.r_tup ?_ | with_reducible refine DL.r_b ?_ | with_reducible refine DL.r_not ?_ | with_reducible refine DL.r_and ?_ | with_reducible refine DL.r_or ?_ | with_reducible refine DL.r_andV ?_ | with_reducible refine DL.r_orV ?_ | with_reducible refine DL.r_notV ?_ | with_reducible refine DL.r_neg ?_ | with_reducible refine DL.r_par ?_ | with_reducible refine DL.r_par3 ?_ | with_reducible refine DL.r_gname ?_ | with_reducible refine DL.r_callO ?_ | (with_reducible apply DL.r_var; focus exact rfl) | with_reducible refine DL.r_if1 ?_ | with_reducible refine DL.r_if0 ?_)
    refine r_call (ds := [v]) (fun _ h => h) nv ⟨v, rfl, val_plain hv, ?_⟩
    repeat (first | with_reducible refine DL.r_seq ?_ | with_reducible refine DL.r_next ?_ | with_reducible refine DL.r_ret ?_ | with_reducible refine DL.r_ifS ?_ | with_reducible refine DL.r_asg ?_ | with_reducible refine DL.r_drop ?_ | with_reducible refine DL.r_c ?_ | with_reducible refine DL.r_nil ?_ | with_reducible refine DL.r_cons ?_ | with_reducible refine DL.r_op ?_ | with_reducible refine DL.r_cb ?_ | with_reducible refine DL.r_ofL ?_ | with_reducible refine DL.r_lst ?_ | with_reducible refine DL.r_tup ?_ | with_reducible refine DL.r_b ?_ | with_reducible refine DL.r_not ?_ | with_reducible refine DL.r_and ?_ | with_reducible refine DL.r_or ?_ | with_reducible refine DL.r_andV ?_ | with_reducible refine DL.r_orV ?_ | with_reducible refine DL.r_notV ?_ | with_reducible refine DL.r_neg ?_ | with_reducible refine DL.r_par ?_ | with_reducible refine DL.r_par3 ?_ | with_reducible refine DL.r_gname ?_ | with_reducible refine DL.r_callO ?_ | (with_reducible apply DL.r_var; focus exact rfl) | with_reducible refine DL.r_if1 ?_ | with_reducible refine DL.r_if0 ?_)
    refine ⟨by show 2 ≤ sizeLine; decide, rfl, ?_⟩
    repeat (first | with_reducible refine DL.r_seq ?_ | with_reducible refine DL.r_next ?_ | with_reducible refine DL.r_ret ?_ | with_reducible refine DL.r_ifS ?_ | with_reducible refine DL.r_asg ?_ | with_reducible refine DL.r_drop ?_ | with_reducible refine DL.r_c ?_ | with_reducible refine DL.r_nil ?_ | with_reducible refine DL.r_cons ?_ | with_reducible refine DL.r_op ?_ | with_reducible refine DL.r_cb ?_ | with_reducible refine DL.r_ofL ?_ | with_reducible refine DL.r_lst ?_ | with_reducible refine DL.r_tup ?_ | with_reducible refine DL.r_b ?_ | with_reducible refine DL.r_not ?_ | with_reducible refine DL.r_and ?_ | with_reducible refine DL.r_or ?_ | with_reducible refine DL.r_andV ?_ | with_reducible refine DL.r_orV ?_ | with_reducible refine DL.r_notV ?_ | with_reducible refine DL.r_neg ?_ | with_reducible refine DL.r_par ?_ | with_reducible refine DL.r_par3 ?_ | with_reducible refine DL.r_gname ?_ | with_reducible refine DL.r_callO ?_ | (with_reducible apply DL.r_var; focus exact rfl) | with_reducible refine DL.r_if1 ?_ | with_reducible refine DL.r_if0 ?_)
    refine repr_bl2 ?_
    repeat (first | with_reducible refine DL.r_seq ?_ | with_reducible refine DL.r_next ?_ | with_reducible refine DL.r_ret ?_ | with_reducible refine DL.r_ifS ?_ | with_reducible refine DL.r_asg ?_ | with_reducible refine DL.r_drop ?_ | with_reducible refine DL.r_c ?_ | with_reducible refine DL.r_nil ?_ | with_reducible refine DL.r_cons ?_ | with_reducible refine DL.r_op ?_ | with_reducible refine DL.r_cb ?_ | with_reducible refine DL.r_ofL ?_ | with_reducible refine DL.r_lst ?_ | with_reducible refine DL.r_tup ?_ | with_reducible refine DL.r_b ?_ | with_reducible refine DL.r_not ?_ | with_reducible refine DL.r_and ?_ | with_reducible refine DL.r_or ?_ | with_reducible refine DL.r_andV ?_ | with_reducible refine DL.r_orV ?_ | with_reducible refine DL.r_notV ?_ | with_reducible refine DL.r_neg ?_ | with_reducible refine DL.r_par ?_ | with_reducible refine DL.r_par3 ?_ | with_reducible refine DL.r_gname ?_ | with_reducible refine DL.r_callO ?_ | (with_reducible apply DL.r_var; focus exact rfl) | with_reducible refine DL.r_if1 ?_ | with_reducible refine DL.r_if0 ?_)
    refine ⟨by show 2 ≤ sizeLine; decide, rfl, ?_⟩
    repeat (first | with_reducible refine DL.r_seq ?_ | with_reducible refine DL.r_next ?_ | with_reducible refine DL.r_ret ?_ | with_reducible refine DL.r_ifS ?_ | with_reducible refine DL.r_asg ?_ | with_reducible refine DL.r_drop ?_ | with_reducible refine DL.r_c ?_ | with_reducible refine DL.r_nil ?_ | with_reducible refine DL.r_cons ?_ | with_reducible refine DL.r_op ?_ | with_reducible refine DL.r_cb ?_ | with_reducible refine DL.r_ofL ?_ | with_reducible refine DL.r_lst ?_ | with_reducible refine DL.r_tup ?_ | with_reducible refine DL.r_b ?_ | with_reducible refine DL.r_not ?_ | with_reducible refine DL.r_and ?_ | with_reducible refine DL.r_or ?_ | with_reducible refine DL.r_andV ?_ | with_reducible refine DL.r_orV ?_ | with_reducible refine DL.r_notV ?_ | with_reducible refine DL.r_neg ?_ | with_reducible refine DL.r_par ?_ | with_reducible refine DL.r_par3 ?_ | with_reducible refine DL.r_gname ?_ | with_reducible refine DL.r_callO ?_ | (with_reducible apply DL.r_var; focus exact rfl) | with_reducible refine DL.r_if1 ?_ | with_reducible refine DL.r_if0 ?_)
    refine repr_bl2 (ne_same strOk_bl2 (r_if0 (r_next ?_)))
    with_reducible refine r_seq ?_
    change dAsg _ _ _ (S13 .un (.fz .paw) (.fz x) (.fz v) (.fz l) (.fz m) (.fz (.bl (isI v))) e7 e8 e9 e10 e11 e12 B)
    -- due
    refine r_asg (r_due rfl rfl rfl rfl hv hl hm ⟨rfl, r_gname ?_⟩)
    with_reducible refine r_seq ?_
    change dIfS _ _ _ _ (S13 .un (.fz .paw) (.fz x) (.fz v) (.fz l) (.fz m) (.fz (.bl (isI v))) (.fz (.bl (geD v l && leD v m))) e8 e9 e10 e11 e12 B)
    have nvlm : noSlots [v, l, m] = true := noSlots_cons (val_slot hv) (noSlots_cons (bnd_slot hl) (noSlots_cons (bnd_slot hm) rfl))
    repeat (first | with_reducible refine DL.r_seq ?_ | with_reducible refine DL.r_next ?_ | with_reducible refine DL.r_ret ?_ | with_reducible refine DL.r_ifS ?_ | with_reducible refine DL.r_asg ?_ | with_reducible refine DL.r_drop ?_ | with_reducible refine DL.r_c ?_ | with_reducible refine DL.r_nil ?_ | with_reducible refine DL.r_cons ?_ | with_reducible refine DL.r_op ?_ | with_reducible refine DL.r_cb ?_ | with_reducible refine DL.r_ofL ?_ | with_reducible refine DL.r_lst ?_ | with_reducible refine DL.r_tup ?_ | with_reducible refine DL.r_b ?_ | with_reducible refine DL.r_not ?_ | with_reducible refine DL.r_and ?_ | with_reducible refine DL.r_or ?_ | with_reducible refine DL.r_andV ?_ | with_reducible refine DL.r_orV ?_ | with_reducible refine DL.r_notV ?_ | with_reducible refine DL.r_neg ?_ | with_reducible refine DL.r_par ?_ | with_reducible refine DL.r_par3 ?_ | with_reducible refine DL.r_gname ?_ | with_reducible refine DL.r_callO ?_ | (with_reducible apply DL.r_var; focus exact rfl) | with_reducible refine DL.r_if1 ?_ | with_reducible refine DL.r_if0 ?_)
    refine r_call (ds := [v, l, m]) (fun _ h => h) nvlm ⟨v, l, m, rfl, val_plain hv, hl, hm, ?_⟩
    repeat (first | with_reducible refine DL.r_seq ?_ | with_reducible refine DL.r_next ?_ | with_reducible refine DL.r_ret ?_ | with_reducible refine DL.r_ifS ?_ | with_reducible refine DL.r_asg ?_ | with_reducible refine DL.r_drop ?_ | with_reducible refine DL.r_c ?_ | with_reducible refine DL.r_nil ?_ | with_reducible refine DL.r_cons ?_ | with_reducible refine DL.r_op ?_ | with_reducible refine DL.r_cb ?_ | with_reducible refine DL.r_ofL ?_ | with_reducible refine DL.r_lst ?_ | with_reducible refine DL.r_tup ?_ | with_reducible refine DL.r_b ?_ | with_reducible refine DL.r_not ?_ | with_reducible refine DL.r_and ?_ | with_reducible refine DL.r_or ?_ | with_reducible refine DL.r_andV ?_ | with_reducible refine DL.r_orV ?_ | with_reducible refine DL.r_notV ?_ | with_reducible refine DL.r_neg ?_ | with_reducible refine DL.r_par ?_ | with_reducible refine DL.r_par3 ?_ | with_reducible refine DL.r_gname ?_ | with_reducible refine DL.r_callO ?_ | (with_reducible apply DL.r_var; focus exact rfl) | with_reducible refine DL.r_if1 ?_ | with_reducible refine DL.r_if0 ?_)
    refine r_call (ds := [v, l, m]) (fun _ h => h) nvlm ⟨v, l, m, rfl, val_plain hv, hl, hm, ?_⟩
    repeat (first | with_reducible refine DL.r_seq ?_ | with_reducible refine DL.r_next ?_ | with_reducible refine DL.r_ret ?_ | with_reducible refine DL.r_ifS ?_ | with_reducible refine DL.r_asg ?_ | with_reducible refine DL.r_drop ?_ | with_reducible refine DL.r_c ?_ | with_reducible refine DL.r_nil ?_ | with_reducible refine DL.r_cons ?_ | with_reducible refine DL.r_op ?_ | with_reducible refine DL.r_cb ?_ | with_reducible refine DL.r_ofL ?_ | with_reducible refine DL.r_lst ?_ | with_reducible refine DL.r_tup ?_ | with_reducible refine DL.r_b ?_ | with_reducible refine DL.r_not ?_ | with_reducible refine DL.r_and ?_ | with_reducible refine DL.r_or ?_ | with_reducible refine DL.r_andV ?_ | with_reducible refine DL.r_orV ?_ | with_reducible refine DL.r_notV ?_ | with_reducible refine DL.r_neg ?_ | with_reducible refine DL.r_par ?_ | with_reducible refine DL.r_par3 ?_ | with_reducible refine DL.r_gname ?_ | with_reducible refine DL.r_callO ?_ | (with_reducible apply DL.r_var; focus exact rfl) | with_reducible refine DL.r_if1 ?_ | with_reducible refine DL.r_if0 ?_)
    refine ⟨by show 2 ≤ sizeLine; decide, rfl, ?_⟩
    repeat (first | with_reducible refine DL.r_seq ?_ | with_reducible refine DL.r_next ?_ | with_reducible refine DL.r_ret ?_ | with_reducible refine DL.r_ifS ?_ | with_reducible refine DL.r_asg ?_ | with_reducible refine DL.r_drop ?_ | with_reducible refine DL.r_c ?_ | with_reducible refine DL.r_nil ?_ | with_reducible refine DL.r_cons ?_ | with_reducible refine DL.r_op ?_ | with_reducible refine DL.r_cb ?_ | with_reducible refine DL.r_ofL ?_ | with_reducible refine DL.r_lst ?_ | with_reducible refine DL.r_tup ?_ | with_reducible refine DL.r_b ?_ | with_reducible refine DL.r_not ?_ | with_reducible refine DL.r_and ?_ | with_reducible refine DL.r_or ?_ | with_reducible refine DL.r_andV ?_ | with_reducible refine DL.r_orV ?_ | with_reducible refine DL.r_notV ?_ | with_reducible refine DL.r_neg ?_ | with_reducible refine DL.r_par ?_ | with_reducible refine DL.r_par3 ?_ | with_reducible refine DL.r_gname ?_ | with_reducible refine DL.r_callO ?_ | (with_reducible apply DL.r_var; focus exact rfl) | with_reducible refine DL.r_if1 ?_ | with_reducible refine DL.r_if0 ?_)
    refine repr_bl2 ?_
    repeat (first | with_reducible refine DL.r_seq ?_ | with_reducible refine DL.r_next ?_ | with_reducible refine DL.r_ret ?_ | with_reducible refine DL.r_ifS ?_ | with_reducible refine DL.r_asg ?_ | with_reducible refine DL.r_drop ?_ | with_reducible refine DL.r_c ?_ | with_reducible refine DL.r_nil ?_ | with_reducible refine DL.r_cons ?_ | with_reducible refine DL.r_op ?_ | with_reducible refine DL.r_cb ?_ | with_reducible refine DL.r_ofL ?_ | with_reducible refine DL.r_lst ?_ | with_reducible refine DL.r_tup ?_ | with_reducible refine DL.r_b ?_ | with_reducible refine DL.r_not ?_ | with_reducible refine DL.r_and ?_ | with_reducible refine DL.r_or ?_ | with_reducible refine DL.r_andV ?_ | with_reducible refine DL.r_orV ?_ | with_reducible refine DL.r_notV ?_ | with_reducible refine DL.r_neg ?_ | with_reducible refine DL.r_par ?_ | with_reducible refine DL.r_par3 ?_ | with_reducible refine DL.r_gname ?_ | with_reducible refine DL.r_callO ?_ | (with_reducible apply DL.r_var; focus exact rfl) | with_reducible refine DL.r_if1 ?_ | with_reducible refine DL.r_if0 ?_)
    refine ⟨by show 2 ≤ sizeLine; decide, rfl, ?_⟩
    repeat (first | with_reducible refine DL.r_seq ?_ | with_reducible refine DL.r_next ?_ | with_reducible refine DL.r_ret ?_ | with_reducible refine DL.r_ifS ?_ | with_reducible refine DL.r_asg ?_ | with_reducible refine DL.r_drop ?_ | with_reducible refine DL.r_c ?_ | with_reducible refine DL.r_nil ?_ | with_reducible refine DL.r_cons ?_ | with_reducible refine DL.r_op ?_ | with_reducible refine DL.r_cb ?_ | with_reducible refine DL.r_ofL ?_ | with_reducible refine DL.r_lst ?_ | with_reducible refine DL.r_tup ?_ | with_reducible refine DL.r_b ?_ | with_reducible refine DL.r_not ?_ | with_reducible refine DL.r_and ?_ | with_reducible refine DL.r_or ?_ | with_reducible refine DL.r_andV ?_ | with_reducible refine DL.r_orV ?_ | with_reducible refine DL.r_notV ?_ | with_reducible refine DL.r_neg ?_ | with_reducible refine DL.r_par ?_ | with_reducible refine DL.r_par3 ?_ | with_reducible refine DL.r_gname ?_ | with_reducible refine DL.r_callO ?_ | (with_reducible apply DL.r_var; focus exact rfl) | with_reducible refine DL.r_if1 ?_ | with_reducible refine DL.r_if0 ?_)
    refine repr_bl2 (ne_same strOk_bl2 (r_if0 (r_next ?_)))
    with_reducible refine r_seq ?_
    change dIfS _ _ _ _ (S13 .un (.fz .paw) (.fz x) (.fz v) (.fz l) (.fz m) (.fz (.bl (isI v))) (.fz (.bl (geD v l && leD v m))) e8 e9 e10 e11 e12 B)
    -- a side
    repeat (first | with_reducible refine DL.r_seq ?_ | with_reducible refine DL.r_next ?_ | with_reducible refine DL.r_ret ?_ | with_reducible refine DL.r_ifS ?_ | with_reducible refine DL.r_asg ?_ | with_reducible refine DL.r_drop ?_ | with_reducible refine DL.r_c ?_ | with_reducible refine DL.r_nil ?_ | with_reducible refine DL.r_cons ?_ | with_reducible refine DL.r_op ?_ | with_reducible refine DL.r_cb ?_ | with_reducible refine DL.r_ofL ?_ | with_reducible refine DL.r_lst ?_ | with_reducible refine DL.r_tup ?_ | with_reducible refine DL.r_b ?_ | with_reducible refine DL.r_not ?_ | with_reducible refine DL.r_and ?_ | with_reducible refine DL.r_or ?_ | with_reducible refine DL.r_andV ?_ | with_reducible refine DL.r_orV ?_ | with_reducible refine DL.r_notV ?_ | with_reducible refine DL.r_neg ?_ | with_reducible refine DL.r_par ?_ | with_reducible refine DL.r_par3 ?_ | with_reducible refine DL.r_gname ?_ | with_reducible refine DL.r_callO ?_ | (with_reducible apply DL.r_var; focus exact rfl) | with_reducible refine DL.r_if1 ?_ | with_reducible refine DL.r_if0 ?_)
    refine r_call (ds := [v]) (fun _ h => h) nv ⟨v, rfl, val_plain hv, ?_⟩
    repeat (first | with_reducible refine DL.r_seq ?_ | with_reducible refine DL.r_next ?_ | with_reducible refine DL.r_ret ?_ | with_reducible refine DL.r_ifS ?_ | with_reducible refine DL.r_asg ?_ | with_reducible refine DL.r_drop ?_ | with_reducible refine DL.r_c ?_ | with_reducible refine DL.r_nil ?_ | with_reducible refine DL.r_cons ?_ | with_reducible refine DL.r_op ?_ | with_reducible refine DL.r_cb ?_ | with_reducible refine DL.r_ofL ?_ | with_reducible refine DL.r_lst ?_ | with_reducible refine DL.r_tup ?_ | with_reducible refine DL.r_b ?_ | with_reducible refine DL.r_not ?_ | with_reducible refine DL.r_and ?_ | with_reducible refine DL.r_or ?_ | with_reducible refine DL.r_andV ?_ | with_reducible refine DL.r_orV ?_ | with_reducible refine DL.r_notV ?_ | with_reducible refine DL.r_neg ?_ | with_reducible refine DL.r_par ?_ | with_reducible refine DL.r_par3 ?_ | with_reducible refine DL.r_gname ?_ | with_reducible refine DL.r_callO ?_ | (with_reducible apply DL.r_var; focus exact rfl) | with_reducible refine DL.r_if1 ?_ | with_reducible refine DL.r_if0 ?_)
    refine r_call (ds := [v]) (fun _ h => h) nv ⟨v, rfl, val_plain hv, ?_⟩
    repeat (first | with_reducible refine DL.r_seq ?_ | with_reducible refine DL.r_next ?_ | with_reducible refine DL.r_ret ?_ | with_reducible refine DL.r_ifS ?_ | with_reducible refine DL.r_asg ?_ | with_reducible refine DL.r_drop ?_ | with_reducible refine DL.r_c ?_ | with_reducible refine DL.r_nil ?_ | with_reducible refine DL.r_cons ?_ | with_reducible refine DL.r_op ?_ | with_reducible refine DL.r_cb ?_ | with_reducible refine DL.r_ofL ?_ | with_reducible refine DL.r_lst ?_ | with_reducible refine DL.r_tup ?_ | with_reducible refine DL.r_b ?_ | with_reducible refine DL.r_not ?_ | with_reducible refine DL.r_and ?_ | with_reducible refine DL.r_or ?_ | with_reducible refine DL.r_andV ?_ | with_reducible refine DL.r_orV ?_ | with_reducible refine DL.r_notV ?_ | with_reducible refine DL.r_neg ?_ | with_reducible refine DL.r_par ?_ | with_reducible refine DL.r_par3 ?_ | with_reducible refine DL.r_gname ?_ | with_reducible refine DL.r_callO ?_ | (with_reducible apply DL.r_var; focus exact rfl) | with_reducible refine DL.r_if1 ?_ | with_reducible refine DL.r_if0 ?_)
    refine ⟨by show 2 ≤ sizeLine; decide, rfl, ?_⟩
    repeat (first | with_reducible refine DL.r_seq ?_ | with_reducible refine DL.r_next ?_ | with_reducible refine DL.r_ret ?_ | with_reducible refine DL.r_ifS ?_ | with_reducible refine DL.r_asg ?_ | with_reducible refine DL.r_drop ?_ | with_reducible refine DL.r_c ?_ | with_reducible refine DL.r_nil ?_ | with_reducible refine DL.r_cons ?_ | with_reducible refine DL.r_op ?_ | with_reducible refine DL.r_cb ?_ | with_reducible refine DL.r_ofL ?_ | with_reducible refine DL.r_lst ?_ | with_reducible refine DL.r_tup ?_ | with_reducible refine DL.r_b ?_ | with_reducible refine DL.r_not ?_ | with_reducible refine DL.r_and ?_ | with_reducible refine DL.r_or ?_ | with_reducible refine DL.r_andV ?_ | with_reducible refine DL.r_orV ?_ | with_reducible refine DL.r_notV ?_ | with_reducible refine DL.r_neg ?_ | with_reducible refine DL.r_par ?_ | with_reducible refine DL.r_par3 ?_ | with_reducible refine DL.r_gname ?_ | with_reducible refine DL.r_callO ?_ | (with_reducible apply DL.r_var; focus exact rfl) | with_reducible refine DL.r_if1 ?_ | with_reducible refine DL.r_if0 ?_)
    refine repr_bl2 (r_cb (r_cons (r_op (r_ofL (r_lst (r_cons (r_side rfl rfl hv (r_nil ⟨by show 1 ≤ sizeLine; decide, rfl, r_c ⟨by decide, by decide, by show 1 * 2 ≤ sizeLine; decide, r_nil ?_⟩⟩))))))))
    refine repr_bl2 (ne_same strOk_bl2 (r_if0 (r_next ?_)))
    with_reducible refine r_seq ?_
    change dPar _ _ _ _ (S13 .un (.fz .paw) (.fz x) (.fz v) (.fz l) (.fz m) (.fz (.bl (isI v))) (.fz (.bl (geD v l && leD v m))) e8 e9 e10 e11 e12 B)
    -- two values more
    repeat (first | with_reducible refine DL.r_seq ?_ | with_reducible refine DL.r_next ?_ | with_reducible refine DL.r_ret ?_ | with_reducible refine DL.r_ifS ?_ | with_reducible refine DL.r_asg ?_ | with_reducible refine DL.r_drop ?_ | with_reducible refine DL.r_c ?_ | with_reducible refine DL.r_nil ?_ | with_reducible refine DL.r_cons ?_ | with_reducible refine DL.r_op ?_ | with_reducible refine DL.r_cb ?_ | with_reducible refine DL.r_ofL ?_ | with_reducible refine DL.r_lst ?_ | with_reducible refine DL.r_tup ?_ | with_reducible refine DL.r_b ?_ | with_reducible refine DL.r_not ?_ | with_reducible refine DL.r_and ?_ | with_reducible refine DL.r_or ?_ | with_reducible refine DL.r_andV ?_ | with_reducible refine DL.r_orV ?_ | with_reducible refine DL.r_notV ?_ | with_reducible refine DL.r_neg ?_ | with_reducible refine DL.r_par ?_ | with_reducible refine DL.r_par3 ?_ | with_reducible refine DL.r_gname ?_ | with_reducible refine DL.r_callO ?_ | (with_reducible apply DL.r_var; focus exact rfl) | with_reducible refine DL.r_if1 ?_ | with_reducible refine DL.r_if0 ?_)
    refine ⟨rfl, (by show 2 ≤ B; omega), fun o ho => ⟨rfl, rfl, (by show 2 ≤ B - 2; omega), fun t ht => ⟨rfl, val_slot ho, val_slot ht, ?_⟩⟩⟩
    with_reducible refine r_seq ?_
    change dAsg _ _ _ (S13 .un (.fz .paw) (.fz x) (.fz v) (.fz l) (.fz m) (.fz (.bl (isI v))) (.fz (.bl (geD v l && leD v m))) (.fz o) (.fz t) e10 e11 e12 (B - 2 - 2))
    -- places
    refine r_asg (r_places hv ho fun pl npl hpl lpl => ⟨rfl, r_gname ?_⟩)
    with_reducible refine r_seq ?_
    change dIfS _ _ _ _ (S13 .un (.fz .paw) (.fz x) (.fz v) (.fz l) (.fz m) (.fz (.bl (isI v))) (.fz (.bl (geD v l && leD v m))) (.fz o) (.fz t) (.fz (.lst pl)) e11 .un (B - 2 - 2))
    have nvo : noSlots [v, o] = true := noSlots_cons (val_slot hv) (noSlots_cons (val_slot ho) rfl)
    have pvo : ([v, o] : List D).all plainD = true := by simp [val_plain hv, val_plain ho]
    repeat (first | with_reducible refine DL.r_seq ?_ | with_reducible refine DL.r_next ?_ | with_reducible refine DL.r_ret ?_ | with_reducible refine DL.r_ifS ?_ | with_reducible refine DL.r_asg ?_ | with_reducible refine DL.r_drop ?_ | with_reducible refine DL.r_c ?_ | with_reducible refine DL.r_nil ?_ | with_reducible refine DL.r_cons ?_ | with_reducible refine DL.r_op ?_ | with_reducible refine DL.r_cb ?_ | with_reducible refine DL.r_ofL ?_ | with_reducible refine DL.r_lst ?_ | with_reducible refine DL.r_tup ?_ | with_reducible refine DL.r_b ?_ | with_reducible refine DL.r_not ?_ | with_reducible refine DL.r_and ?_ | with_reducible refine DL.r_or ?_ | with_reducible refine DL.r_andV ?_ | with_reducible refine DL.r_orV ?_ | with_reducible refine DL.r_notV ?_ | with_reducible refine DL.r_neg ?_ | with_reducible refine DL.r_par ?_ | with_reducible refine DL.r_par3 ?_ | with_reducible refine DL.r_gname ?_ | with_reducible refine DL.r_callO ?_ | (with_reducible apply DL.r_var; focus exact rfl) | with_reducible refine DL.r_if1 ?_ | with_reducible refine DL.r_if0 ?_)
    refine r_call (ds := [.lst [v, o]]) (fun _ h => ⟨by show 2 ≤ sizeLine; decide, nvo, h⟩) rfl ⟨.lst [v, o], rfl, rfl, pvo, ?_⟩
    repeat (first | with_reducible refine DL.r_seq ?_ | with_reducible refine DL.r_next ?_ | with_reducible refine DL.r_ret ?_ | with_reducible refine DL.r_ifS ?_ | with_reducible refine DL.r_asg ?_ | with_reducible refine DL.r_drop ?_ | with_reducible refine DL.r_c ?_ | with_reducible refine DL.r_nil ?_ | with_reducible refine DL.r_cons ?_ | with_reducible refine DL.r_op ?_ | with_reducible refine DL.r_cb ?_ | with_reducible refine DL.r_ofL ?_ | with_reducible refine DL.r_lst ?_ | with_reducible refine DL.r_tup ?_ | with_reducible refine DL.r_b ?_ | with_reducible refine DL.r_not ?_ | with_reducible refine DL.r_and ?_ | with_reducible refine DL.r_or ?_ | with_reducible refine DL.r_andV ?_ | with_reducible refine DL.r_orV ?_ | with_reducible refine DL.r_notV ?_ | with_reducible refine DL.r_neg ?_ | with_reducible refine DL.r_par ?_ | with_reducible refine DL.r_par3 ?_ | with_reducible refine DL.r_gname ?_ | with_reducible refine DL.r_callO ?_ | (with_reducible apply DL.r_var; focus exact rfl) | with_reducible refine DL.r_if1 ?_ | with_reducible refine DL.r_if0 ?_)
    refine r_call (ds := [.tup [v, o]]) (fun _ h => ⟨by show 2 ≤ sizeLine; decide, nvo, h⟩) rfl ⟨.tup [v, o], rfl, rfl, pvo, ?_⟩
    repeat (first | with_reducible refine DL.r_seq ?_ | with_reducible refine DL.r_next ?_ | with_reducible refine DL.r_ret ?_ | with_reducible refine DL.r_ifS ?_ | with_reducible refine DL.r_asg ?_ | with_reducible refine DL.r_drop ?_ | with_reducible refine DL.r_c ?_ | with_reducible refine DL.r_nil ?_ | with_reducible refine DL.r_cons ?_ | with_reducible refine DL.r_op ?_ | with_reducible refine DL.r_cb ?_ | with_reducible refine DL.r_ofL ?_ | with_reducible refine DL.r_lst ?_ | with_reducible refine DL.r_tup ?_ | with_reducible refine DL.r_b ?_ | with_reducible refine DL.r_not ?_ | with_reducible refine DL.r_and ?_ | with_reducible refine DL.r_or ?_ | with_reducible refine DL.r_andV ?_ | with_reducible refine DL.r_orV ?_ | with_reducible refine DL.r_notV ?_ | with_reducible refine DL.r_neg ?_ | with_reducible refine DL.r_par ?_ | with_reducible refine DL.r_par3 ?_ | with_reducible refine DL.r_gname ?_ | with_reducible refine DL.r_callO ?_ | (with_reducible apply DL.r_var; focus exact rfl) | with_reducible refine DL.r_if1 ?_ | with_reducible refine DL.r_if0 ?_)
    refine ⟨by show 2 ≤ sizeLine; decide, rfl, ?_⟩
    repeat (first | with_reducible refine DL.r_seq ?_ | with_reducible refine DL.r_next ?_ | with_reducible refine DL.r_ret ?_ | with_reducible refine DL.r_ifS ?_ | with_reducible refine DL.r_asg ?_ | with_reducible refine DL.r_drop ?_ | with_reducible refine DL.r_c ?_ | with_reducible refine DL.r_nil ?_ | with_reducible refine DL.r_cons ?_ | with_reducible refine DL.r_op ?_ | with_reducible refine DL.r_cb ?_ | with_reducible refine DL.r_ofL ?_ | with_reducible refine DL.r_lst ?_ | with_reducible refine DL.r_tup ?_ | with_reducible refine DL.r_b ?_ | with_reducible refine DL.r_not ?_ | with_reducible refine DL.r_and ?_ | with_reducible refine DL.r_or ?_ | with_reducible refine DL.r_andV ?_ | with_reducible refine DL.r_orV ?_ | with_reducible refine DL.r_notV ?_ | with_reducible refine DL.r_neg ?_ | with_reducible refine DL.r_par ?_ | with_reducible refine DL.r_par3 ?_ | with_reducible refine DL.r_gname ?_ | with_reducible refine DL.r_callO ?_ | (with_reducible apply DL.r_var; focus exact rfl) | with_reducible refine DL.r_if1 ?_ | with_reducible refine DL.r_if0 ?_)
    refine repr_bl2 ?_
    repeat (first | with_reducible refine DL.r_seq ?_ | with_reducible refine DL.r_next ?_ | with_reducible refine DL.r_ret ?_ | with_reducible refine DL.r_ifS ?_ | with_reducible refine DL.r_asg ?_ | with_reducible refine DL.r_drop ?_ | with_reducible refine DL.r_c ?_ | with_reducible refine DL.r_nil ?_ | with_reducible refine DL.r_cons ?_ | with_reducible refine DL.r_op ?_ | with_reducible refine DL.r_cb ?_ | with_reducible refine DL.r_ofL ?_ | with_reducible refine DL.r_lst ?_ | with_reducible refine DL.r_tup ?_ | with_reducible refine DL.r_b ?_ | with_reducible refine DL.r_not ?_ | with_reducible refine DL.r_and ?_ | with_reducible refine DL.r_or ?_ | with_reducible refine DL.r_andV ?_ | with_reducible refine DL.r_orV ?_ | with_reducible refine DL.r_notV ?_ | with_reducible refine DL.r_neg ?_ | with_reducible refine DL.r_par ?_ | with_reducible refine DL.r_par3 ?_ | with_reducible refine DL.r_gname ?_ | with_reducible refine DL.r_callO ?_ | (with_reducible apply DL.r_var; focus exact rfl) | with_reducible refine DL.r_if1 ?_ | with_reducible refine DL.r_if0 ?_)
    refine r_var rfl ?_
    repeat (first | with_reducible refine DL.r_seq ?_ | with_reducible refine DL.r_next ?_ | with_reducible refine DL.r_ret ?_ | with_reducible refine DL.r_ifS ?_ | with_reducible refine DL.r_asg ?_ | with_reducible refine DL.r_drop ?_ | with_reducible refine DL.r_c ?_ | with_reducible refine DL.r_nil ?_ | with_reducible refine DL.r_cons ?_ | with_reducible refine DL.r_op ?_ | with_reducible refine DL.r_cb ?_ | with_reducible refine DL.r_ofL ?_ | with_reducible refine DL.r_lst ?_ | with_reducible refine DL.r_tup ?_ | with_reducible refine DL.r_b ?_ | with_reducible refine DL.r_not ?_ | with_reducible refine DL.r_and ?_ | with_reducible refine DL.r_or ?_ | with_reducible refine DL.r_andV ?_ | with_reducible refine DL.r_orV ?_ | with_reducible refine DL.r_notV ?_ | with_reducible refine DL.r_neg ?_ | with_reducible refine DL.r_par ?_ | with_reducible refine DL.r_par3 ?_ | with_reducible refine DL.r_gname ?_ | with_reducible refine DL.r_callO ?_ | (with_reducible apply DL.r_var; focus exact rfl) | with_reducible refine DL.r_if1 ?_ | with_reducible refine DL.r_if0 ?_)
    refine len_lst ?_
    repeat (first | with_reducible refine DL.r_seq ?_ | with_reducible refine DL.r_next ?_ | with_reducible refine DL.r_ret ?_ | with_reducible refine DL.r_ifS ?_ | with_reducible refine DL.r_asg ?_ | with_reducible refine DL.r_drop ?_ | with_reducible refine DL.r_c ?_ | with_reducible refine DL.r_nil ?_ | with_reducible refine DL.r_cons ?_ | with_reducible refine DL.r_op ?_ | with_reducible refine DL.r_cb ?_ | with_reducible refine DL.r_ofL ?_ | with_reducible refine DL.r_lst ?_ | with_reducible refine DL.r_tup ?_ | with_reducible refine DL.r_b ?_ | with_reducible refine DL.r_not ?_ | with_reducible refine DL.r_and ?_ | with_reducible refine DL.r_or ?_ | with_reducible refine DL.r_andV ?_ | with_reducible refine DL.r_orV ?_ | with_reducible refine DL.r_notV ?_ | with_reducible refine DL.r_neg ?_ | with_reducible refine DL.r_par ?_ | with_reducible refine DL.r_par3 ?_ | with_reducible refine DL.r_gname ?_ | with_reducible refine DL.r_callO ?_ | (with_reducible apply DL.r_var; focus exact rfl) | with_reducible refine DL.r_if1 ?_ | with_reducible refine DL.r_if0 ?_)
    refine eq_int ?_
    rw [hpl]
    repeat (first | with_reducible refine DL.r_seq ?_ | with_reducible refine DL.r_next ?_ | with_reducible refine DL.r_ret ?_ | with_reducible refine DL.r_ifS ?_ | with_reducible refine DL.r_asg ?_ | with_reducible refine DL.r_drop ?_ | with_reducible refine DL.r_c ?_ | with_reducible refine DL.r_nil ?_ | with_reducible refine DL.r_cons ?_ | with_reducible refine DL.r_op ?_ | with_reducible refine DL.r_cb ?_ | with_reducible refine DL.r_ofL ?_ | with_reducible refine DL.r_lst ?_ | with_reducible refine DL.r_tup ?_ | with_reducible refine DL.r_b ?_ | with_reducible refine DL.r_not ?_ | with_reducible refine DL.r_and ?_ | with_reducible refine DL.r_or ?_ | with_reducible refine DL.r_andV ?_ | with_reducible refine DL.r_orV ?_ | with_reducible refine DL.r_notV ?_ | with_reducible refine DL.r_neg ?_ | with_reducible refine DL.r_par ?_ | with_reducible refine DL.r_par3 ?_ | with_reducible refine DL.r_gname ?_ | with_reducible refine DL.r_callO ?_ | (with_reducible apply DL.r_var; focus exact rfl) | with_reducible refine DL.r_if1 ?_ | with_reducible refine DL.r_if0 ?_)
    refine ⟨by show 1 ≤ sizeLine; decide, rfl, ?_⟩
    repeat (first | with_reducible refine DL.r_seq ?_ | with_reducible refine DL.r_next ?_ | with_reducible refine DL.r_ret ?_ | with_reducible refine DL.r_ifS ?_ | with_reducible refine DL.r_asg ?_ | with_reducible refine DL.r_drop ?_ | with_reducible refine DL.r_c ?_ | with_reducible refine DL.r_nil ?_ | with_reducible refine DL.r_cons ?_ | with_reducible refine DL.r_op ?_ | with_reducible refine DL.r_cb ?_ | with_reducible refine DL.r_ofL ?_ | with_reducible refine DL.r_lst ?_ | with_reducible refine DL.r_tup ?_ | with_reducible refine DL.r_b ?_ | with_reducible refine DL.r_not ?_ | with_reducible refine DL.r_and ?_ | with_reducible refine DL.r_or ?_ | with_reducible refine DL.r_andV ?_ | with_reducible refine DL.r_orV ?_ | with_reducible refine DL.r_notV ?_ | with_reducible refine DL.r_neg ?_ | with_reducible refine DL.r_par ?_ | with_reducible refine DL.r_par3 ?_ | with_reducible refine DL.r_gname ?_ | with_reducible refine DL.r_callO ?_ | (with_reducible apply DL.r_var; focus exact rfl) | with_reducible refine DL.r_if1 ?_ | with_reducible refine DL.r_if0 ?_)
    refine ⟨by decide, by decide, by show 1 * 2 ≤ sizeLine; decide, ?_⟩
    repeat (first | with_reducible refine DL.r_seq ?_ | with_reducible refine DL.r_next ?_ | with_reducible refine DL.r_ret ?_ | with_reducible refine DL.r_ifS ?_ | with_reducible refine DL.r_asg ?_ | with_reducible refine DL.r_drop ?_ | with_reducible refine DL.r_c ?_ | with_reducible refine DL.r_nil ?_ | with_reducible refine DL.r_cons ?_ | with_reducible refine DL.r_op ?_ | with_reducible refine DL.r_cb ?_ | with_reducible refine DL.r_ofL ?_ | with_reducible refine DL.r_lst ?_ | with_reducible refine DL.r_tup ?_ | with_reducible refine DL.r_b ?_ | with_reducible refine DL.r_not ?_ | with_reducible refine DL.r_and ?_ | with_reducible refine DL.r_or ?_ | with_reducible refine DL.r_andV ?_ | with_reducible refine DL.r_orV ?_ | with_reducible refine DL.r_notV ?_ | with_reducible refine DL.r_neg ?_ | with_reducible refine DL.r_par ?_ | with_reducible refine DL.r_par3 ?_ | with_reducible refine DL.r_gname ?_ | with_reducible refine DL.r_callO ?_ | (with_reducible apply DL.r_var; focus exact rfl) | with_reducible refine DL.r_if1 ?_ | with_reducible refine DL.r_if0 ?_)
    refine repr_bl2 (ne_same strOk_bl2 (r_if0 (r_next ?_)))
    with_reducible refine r_seq ?_
    change dAsg _ _ _ (S13 .un (.fz .paw) (.fz x) (.fz v) (.fz l) (.fz m) (.fz (.bl (isI v))) (.fz (.bl (geD v l && leD v m))) (.fz o) (.fz t) (.fz (.lst pl)) e11 .un (B - 2 - 2))
    -- what is odd
    have n3 : noSlots [v, o, t] = true := noSlots_cons (val_slot hv) (noSlots_cons (val_slot ho) (noSlots_cons (val_slot ht) rfl))
    repeat (first | with_reducible refine DL.r_seq ?_ | with_reducible refine DL.r_next ?_ | with_reducible refine DL.r_ret ?_ | with_reducible refine DL.r_ifS ?_ | with_reducible refine DL.r_asg ?_ | with_reducible refine DL.r_drop ?_ | with_reducible refine DL.r_c ?_ | with_reducible refine DL.r_nil ?_ | with_reducible refine DL.r_cons ?_ | with_reducible refine DL.r_op ?_ | with_reducible refine DL.r_cb ?_ | with_reducible refine DL.r_ofL ?_ | with_reducible refine DL.r_lst ?_ | with_reducible refine DL.r_tup ?_ | with_reducible refine DL.r_b ?_ | with_reducible refine DL.r_not ?_ | with_reducible refine DL.r_and ?_ | with_reducible refine DL.r_or ?_ | with_reducible refine DL.r_andV ?_ | with_reducible refine DL.r_orV ?_ | with_reducible refine DL.r_notV ?_ | with_reducible refine DL.r_neg ?_ | with_reducible refine DL.r_par ?_ | with_reducible refine DL.r_par3 ?_ | with_reducible refine DL.r_gname ?_ | with_reducible refine DL.r_callO ?_ | (with_reducible apply DL.r_var; focus exact rfl) | with_reducible refine DL.r_if1 ?_ | with_reducible refine DL.r_if0 ?_)
    refine ⟨by show 1 ≤ sizeLine; decide, nv, by show 3 ≤ sizeLine; decide, n3, rfl, rfl, by show 2 ≤ 15; decide, by decide, by show 0 ≤ sizeLine; decide, rfl, by show 2 ≤ sizeLine; decide, rfl, by show 1 ≤ sizeLine; decide, rfl, by show 8 ≤ sizeLine; decide, noSlots_cons rfl (noSlots_cons rfl (noSlots_cons (val_slot hv) rfl)),
      _, rfl, by show 0 < 8; decide, by show 8 < 1000; decide, noSlots_cons rfl (noSlots_cons rfl (noSlots_cons (val_slot hv) rfl)), by show 1 ≤ B - 2 - 2; omega, fun d hd => ⟨rfl, ?_⟩⟩
    have hodd : oddD d = true := by
      simp only [List.mem_cons, List.not_mem_nil, or_false] at hd
      rcases hd with rfl | rfl | rfl | rfl | rfl | rfl | rfl | rfl
      · exact odd_one (val_plain hv)
      · refine odd_three ?_
        rw [val_plain hv, val_plain ho, val_plain ht]
        rfl
      · exact val_odd hv
      all_goals rfl
    refine ⟨odd_slot hodd, r_gname ?_⟩
    with_reducible refine r_seq ?_
    change dAsg _ _ _ (S13 .un (.fz .paw) (.fz x) (.fz v) (.fz l) (.fz m) (.fz (.bl (isI v))) (.fz (.bl (geD v l && leD v m))) (.fz o) (.fz t) (.fz (.lst pl)) (.fz d) .un (B - 2 - 2 - 1))
    refine r_asg (r_last hodd fun z' => ⟨rfl, r_gname ?_⟩)
    with_reducible refine r_ifS ?_
    repeat (first | with_reducible refine DL.r_seq ?_ | with_reducible refine DL.r_next ?_ | with_reducible refine DL.r_ret ?_ | with_reducible refine DL.r_ifS ?_ | with_reducible refine DL.r_asg ?_ | with_reducible refine DL.r_drop ?_ | with_reducible refine DL.r_c ?_ | with_reducible refine DL.r_nil ?_ | with_reducible refine DL.r_cons ?_ | with_reducible refine DL.r_op ?_ | with_reducible refine DL.r_cb ?_ | with_reducible refine DL.r_ofL ?_ | with_reducible refine DL.r_lst ?_ | with_reducible refine DL.r_tup ?_ | with_reducible refine DL.r_b ?_ | with_reducible refine DL.r_not ?_ | with_reducible refine DL.r_and ?_ | with_reducible refine DL.r_or ?_ | with_reducible refine DL.r_andV ?_ | with_reducible refine DL.r_orV ?_ | with_reducible refine DL.r_notV ?_ | with_reducible refine DL.r_neg ?_ | with_reducible refine DL.r_par ?_ | with_reducible refine DL.r_par3 ?_ | with_reducible refine DL.r_gname ?_ | with_reducible refine DL.r_callO ?_ | (with_reducible apply DL.r_var; focus exact rfl) | with_reducible refine DL.r_if1 ?_ | with_reducible refine DL.r_if0 ?_)
    refine r_call (ds := [d]) (fun _ h => h) (noSlots_cons (odd_slot hodd) rfl) ⟨d, rfl, odd_plain hodd, odd_parts hodd, ?_⟩
    repeat (first | with_reducible refine DL.r_seq ?_ | with_reducible refine DL.r_next ?_ | with_reducible refine DL.r_ret ?_ | with_reducible refine DL.r_ifS ?_ | with_reducible refine DL.r_asg ?_ | with_reducible refine DL.r_drop ?_ | with_reducible refine DL.r_c ?_ | with_reducible refine DL.r_nil ?_ | with_reducible refine DL.r_cons ?_ | with_reducible refine DL.r_op ?_ | with_reducible refine DL.r_cb ?_ | with_reducible refine DL.r_ofL ?_ | with_reducible refine DL.r_lst ?_ | with_reducible refine DL.r_tup ?_ | with_reducible refine DL.r_b ?_ | with_reducible refine DL.r_not ?_ | with_reducible refine DL.r_and ?_ | with_reducible refine DL.r_or ?_ | with_reducible refine DL.r_andV ?_ | with_reducible refine DL.r_orV ?_ | with_reducible refine DL.r_notV ?_ | with_reducible refine DL.r_neg ?_ | with_reducible refine DL.r_par ?_ | with_reducible refine DL.r_par3 ?_ | with_reducible refine DL.r_gname ?_ | with_reducible refine DL.r_callO ?_ | (with_reducible apply DL.r_var; focus exact rfl) | with_reducible refine DL.r_if1 ?_ | with_reducible refine DL.r_if0 ?_)
    refine repr_bl ?_
    repeat (first | with_reducible refine DL.r_seq ?_ | with_reducible refine DL.r_next ?_ | with_reducible refine DL.r_ret ?_ | with_reducible refine DL.r_ifS ?_ | with_reducible refine DL.r_asg ?_ | with_reducible refine DL.r_drop ?_ | with_reducible refine DL.r_c ?_ | with_reducible refine DL.r_nil ?_ | with_reducible refine DL.r_cons ?_ | with_reducible refine DL.r_op ?_ | with_reducible refine DL.r_cb ?_ | with_reducible refine DL.r_ofL ?_ | with_reducible refine DL.r_lst ?_ | with_reducible refine DL.r_tup ?_ | with_reducible refine DL.r_b ?_ | with_reducible refine DL.r_not ?_ | with_reducible refine DL.r_and ?_ | with_reducible refine DL.r_or ?_ | with_reducible refine DL.r_andV ?_ | with_reducible refine DL.r_orV ?_ | with_reducible refine DL.r_notV ?_ | with_reducible refine DL.r_neg ?_ | with_reducible refine DL.r_par ?_ | with_reducible refine DL.r_par3 ?_ | with_reducible refine DL.r_gname ?_ | with_reducible refine DL.r_callO ?_ | (with_reducible apply DL.r_var; focus exact rfl) | with_reducible refine DL.r_if1 ?_ | with_reducible refine DL.r_if0 ?_)
    refine r_var rfl ?_
    repeat (first | with_reducible refine DL.r_seq ?_ | with_reducible refine DL.r_next ?_ | with_reducible refine DL.r_ret ?_ | with_reducible refine DL.r_ifS ?_ | with_reducible refine DL.r_asg ?_ | with_reducible refine DL.r_drop ?_ | with_reducible refine DL.r_c ?_ | with_reducible refine DL.r_nil ?_ | with_reducible refine DL.r_cons ?_ | with_reducible refine DL.r_op ?_ | with_reducible refine DL.r_cb ?_ | with_reducible refine DL.r_ofL ?_ | with_reducible refine DL.r_lst ?_ | with_reducible refine DL.r_tup ?_ | with_reducible refine DL.r_b ?_ | with_reducible refine DL.r_not ?_ | with_reducible refine DL.r_and ?_ | with_reducible refine DL.r_or ?_ | with_reducible refine DL.r_andV ?_ | with_reducible refine DL.r_orV ?_ | with_reducible refine DL.r_notV ?_ | with_reducible refine DL.r_neg ?_ | with_reducible refine DL.r_par ?_ | with_reducible refine DL.r_par3 ?_ | with_reducible refine DL.r_gname ?_ | with_reducible refine DL.r_callO ?_ | (with_reducible apply DL.r_var; focus exact rfl) | with_reducible refine DL.r_if1 ?_ | with_reducible refine DL.r_if0 ?_)
    refine repr_bl (ne_same strOk_bl (r_if0 (r_next ?_)))
    refine ih _ ⟨fun x hx' => hx x (List.mem_cons_of_mem _ hx'), _, _, _, _, _, _, _, _, _, _, _, _, rfl, ?_⟩
    show 9 * xs.length ≤ B - 2 - 2 - 1
    rw [List.length_cons] at hb
    omega
  · have hx' : x ∈ nums 0 (8 : Int).toNat := hx
    unfold nums at hx'
    obtain ⟨i, _, rfl⟩ := List.mem_map.mp hx'
    exact ⟨_, rfl⟩
  · show 9 * (nums 0 (8 : Int).toNat).length ≤ 1000000
    rw [nums_length]
    decide
end
end K02

namespace K02
open PySem L2 DL
section
variable {P : Program} {w : World} {K : PySem.W.Frag} {mg : Str → Option Value} {base : Heap}
theorem ok_law {f : Addr} {fd : FuncData} (F : Fun K "law" "law" s_law f fd) (T : Txt2 K mg) (G : Calls P w K mg base) (Gp : FnS P w K mg base 1 "_law_paw" s__law_paw ["script"] (spDen K)) : FnOkG P w K mg base 5 f fd ["script"] (spLaw K) := by
  refine FunS F sc_law spLaw_len fun cdv A outer s H vs Q E hr hgd h => ?_
  obtain ⟨a, ns, rfl, hS, hl, k⟩ := h
  obtain ⟨ts, t, hp, q⟩ := law_body (P := P) (w := w) (base := base) T G (A := A) (outer := outer) (f := f) (cdv := cdv) (s := s) (H := H) (E := E) hr hgd
  have nd := sc_law.nd
  refine ⟨_, pss_cons (ps_set (i := 1) nd rfl (.inl rfl) (pe_callS Gp (hr.mono (by decide)) hgd (pa_cons (pv 0) pa_nil))) hp.ps.nox, ?_⟩
  exact lawStart (n := 11) rfl hS hl (fun H => k H) hp.snd q
end
theorem all_mk {l : PySem.W.OpenLaw} {w : World} {K : PySem.W.Frag} {h : Heap} {mg : Str → Option Value} {fa f0 f1 f2 f3 f4 f5 f6 f7 f8 f9 : Addr} (X : K.In h) (G : h.Ns mainGlobals mg) (hfa : mg "law" = some (.ref fa))
    {od0 an0 od1 an1 od2 an2 od3 an3 od4 an4 od5 an5 od6 an6 od7 an7 od8 an8 od9 an9 : Option Addr} {sl0 sl1 sl2 sl3 sl4 sl5 sl6 sl7 sl8 sl9 : Array (Option Value)} {oc0 kV0 dc0 pm0 cd0 ct0 oc1 kV1 dc1 pm1 cd1 ct1 oc2 kV2 dc2 pm2 cd2 ct2 oc3 kV3 dc3 pm3 cd3 ct3 oc4 kV4 dc4 pm4 cd4 ct4 oc5 kV5 dc5 pm5 cd5 ct5 oc6 kV6 dc6 pm6 cd6 ct6 oc7 kV7 dc7 pm7 cd7 ct7 oc8 kV8 dc8 pm8 cd8 ct8 oc9 kV9 dc9 pm9 cd9 ct9 : Value} {t_FARTHEST : Tok}
    (a0 : PySem.W.nsIn K mainGlobals "is_integer" = some (some (.ref f0))) (l0 : K.lookup f0 = some ⟨oc0, od0, .func (PySem.W.fnOf "is_integer" "is_integer" (defArgs s_is_integer) (defBody s_is_integer) (defScope s_is_integer) .none kV0 dc0 pm0 an0 cd0 ct0), sl0⟩) (c0 : PySem.W.codeIn K cd0 "is_integer" = true) (k0 : PySem.W.keepIn K (.ref f0) = true)
    (a1 : PySem.W.nsIn K mainGlobals "is_within" = some (some (.ref f1))) (l1 : K.lookup f1 = some ⟨oc1, od1, .func (PySem.W.fnOf "is_within" "is_within" (defArgs s_is_within) (defBody s_is_within) (defScope s_is_within) .none kV1 dc1 pm1 an1 cd1 ct1), sl1⟩) (c1 : PySem.W.codeIn K cd1 "is_within" = true) (k1 : PySem.W.keepIn K (.ref f1) = true)
    (a2 : PySem.W.nsIn K mainGlobals "is_cell" = some (some (.ref f2))) (l2 : K.lookup f2 = some ⟨oc2, od2, .func (PySem.W.fnOf "is_cell" "is_cell" (defArgs s_is_cell) (defBody s_is_cell) (defScope s_is_cell) .none kV2 dc2 pm2 an2 cd2 ct2), sl2⟩) (c2 : PySem.W.codeIn K cd2 "is_cell" = true) (k2 : PySem.W.keepIn K (.ref f2) = true)
    (a3 : PySem.W.nsIn K mainGlobals "is_side" = some (some (.ref f3))) (l3 : K.lookup f3 = some ⟨oc3, od3, .func (PySem.W.fnOf "is_side" "is_side" (defArgs s_is_side) (defBody s_is_side) (defScope s_is_side) .none kV3 dc3 pm3 an3 cd3 ct3), sl3⟩) (c3 : PySem.W.codeIn K cd3 "is_side" = true) (k3 : PySem.W.keepIn K (.ref f3) = true)
    (a4 : PySem.W.nsIn K mainGlobals "_law_paw" = some (some (.ref f4))) (l4 : K.lookup f4 = some ⟨oc4, od4, .func (PySem.W.fnOf "_law_paw" "_law_paw" (defArgs s__law_paw) (defBody s__law_paw) (defScope s__law_paw) .none kV4 dc4 pm4 an4 cd4 ct4), sl4⟩) (c4 : PySem.W.codeIn K cd4 "_law_paw" = true) (k4 : PySem.W.keepIn K (.ref f4) = true)
    (a5 : PySem.W.nsIn K mainGlobals "_law_tell" = some (some (.ref f5))) (l5 : K.lookup f5 = some ⟨oc5, od5, .func (PySem.W.fnOf "_law_tell" "_law_tell" (defArgs s__law_tell) (defBody s__law_tell) (defScope s__law_tell) .none kV5 dc5 pm5 an5 cd5 ct5), sl5⟩) (c5 : PySem.W.codeIn K cd5 "_law_tell" = true) (k5 : PySem.W.keepIn K (.ref f5) = true)
    (a6 : PySem.W.nsIn K mainGlobals "_law_pick" = some (some (.ref f6))) (l6 : K.lookup f6 = some ⟨oc6, od6, .func (PySem.W.fnOf "_law_pick" "_law_pick" (defArgs s__law_pick) (defBody s__law_pick) (defScope s__law_pick) .none kV6 dc6 pm6 an6 cd6 ct6), sl6⟩) (c6 : PySem.W.codeIn K cd6 "_law_pick" = true) (k6 : PySem.W.keepIn K (.ref f6) = true)
    (a7 : PySem.W.nsIn K mainGlobals "_law_value" = some (some (.ref f7))) (l7 : K.lookup f7 = some ⟨oc7, od7, .func (PySem.W.fnOf "_law_value" "_law_value" (defArgs s__law_value) (defBody s__law_value) (defScope s__law_value) .none kV7 dc7 pm7 an7 cd7 ct7), sl7⟩) (c7 : PySem.W.codeIn K cd7 "_law_value" = true) (k7 : PySem.W.keepIn K (.ref f7) = true)
    (a8 : PySem.W.nsIn K mainGlobals "_law_is_integer" = some (some (.ref f8))) (l8 : K.lookup f8 = some ⟨oc8, od8, .func (PySem.W.fnOf "_law_is_integer" "_law_is_integer" (defArgs s__law_is_integer) (defBody s__law_is_integer) (defScope s__law_is_integer) .none kV8 dc8 pm8 an8 cd8 ct8), sl8⟩) (c8 : PySem.W.codeIn K cd8 "_law_is_integer" = true) (k8 : PySem.W.keepIn K (.ref f8) = true)
    (a9 : PySem.W.nsIn K mainGlobals "law" = some (some (.ref f9))) (l9 : K.lookup f9 = some ⟨oc9, od9, .func (PySem.W.fnOf "law" "law" (defArgs s_law) (defBody s_law) (defScope s_law) .none kV9 dc9 pm9 an9 cd9 ct9), sl9⟩) (c9 : PySem.W.codeIn K cd9 "law" = true) (k9 : PySem.W.keepIn K (.ref f9) = true)
    (g_FARTHEST : PySem.W.nsIn K mainGlobals "FARTHEST" = some (some (.int 1000000 t_FARTHEST)))
    (z_isinstance : PySem.W.nsIn K mainGlobals "isinstance" = some none)
    (z_bool : PySem.W.nsIn K mainGlobals "bool" = some none)
    (z_list : PySem.W.nsIn K mainGlobals "list" = some none)
    (z_tuple : PySem.W.nsIn K mainGlobals "tuple" = some none)
    (z_range : PySem.W.nsIn K mainGlobals "range" = some none)
    (z_repr : PySem.W.nsIn K mainGlobals "repr" = some none)
    (z_int : PySem.W.nsIn K mainGlobals "int" = some none)
    (z_abs : PySem.W.nsIn K mainGlobals "abs" = some none)
    (z_len : PySem.W.nsIn K mainGlobals "len" = some none) :
    ∃ fd : FuncData, (∀ (s : Shared) (v : Value), BindsTo s fd ⟨[v], []⟩ [("script", v)]) ∧ ∀ base : Heap, K.In base → base.Ns mainGlobals mg → FnOkG l.prog w K mg base 5 fa fd ["script"] (spLaw K) := by
  have e := hfa.symm.trans (PySem.W.mg_of X G a9)
  cases e
  have D0 : Dfn K mg "is_integer" s_is_integer ["value"] := dfn_mk X G (fun _ _ _ _ _ _ us hl => match us, hl with | [_], _ => rfl) a0 l0 c0 k0
  have D1 : Dfn K mg "is_within" s_is_within ["value", "least", "most"] := dfn_mk X G (fun _ _ _ _ _ _ us hl => match us, hl with | [_, _, _], _ => rfl) a1 l1 c1 k1
  have D2 : Dfn K mg "is_cell" s_is_cell ["value"] := dfn_mk X G (fun _ _ _ _ _ _ us hl => match us, hl with | [_], _ => rfl) a2 l2 c2 k2
  have D3 : Dfn K mg "is_side" s_is_side ["value"] := dfn_mk X G (fun _ _ _ _ _ _ us hl => match us, hl with | [_], _ => rfl) a3 l3 c3 k3
  have D4 : Dfn K mg "_law_paw" s__law_paw ["script"] := dfn_mk X G (fun _ _ _ _ _ _ us hl => match us, hl with | [_], _ => rfl) a4 l4 c4 k4
  have D5 : Dfn K mg "_law_tell" s__law_tell ["paw", "many"] := dfn_mk X G (fun _ _ _ _ _ _ us hl => match us, hl with | [_, _], _ => rfl) a5 l5 c5 k5
  have D6 : Dfn K mg "_law_pick" s__law_pick ["paw", "some"] := dfn_mk X G (fun _ _ _ _ _ _ us hl => match us, hl with | [_, _], _ => rfl) a6 l6 c6 k6
  have D7 : Dfn K mg "_law_value" s__law_value ["paw"] := dfn_mk X G (fun _ _ _ _ _ _ us hl => match us, hl with | [_], _ => rfl) a7 l7 c7 k7
  have D8 : Dfn K mg "_law_is_integer" s__law_is_integer ["value"] := dfn_mk X G (fun _ _ _ _ _ _ us hl => match us, hl with | [_], _ => rfl) a8 l8 c8 k8
  exact ⟨PySem.W.fnOf "law" "law" (defArgs s_law) (defBody s_law) (defScope s_law) .none kV9 dc9 pm9 an9 cd9 ct9, fun s v => .of_eq rfl, fun base _ _ => by
    have T0 : Txt K mg := ⟨PySem.W.mg_none_of X G z_int, PySem.W.mg_none_of X G z_abs, PySem.W.mg_none_of X G z_len⟩
    have T : Txt2 K mg := ⟨T0, PySem.W.mg_none_of X G z_isinstance, PySem.W.mg_none_of X G z_bool, PySem.W.mg_none_of X G z_list, PySem.W.mg_none_of X G z_tuple, PySem.W.mg_none_of X G z_range, PySem.W.mg_none_of X G z_repr, PySem.W.mg_none_of X G z_int, PySem.W.mg_none_of X G z_abs, PySem.W.mg_none_of X G z_len, _, PySem.W.mg_of X G g_FARTHEST⟩
    have Gi := ok_is_integer (P := l.prog) (w := w) (base := base) D0 T
    have Gw := ok_is_within D1 Gi T
    have Gt : Fn l.prog w K mg base 1 "_law_tell" s__law_tell ["paw", "many"] CTell := fnOf_ok D5 fun f fd F => ok_tell F T0
    have Gk := ok_pick D6 Gt T
    exact ok_law (fun_mk (st := s_law) l9 c9 k9) T ⟨Gi, Gw, ok_is_cell D2 Gw T, ok_is_side D3 Gw T, Gk, ok_value D7 Gt Gk T, ok_law_int D8 T⟩ (fnS D4 fun f fd F => ok_paw F T0)⟩
theorem my_walk {l : PySem.W.OpenLaw} {q : Program} {loose : List Str} {XP : (Str → Option Value) → Heap → Prop} {YP : World → Heap → Prop} {d : DefRec} {K : Params → PySem.W.Frag} (hn : l.most = some 63) (hdf : d.params.defaults = [])
    (hY : ∀ (w : World) (h : Heap), YP w h → (K w.params).In h)
    (F : ∀ (w : World) (mg : Str → Option Value) (fa : Addr) (h : Heap), (K w.params).In h → h.Ns mainGlobals mg → mg d.name = some (.ref fa) →
      ∃ fd : FuncData, (∀ (s : Shared) (u : Value), BindsTo s fd ⟨[u], []⟩ [("script", u)]) ∧ ∀ base : Heap, (K w.params).In base → base.Ns mainGlobals mg → FnOkG l.prog w (K w.params) mg base 5 fa fd ["script"] (spLaw (K w.params))) :
    PySem.W.WalkO q loose XP YP l.row.toRowW d [] (fun f vs => PySem.call f vs) :=
  walkG (n := 63) (k := 5) (x := "script") (sp := fun K => spLaw K) hn (by decide) hdf ⟨rfl, by decide, by decide⟩ hY F (fun K H a ns hl _ hS => ⟨a, ns, rfl, hS, hl, fun _ => rfl⟩)
end K02
open PySem PySem.W PyProof.Rows in
set_option maxRecDepth 100000 in
set_option maxHeartbeats 0 in
theorem PySem.Challenge.cw_fourstones_k02_what_any_value_is_holds : PySem.Challenge.rw_fourstones_k02_what_any_value_is.Holds := by
  w_on; o_law; k_head; (case hw => w_witness2)
  k_fill
  refine K02.my_walk (l := PySem.Challenge.rw_fourstones_k02_what_any_value_is) rfl rfl (fun w h Y => PySem.W.kIn_of Y) ?F
  case F =>
    intro w mg fa h KX G hmg
    refine' K02.all_mk KX G hmg ?a0 ?l0 ?c0 ?k0 ?a1 ?l1 ?c1 ?k1 ?a2 ?l2 ?c2 ?k2 ?a3 ?l3 ?c3 ?k3 ?a4 ?l4 ?c4 ?k4 ?a5 ?l5 ?c5 ?k5 ?a6 ?l6 ?c6 ?k6 ?a7 ?l7 ?c7 ?k7 ?a8 ?l8 ?c8 ?k8 ?a9 ?l9 ?c9 ?k9 ?g_FARTHEST ?z_isinstance ?z_bool ?z_list ?z_tuple ?z_range ?z_repr ?z_int ?z_abs ?z_len
    (case a0 => k_is)
    (case l0 => k_is)
    (case c0 => k_is)
    (case k0 => k_is)
    (case a1 => k_is)
    (case l1 => k_is)
    (case c1 => k_is)
    (case k1 => k_is)
    (case a2 => k_is)
    (case l2 => k_is)
    (case c2 => k_is)
    (case k2 => k_is)
    (case a3 => k_is)
    (case l3 => k_is)
    (case c3 => k_is)
    (case k3 => k_is)
    (case a4 => k_is)
    (case l4 => k_is)
    (case c4 => k_is)
    (case k4 => k_is)
    (case a5 => k_is)
    (case l5 => k_is)
    (case c5 => k_is)
    (case k5 => k_is)
    (case a6 => k_is)
    (case l6 => k_is)
    (case c6 => k_is)
    (case k6 => k_is)
    (case a7 => k_is)
    (case l7 => k_is)
    (case c7 => k_is)
    (case k7 => k_is)
    (case a8 => k_is)
    (case l8 => k_is)
    (case c8 => k_is)
    (case k8 => k_is)
    (case a9 => k_is)
    (case l9 => k_is)
    (case c9 => k_is)
    (case k9 => k_is)
    (case g_FARTHEST => k_is)
    (case z_isinstance => k_is)
    (case z_bool => k_is)
    (case z_list => k_is)
    (case z_tuple => k_is)
    (case z_range => k_is)
    (case z_repr => k_is)
    (case z_int => k_is)
    (case z_abs => k_is)
    (case z_len => k_is)
#print axioms PySem.Challenge.cw_fourstones_k02_what_any_value_is_holds
