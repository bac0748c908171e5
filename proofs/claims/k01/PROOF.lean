import PyProof.Rows.All
import Wide.All
import OpenK.AllK
import Wide.FinOn
import HandS.ForMost
import HandS.IsInst
import HandS.Deep
import HandS.RaiseMore
import HandS.NoneIn
import PyProof.ReprRoads
import HandS.Style
import HandS.ExcInit
import HandS.ExcField
import HandS.ExcIs
import HandS.Nested
import HandS.FStr
import KE.KExcSuper
import PyProof.ReprDict
import KE.KExcIs
import HandS.ForExc
import HandS.Codes
import HandS.WideBits
import KE.KTypeName
import PyProof.InstNe
import KE.KEqNest
import HandS.DeepEq
import HandS.Star
import HandS.TupAny
import PySem.Challenge.RW_fourstones_k01_papers_keep_what_they_tel
set_option Elab.async false
set_option linter.all false
set_option maxRecDepth 100000
set_option maxHeartbeats 4000000
/-! DL: data without addresses over the hand layer. -/
namespace DL
open PySem L2

/-- data -/
inductive D where
  | non | bl (b : Bool) | int (i : Int) | str (x : Str)
  | tup (xs : List D) | lst (xs : List D)
  /-- a tuple of the written part -/
  | kon (xs : List D)
  | obj (C : Addr) (fs : List (Str × D))
  /-- an own error that was made -/
  | exc (C : Addr) (fs : List (Str × D))
  | dT (kvs : List (List Key × D))
  | dK (kvs : List (Key × D))
  | raw (v : V)
  /-- the well of draws -/
  | paw
  /-- what a slot owns, looked up when it is used -/
  | slot (i : Nat)

/-- a world: what changes (and so is no data), the heap, the well of draws -/
structure Wd where
  M : Addr → Prop
  H : Hp
  pa : Addr

/-- a tuple: tracked, or of the written part -/
def KTup (K : PySem.W.Frag) (a : Addr) (xs : List V) : Prop := ∃ (o : Obj) (its : Array Value) (n : Nat), K.lookup a = some o ∧ o.cls = .type "tuple" ∧ o.data = .seq its n ∧ its.size ≤ sizeLine ∧ Vals xs its.toList
def TupV (K : PySem.W.Frag) (H : Hp) (a : Addr) (xs : List V) : Prop := H a = some (.tup xs) ∨ KTup K a xs
theorem TupV.sq {K : PySem.W.Frag} {H : Hp} {a : Addr} {xs : List V} (h : TupV K H a xs) : SqT K H a xs := h.imp (fun z => .inl z) id
mutual
inductive Rep (K : PySem.W.Frag) (W : Wd) : V → D → Prop
  | non : Rep K W .non .non
  | bl (b : Bool) : Rep K W (.bl b) (.bl b)
  | int (i : Int) : Rep K W (.int i) (.int i)
  | str (x : Str) : Rep K W (.str x) (.str x)
  | tup {a : Addr} {vs : List V} {ds : List D} : W.H a = some (.tup vs) → Reps K W vs ds → Rep K W (.ref a) (.tup ds)
  | kon {a : Addr} {vs : List V} {ds : List D} : KTup K a vs → Reps K W vs ds → Rep K W (.ref a) (.kon ds)
  | lst {a : Addr} {vs : List V} {ds : List D} : W.H a = some (.lst vs) → ¬ W.M a → Reps K W vs ds → Rep K W (.ref a) (.lst ds)
  | obj {a C dx : Addr} {vs : List (Str × V)} {fs : List (Str × D)} : W.H a = some (.ins C dx vs) → ¬ W.M a → vs.map (·.1) = fs.map (·.1) → Reps K W (vs.map (·.2)) (fs.map (·.2)) → Rep K W (.ref a) (.obj C fs)
  | exc {a C d : Addr} {vs : List (Str × V)} {fs : List (Str × D)} : W.H a = some (exo a C (some d)) → ¬ W.M a → W.H d = some (exd d vs) → ¬ W.M d → vs.map (·.1) = fs.map (·.1) → Reps K W (vs.map (·.2)) (fs.map (·.2)) → Rep K W (.ref a) (.exc C fs)
  | dT {a : Addr} {vs : List (List Key × V)} {kvs : List (List Key × D)} : W.H a = some (.dT vs) → ¬ W.M a → vs.map (·.1) = kvs.map (·.1) → Reps K W (vs.map (·.2)) (kvs.map (·.2)) → Rep K W (.ref a) (.dT kvs)
  | dK {a : Addr} {vs : List (Key × V)} {kvs : List (Key × D)} : W.H a = some (.dK vs) → ¬ W.M a → vs.map (·.1) = kvs.map (·.1) → Reps K W (vs.map (·.2)) (kvs.map (·.2)) → Rep K W (.ref a) (.dK kvs)
  | raw (v : V) : Rep K W v (.raw v)
  | paw : Rep K W (.ref W.pa) .paw
inductive Reps (K : PySem.W.Frag) (W : Wd) : List V → List D → Prop
  | nil : Reps K W [] []
  | cons {v : V} {d : D} {vs : List V} {ds : List D} : Rep K W v d → Reps K W vs ds → Reps K W (v :: vs) (d :: ds)
end

/-- what never changes by its kind -/
def Fix : HO → Prop
  | .tup _ => True
  | .frz _ _ => True
  | _ => False
/-- later worlds -/
structure Pr (W W' : Wd) : Prop where
  at_ : ∀ a o, W.H a = some o → (¬ W.M a ∨ Fix o) → W'.H a = some o ∧ (¬ W.M a → ¬ W'.M a)
  pa : W'.pa = W.pa
theorem Pr.refl (W : Wd) : Pr W W := ⟨fun _ _ h _ => ⟨h, id⟩, rfl⟩
theorem Pr.trans {W W1 W2 : Wd} (a : Pr W W1) (b : Pr W1 W2) : Pr W W2 := ⟨fun x o h c => by
  obtain ⟨h1, m1⟩ := a.at_ x o h c
  have c' : ¬ W1.M x ∨ Fix o := c.imp m1 id
  obtain ⟨h2, m2⟩ := b.at_ x o h1 c'
  exact ⟨h2, fun n => m2 (m1 n)⟩, b.pa.trans a.pa⟩
theorem Pr.sqT {K : PySem.W.Frag} {W W' : Wd} (p : Pr W W') {a : Addr} {xs : List V} (h : TupV K W.H a xs) : TupV K W'.H a xs := h.imp (fun z => (p.at_ a _ z (.inr (show Fix (.tup xs) from trivial))).1) id
mutual
theorem Rep.mono {K : PySem.W.Frag} {W W' : Wd} (p : Pr W W') : ∀ {v : V} {d : D}, Rep K W v d → Rep K W' v d
  | _, _, .non => .non
  | _, _, .bl b => .bl b
  | _, _, .int i => .int i
  | _, _, .str x => .str x
  | _, _, .tup h r => .tup (p.at_ _ _ h (.inr trivial)).1 (Reps.mono p r)
  | _, _, .kon h r => .kon h (Reps.mono p r)
  | _, _, .lst h n r => .lst (p.at_ _ _ h (.inl n)).1 ((p.at_ _ _ h (.inl n)).2 n) (Reps.mono p r)
  | _, _, .obj h n e r => .obj (p.at_ _ _ h (.inl n)).1 ((p.at_ _ _ h (.inl n)).2 n) e (Reps.mono p r)
  | _, _, .exc h n h2 n2 e r => .exc (p.at_ _ _ h (.inl n)).1 ((p.at_ _ _ h (.inl n)).2 n) (p.at_ _ _ h2 (.inl n2)).1 ((p.at_ _ _ h2 (.inl n2)).2 n2) e (Reps.mono p r)
  | _, _, .dT h n e r => .dT (p.at_ _ _ h (.inl n)).1 ((p.at_ _ _ h (.inl n)).2 n) e (Reps.mono p r)
  | _, _, .dK h n e r => .dK (p.at_ _ _ h (.inl n)).1 ((p.at_ _ _ h (.inl n)).2 n) e (Reps.mono p r)
  | _, _, .raw v => .raw v
  | _, _, .paw => p.pa ▸ .paw
theorem Reps.mono {K : PySem.W.Frag} {W W' : Wd} (p : Pr W W') : ∀ {vs : List V} {ds : List D}, Reps K W vs ds → Reps K W' vs ds
  | _, _, .nil => .nil
  | _, _, .cons a r => .cons (Rep.mono p a) (Reps.mono p r)
end
section
variable {K : PySem.W.Frag} {W : Wd}
theorem Reps.length : ∀ {vs : List V} {ds : List D}, Reps K W vs ds → vs.length = ds.length
  | _, _, .nil => rfl
  | _, _, .cons _ r => congrArg Nat.succ r.length
theorem Reps.append : ∀ {vs ws : List V} {ds es : List D}, Reps K W vs ds → Reps K W ws es → Reps K W (vs ++ ws) (ds ++ es)
  | _, _, _, _, .nil, s => s
  | _, _, _, _, .cons a r, s => .cons a (r.append s)
theorem Reps.get : ∀ {vs : List V} {ds : List D} {i : Nat} {d : D}, Reps K W vs ds → ds[i]? = some d → ∃ v, vs[i]? = some v ∧ Rep K W v d
  | _, _, _, _, .nil, h => by simp at h
  | _, _, 0, _, .cons (v := v) a _, h => by simp at h; subst h; exact ⟨v, rfl, a⟩
  | _, _, i + 1, d, .cons _ r, h => by
    obtain ⟨v, h1, h2⟩ := r.get (i := i) (d := d) (by simpa using h)
    exact ⟨v, by simpa using h1, h2⟩
theorem Reps.get' : ∀ {vs : List V} {ds : List D} {i : Nat} {v : V}, Reps K W vs ds → vs[i]? = some v → ∃ d, ds[i]? = some d ∧ Rep K W v d
  | _, _, _, _, .nil, h => by simp at h
  | _, _, 0, _, .cons (d := d) a _, h => by simp at h; subst h; exact ⟨d, rfl, a⟩
  | _, _, i + 1, d, .cons _ r, h => by
    obtain ⟨v, h1, h2⟩ := r.get' (i := i) (v := d) (by simpa using h)
    exact ⟨v, by simpa using h1, h2⟩
theorem Reps.drop : ∀ {vs : List V} {ds : List D} (n : Nat), Reps K W vs ds → Reps K W (vs.drop n) (ds.drop n)
  | _, _, 0, r => r
  | _, _, _ + 1, .nil => .nil
  | _, _, n + 1, .cons _ r => r.drop n
theorem Reps.take : ∀ {vs : List V} {ds : List D} (n : Nat), Reps K W vs ds → Reps K W (vs.take n) (ds.take n)
  | _, _, 0, _ => .nil
  | _, _, _ + 1, .nil => .nil
  | _, _, n + 1, .cons a r => .cons a (r.take n)
theorem Reps.set {v : V} {d : D} (a : Rep K W v d) : ∀ {vs : List V} {ds : List D} (i : Nat), Reps K W vs ds → Reps K W (vs.set i v) (ds.set i d)
  | _, _, _, .nil => .nil
  | _, _, 0, .cons _ t => .cons a t
  | _, _, i + 1, .cons q t => .cons q (Reps.set a i t)
theorem Reps.eraseIdx : ∀ {vs : List V} {ds : List D} (i : Nat), Reps K W vs ds → Reps K W (vs.eraseIdx i) (ds.eraseIdx i)
  | _, _, _, .nil => .nil
  | _, _, 0, .cons _ t => t
  | _, _, i + 1, .cons q t => .cons q (Reps.eraseIdx i t)
theorem Reps.dropLast {vs : List V} {ds : List D} (r : Reps K W vs ds) : Reps K W vs.dropLast ds.dropLast := by
  rw [List.dropLast_eq_take, List.dropLast_eq_take, r.length]
  exact r.take _
theorem Reps.reverse : ∀ {vs : List V} {ds : List D}, Reps K W vs ds → Reps K W vs.reverse ds.reverse
  | _, _, .nil => .nil
  | _, _, .cons a r => by
    rw [List.reverse_cons, List.reverse_cons]
    exact r.reverse.append (.cons a .nil)
theorem reps_ints : ∀ {vs : List V} {ns : List Int}, Reps K W vs (ns.map D.int) → vs = ns.map V.int
  | _, [], .nil => rfl
  | _, n :: ns, .cons a r => by
    cases a
    rw [reps_ints r]
    rfl
theorem ints_reps : ∀ {ns : List Int}, Reps K W (ns.map V.int) (ns.map D.int)
  | [] => .nil
  | n :: _ => .cons (.int n) ints_reps
end

/-! ### the state of a def: its slots, its draws -/
inductive EV where
  | un
  | fz (d : D)
  | own (xs : List D)
  | ownT (kvs : List (List Key × D))
  | ownK (kvs : List (Key × D))
  | ownI (l dx C : Addr) (fs : List (Str × D))
structure DS where
  sl : List EV
  bud : Nat
def EV.isOwn : EV → Bool
  | .un => false
  | .fz _ => false
  | _ => true

/-- the fixed things of a def's run: mut, what stood at the entry and may change -/
structure C0 where
  M0 : Addr → Prop
  H0 : Hp
  pa : Addr
  pl : Addr
  mo : Addr → Prop

/-- the well of draws -/
def PawOk (K : PySem.W.Frag) (pa pl : Addr) (bud : Nat) (H : Hp) : Prop :=
  ∃ (t r : Int) (ns : List Int), H pa = some (.lst [.ref pl, .int t, .int r]) ∧ H pl = some (.lst (ns.map V.int)) ∧ ns.length ≤ 63 ∧ 0 ≤ t ∧ t + bud ≤ 1000000 ∧ 0 ≤ r
theorem PawOk.less {K : PySem.W.Frag} {pa pl : Addr} {b b' : Nat} {H : Hp} (p : PawOk K pa pl b H) (h : b' ≤ b) : PawOk K pa pl b' H := by
  obtain ⟨t, r, ns, h1, h2, h3, h4, h5, h6⟩ := p
  exact ⟨t, r, ns, h1, h2, h3, h4, by omega, h6⟩
theorem PawOk.same {K : PySem.W.Frag} {pa pl : Addr} {b : Nat} {H H' : Hp} (p : PawOk K pa pl b H) (e : Same H H') : PawOk K pa pl b H' := by
  obtain ⟨t, r, ns, h1, h2, h3⟩ := p
  exact ⟨t, r, ns, e _ _ h1, e _ _ h2, h3⟩

/-- at l stands something of the def's own -/
def C0.May (c : C0) (l : Addr) : Prop := l ≠ c.pa ∧ (c.H0 l = none ∨ c.mo l)
def EntOk (K : PySem.W.Frag) (c : C0) (W : Wd) (σ : St) (i : Nat) : EV → Prop
  | .un => True
  | .fz d => ∃ v, σ[i]? = some (some v) ∧ Rep K W v d
  | .own xs => ∃ l vs, σ[i]? = some (some (.ref l)) ∧ W.M l ∧ c.H0 l = none ∧ W.H l = some (.lst vs) ∧ Reps K W vs xs
  | .ownT kvs => ∃ l vs, σ[i]? = some (some (.ref l)) ∧ W.M l ∧ c.H0 l = none ∧ W.H l = some (.dT vs) ∧ vs.map (·.1) = kvs.map (·.1) ∧ Reps K W (vs.map (·.2)) (kvs.map (·.2))
  | .ownK kvs => ∃ l vs, σ[i]? = some (some (.ref l)) ∧ W.M l ∧ c.H0 l = none ∧ W.H l = some (.dK vs) ∧ vs.map (·.1) = kvs.map (·.1) ∧ Reps K W (vs.map (·.2)) (kvs.map (·.2))
  | .ownI lx dxx C fs => ∃ l dx vs, σ[i]? = some (some (.ref l)) ∧ W.M l ∧ c.May l ∧ W.H l = some (.ins C dx vs) ∧ ((l = lx ∧ dx = dxx) ∧ vs.map (·.1) = fs.map (·.1)) ∧ Reps K W (vs.map (·.2)) (fs.map (·.2))
/-- slot i owns what stands at l -/
def Owns (s : DS) (σ : St) (i : Nat) (l : Addr) : Prop := (∃ e, s.sl[i]? = some e ∧ e.isOwn = true) ∧ σ[i]? = some (some (.ref l))

structure Rel (K : PySem.W.Frag) (c : C0) (W : Wd) (σ : St) (s : DS) : Prop where
  len : s.sl.length = σ.length
  m0 : ∀ a, c.M0 a → c.H0 a ≠ none
  wpa : W.pa = c.pa
  ent : ∀ i e, s.sl[i]? = some e → EntOk K c W σ i e
  dis : ∀ i j l, Owns s σ i l → Owns s σ j l → i = j
  sub : ∀ a, c.M0 a → W.M a
  kp : ∀ a o, c.H0 a = some o → ¬ c.mo a → W.H a = some o
  there : ∀ a, W.M a → ∃ o, W.H a = some o
  old : ∀ a, c.H0 a ≠ none → W.M a → c.M0 a
  mm : ∀ a, c.mo a → W.M a
  mo0 : ∀ a, c.mo a → c.H0 a ≠ none
  mop : c.mo c.pa
  mp : W.M c.pa
  npl : ¬ W.M c.pl
  paw : PawOk K c.pa c.pl s.bud W.H

section
variable {K : PySem.W.Frag} {c : C0} {W W' : Wd} {σ : St} {s : DS} {H' : Hp}
theorem Pr.same (e : Same W.H H') : Pr W ⟨W.M, H', W.pa⟩ := ⟨fun a o h _ => ⟨e a o h, id⟩, rfl⟩
theorem EntOk.same (e : Same W.H H') {i : Nat} : ∀ {x : EV}, EntOk K c W σ i x → EntOk K c ⟨W.M, H', W.pa⟩ σ i x
  | .un, _ => trivial
  | .fz _, ⟨v, h, r⟩ => ⟨v, h, r.mono (Pr.same e)⟩
  | .own _, ⟨l, vs, h1, h2, h3, h4, r⟩ => ⟨l, vs, h1, h2, h3, e _ _ h4, r.mono (Pr.same e)⟩
  | .ownT _, ⟨l, vs, h1, h2, h3, h4, h5, r⟩ => ⟨l, vs, h1, h2, h3, e _ _ h4, h5, r.mono (Pr.same e)⟩
  | .ownK _, ⟨l, vs, h1, h2, h3, h4, h5, r⟩ => ⟨l, vs, h1, h2, h3, e _ _ h4, h5, r.mono (Pr.same e)⟩
  | .ownI _ _ _ _, ⟨l, dx, vs, h1, h2, h3, h4, h5, r⟩ => ⟨l, dx, vs, h1, h2, h3, e _ _ h4, h5, r.mono (Pr.same e)⟩
/-- all that was tracked stays -/
theorem Rel.same (R : Rel K c W σ s) (e : Same W.H H') : Rel K c ⟨W.M, H', W.pa⟩ σ s :=
  ⟨R.len, R.m0, R.wpa, fun i x h => (R.ent i x h).same e, R.dis, R.sub, fun a o h n => e _ _ (R.kp a o h n), fun a h => let ⟨o, q⟩ := R.there a h; ⟨o, e _ _ q⟩, R.old, R.mm, R.mo0, R.mop, R.mp, R.npl, R.paw.same e⟩
theorem same_new {H : Hp} {p : Addr} {o : HO} (h : H p = none) : Same H (upd H p o) := fun b u e => by
  rw [upd_ne (ne_of_none e h)]
  exact e
end
end DL

namespace DL
open PySem L2

def RepT (K : PySem.W.Frag) (W : Wd) (σ : St) (v : V) : D → Prop
  | .slot i => σ[i]? = some (some v)
  | d => Rep K W v d
theorem RepT.mono {K : PySem.W.Frag} {W W' : Wd} {σ : St} {v : V} (p : Pr W W') : ∀ {d : D}, RepT K W σ v d → RepT K W' σ v d
  | .slot _, h => h
  | .non, h => Rep.mono p h
  | .bl _, h => Rep.mono p h
  | .int _, h => Rep.mono p h
  | .str _, h => Rep.mono p h
  | .tup _, h => Rep.mono p h
  | .kon _, h => Rep.mono p h
  | .lst _, h => Rep.mono p h
  | .obj _ _, h => Rep.mono p h
  | .exc _ _, h => Rep.mono p h
  | .dT _, h => Rep.mono p h
  | .dK _, h => Rep.mono p h
  | .raw _, h => Rep.mono p h
  | .paw, h => Rep.mono p h
def D.isSlot : D → Bool
  | .slot _ => true
  | _ => false
theorem Rep.t {K : PySem.W.Frag} {W : Wd} {σ : St} {v : V} {d : D} (h : Rep K W v d) : RepT K W σ v d := by
  cases d <;> first | exact h | cases h
theorem RepT.to {K : PySem.W.Frag} {W : Wd} {σ : St} {v : V} {d : D} (h : RepT K W σ v d) (n : d.isSlot = false) : Rep K W v d := by
  cases d <;> first | exact h | cases n
inductive RepsT (K : PySem.W.Frag) (W : Wd) (σ : St) : List V → List D → Prop
  | nil : RepsT K W σ [] []
  | cons {v : V} {d : D} {vs : List V} {ds : List D} : RepT K W σ v d → RepsT K W σ vs ds → RepsT K W σ (v :: vs) (d :: ds)
theorem RepsT.mono {K : PySem.W.Frag} {W W' : Wd} {σ : St} (p : Pr W W') : ∀ {vs : List V} {ds : List D}, RepsT K W σ vs ds → RepsT K W' σ vs ds
  | _, _, .nil => .nil
  | _, _, .cons a r => .cons (a.mono p) (r.mono p)
def noSlots : List D → Bool
  | [] => true
  | d :: ds => !d.isSlot && noSlots ds
theorem RepsT.to {K : PySem.W.Frag} {W : Wd} {σ : St} : ∀ {vs : List V} {ds : List D}, RepsT K W σ vs ds → noSlots ds = true → Reps K W vs ds
  | _, _, .nil, _ => .nil
  | _, _, .cons (d := d) a r, h => by
    have h' : (!d.isSlot && noSlots _) = true := h
    rw [Bool.and_eq_true] at h'
    exact .cons (a.to (by simpa using h'.1)) (r.to h'.2)
theorem Reps.t {K : PySem.W.Frag} {W : Wd} {σ : St} : ∀ {vs : List V} {ds : List D}, Reps K W vs ds → RepsT K W σ vs ds
  | _, _, .nil => .nil
  | _, _, .cons a r => .cons a.t r.t

/-! ### readings over data -/
abbrev DE := DS → (D → DS → Prop) → Prop
abbrev DT := DS → (Bool → DS → Prop) → Prop
abbrev DA := DS → (List D → DS → Prop) → Prop

def SndE (K : PySem.W.Frag) (te : TE) (t : DE) : Prop := ∀ (c : C0) (W : Wd) (σ : St) (s : DS) (Qv : VK) (Qd : D → DS → Prop), Rel K c W σ s → t s Qd →
  (∀ v W' d s', Rel K c W' σ s' → Pr W W' → RepT K W' σ v d → Qd d s' → Qv v W'.H) → te σ W.H Qv
def SndT (K : PySem.W.Frag) (tt : TT) (t : DT) : Prop := ∀ (c : C0) (W : Wd) (σ : St) (s : DS) (Qv : Bool → Hp → Prop) (Qd : Bool → DS → Prop), Rel K c W σ s → t s Qd →
  (∀ b W' s', Rel K c W' σ s' → Pr W W' → Qd b s' → Qv b W'.H) → tt σ W.H Qv
def SndA (K : PySem.W.Frag) (ta : TA) (t : DA) : Prop := ∀ (c : C0) (W : Wd) (σ : St) (s : DS) (Qv : List V → Hp → Prop) (Qd : List D → DS → Prop), Rel K c W σ s → t s Qd →
  (∀ vs W' ds s', Rel K c W' σ s' → Pr W W' → RepsT K W' σ vs ds → Qd ds s' → Qv vs W'.H) → ta σ W.H Qv
structure PD (X : Cx) (e : Expr) (te : TE) (t : DE) : Prop where
  pe : PE X e te
  snd : SndE X.K te t
structure PDT (X : Cx) (e : Expr) (tt : TT) (t : DT) : Prop where
  pt : PT X e tt
  snd : SndT X.K tt t
/-- the arguments' values, as many as there are arguments -/
structure PAL (X : Cx) (es : List Expr) (t : TA) : Prop where
  run : ∀ (pos : Pos) (pins : List (Addr × Obj)) (s : Shared) (σ : St) (H : Hp) (Q : List V → Hp → Prop), Inv X pins σ H s → t σ H Q →
    wpAny (model X.prog X.w) X.A (spliced (backTo pos (starEach es X.env))) (fun us s' => ∃ vs H', Inv X pins σ H' s' ∧ Vals vs us ∧ vs.length = es.length ∧ Q vs H') X.xe s
theorem PAL.pa {X : Cx} {es : List Expr} {t : TA} (h : PAL X es t) : PA X es t where
  run := fun pos pins s σ H Q I q => thn (h.run pos pins s σ H Q I q) fun us s' ⟨vs, H', I', r, _, q'⟩ => ⟨vs, H', I', r, q'⟩
theorem pal_nil {X : Cx} : PAL X [] tNil where
  run := fun _ _ _ _ H _ I h => Calls.spliced_nil ⟨[], H, I, .nil, rfl, h⟩
theorem pal_cons {X : Cx} {e : Expr} {es : List Expr} {te : TE} {t : TA} (ha : PE X e te) (hr : PAL X es t) (hs : starEach (e :: es) X.env = (false, eval e X.env) :: starEach es X.env) : PAL X (e :: es) (tCons te t) where
  run := by
    intro pos pins s σ H Q I h
    rw [hs]
    show wpAny _ _ (spliced ((false, eval e X.env) :: backTo pos (starEach es X.env))) _ _ s
    apply Calls.spliced_cons
    apply thn (ha.run pins s σ H _ I h)
    rintro u s1 ⟨x, H1, I1, r1, q1⟩
    apply thn (hr.run pos pins s1 σ H1 _ I1 q1)
    rintro us s2 ⟨xs, H2, I2, r2, l2, q2⟩
    exact ⟨x :: xs, H2, I2, .cons r1 r2, congrArg Nat.succ l2, q2⟩
structure PDA (X : Cx) (es : List Expr) (ta : TA) (t : DA) : Prop where
  pal : PAL X es ta
  snd : SndA X.K ta t

section
variable {X : Cx} {K : PySem.W.Frag} {c : C0} {a b e : Expr} {es : List Expr} {te tea teb : TE} {t ta tb : DE} {pos : Pos}
/-! ### names, constants -/
def dVar (i : Nat) : DE := fun s Q => match s.sl[i]? with
  | some .un => False
  | some (.fz d) => Q d s
  | some _ => Q (.slot i) s
  | none => False
theorem snd_var {i : Nat} : SndE K (tVar i) (dVar i) := by
  intro c W σ s Qv Qd R h k
  unfold dVar at h
  cases q : s.sl[i]? with
  | none => rw [q] at h; exact h.elim
  | some e =>
    rw [q] at h
    have en := R.ent i e q
    cases e with
    | un => exact h.elim
    | fz d =>
      obtain ⟨v, h1, r⟩ := en
      exact ⟨v, h1, k v W d s R (Pr.refl _) r.t h⟩
    | own xs =>
      obtain ⟨l, vs, h1, _⟩ := en
      exact ⟨_, h1, k _ W (.slot i) s R (Pr.refl _) h1 h⟩
    | ownT xs =>
      obtain ⟨l, vs, h1, _⟩ := en
      exact ⟨_, h1, k _ W (.slot i) s R (Pr.refl _) h1 h⟩
    | ownK xs =>
      obtain ⟨l, vs, h1, _⟩ := en
      exact ⟨_, h1, k _ W (.slot i) s R (Pr.refl _) h1 h⟩
    | ownI LL DD C fs =>
      obtain ⟨l, dx, vs, h1, _⟩ := en
      exact ⟨_, h1, k _ W (.slot i) s R (Pr.refl _) h1 h⟩
theorem dv (i : Nat) {x : Str} {pos : Pos} (hN : X.N[i]? = some x := by rfl) (hv : Vis X.env.scope x := by first | exact Or.inl rfl | exact Or.inr (Or.inl rfl) | exact Or.inr (Or.inr rfl)) (hd : (x == ("__debug__" : Str)) = false := by decide)
    (hcd : (x == ("__classdict__" : Str)) = false := by decide) : PD X (.Name x pos) (tVar i) (dVar i) := ⟨pv i hN hv hd hcd, snd_var⟩
def dC (d : D) : DE := fun s Q => Q d s
theorem snd_c {v : V} {d : D} (h : ∀ W, Rep K W v d) : SndE K (tC v) (dC d) := fun c W σ s Qv Qd R q k => k v W d s R (Pr.refl _) (h W).t q
theorem d_int {i j} : PD X (.Constant (.int i) j pos) (tC (.int i)) (dC (.int i)) := ⟨pe_int, snd_c fun _ => .int i⟩
theorem d_bl {b j} : PD X (.Constant (.bool b) j pos) (tC (.bl b)) (dC (.bl b)) := ⟨pe_bl, snd_c fun _ => .bl b⟩
theorem d_non {j} : PD X (.Constant .none j pos) (tC .non) (dC .non) := ⟨pe_non, snd_c fun _ => .non⟩
theorem d_str {x j} : PD X (.Constant (.str x) j pos) (tC (.str x)) (dC (.str x)) := ⟨pe_str, snd_c fun _ => .str x⟩
/-- a module's name whose value is known by data -/
theorem d_glob {x : Str} {v : V} {d : D} {u : Value} (hg : Gl X x) (hm : X.mg x = some u) (r : RelV v u) (h : ∀ W, Rep X.K W v d) (hd : (x == ("__debug__" : Str)) = false := by decide) : PD X (.Name x pos) (tC v) (dC d) := ⟨pe_glob hg hm r hd, snd_c h⟩
theorem d_bltn {x : Str} {v : V} {u : Value} (hg : Gl X x) (hm : X.mg x = none) (hv : bootBuiltins x = some u) (r : RelV v u) (hn : x ≠ "__name__" := by decide) (hd : (x == ("__debug__" : Str)) = false := by decide) : PD X (.Name x pos) (tC v) (dC (.raw v)) :=
  ⟨pe_bltn hg hm hv r hn hd, snd_c fun _ => .raw v⟩

/-! ### arguments -/
def dNil : DA := fun s Q => Q [] s
def dCons (t : DE) (r : DA) : DA := fun s Q => t s fun d s1 => r s1 fun ds s2 => Q (d :: ds) s2
theorem PDA.pa {r : DA} {taa : TA} (h : PDA X es taa r) : PA X es taa := h.pal.pa
theorem da_nil : PDA X [] tNil dNil := ⟨pal_nil, fun c W σ s Qv Qd R h k => k [] W [] s R (Pr.refl _) .nil h⟩
theorem snd_cons {taa : TA} {r : DA} (h1 : SndE K te t) (h2 : SndA K taa r) : SndA K (tCons te taa) (dCons t r) := by
  intro c W σ s Qv Qd R h k
  refine h1 c W σ s _ _ R h fun v W1 d s1 R1 p1 rv q1 => ?_
  exact h2 c W1 σ s1 _ _ R1 q1 fun vs W2 ds s2 R2 p2 rvs q2 => k (v :: vs) W2 (d :: ds) s2 R2 (p1.trans p2) (.cons (rv.mono p2) rvs) q2
theorem da_cons {taa : TA} {r : DA} (h1 : PD X e te t) (h2 : PDA X es taa r) (hs : starEach (e :: es) X.env = (false, eval e X.env) :: starEach es X.env := by rfl) : PDA X (e :: es) (tCons te taa) (dCons t r) := ⟨pal_cons h1.pe h2.pal hs, snd_cons h1.snd h2.snd⟩

/-! ### tuples and lists that are written -/
theorem Pr.new {W : Wd} {p : Addr} {o : HO} (h : W.H p = none) : Pr W ⟨W.M, upd W.H p o, W.pa⟩ := Pr.same (same_new h)
def dTup (r : DA) : DE := fun s Q => r s fun ds s1 => ds.length ≤ sizeLine ∧ noSlots ds = true ∧ Q (.tup ds) s1
theorem d_tup {x1} {taa : TA} {r : DA} (h : PDA X es taa r) : PD X (.Tuple es x1 pos) (tTup taa) (dTup r) := by
  refine ⟨pe_tup h.pa, ?_⟩
  intro c W σ s Qv Qd R hq k
  refine h.snd c W σ s _ _ R hq fun vs W1 ds s1 R1 p1 rv q1 => ?_
  obtain ⟨hz, hs, q⟩ := q1
  have rr := rv.to hs
  refine ⟨by rw [rr.length]; exact hz, fun p hp => ?_⟩
  exact k (.ref p) ⟨W1.M, upd W1.H p (.tup vs), W1.pa⟩ (.tup ds) s1 (R1.same (same_new hp)) (p1.trans (Pr.new hp)) (Rep.tup upd_same (rr.mono (Pr.new hp))) q
/-- a list that is written, from then on as data -/
def dLst (r : DA) : DE := fun s Q => r s fun ds s1 => ds.length ≤ sizeLine ∧ noSlots ds = true ∧ Q (.lst ds) s1
theorem Rel.fresh (R : Rel K c W σ s) {p : Addr} (hp : W.H p = none) : ¬ W.M p := fun m => by
  obtain ⟨o, h⟩ := R.there p m
  rw [hp] at h
  cases h
theorem d_lst {taa : TA} {r : DA} (h : PDA X es taa r) : PD X (.List es pos) (tLst taa) (dLst r) := by
  refine ⟨pe_lst h.pa, ?_⟩
  intro c W σ s Qv Qd R hq k
  refine h.snd c W σ s _ _ R hq fun vs W1 ds s1 R1 p1 rv q1 => ?_
  obtain ⟨hz, hs, q⟩ := q1
  have rr := rv.to hs
  refine ⟨by rw [rr.length]; exact hz, fun p hp => ?_⟩
  exact k (.ref p) ⟨W1.M, upd W1.H p (.lst vs), W1.pa⟩ (.lst ds) s1 (R1.same (same_new hp)) (p1.trans (Pr.new hp)) (Rep.lst upd_same (R1.fresh hp) (rr.mono (Pr.new hp))) q

/-! ### operations by values -/
abbrev DR := DS → D → D → (D → Prop) → Prop
def SndR (K : PySem.W.Frag) (r : R2) (f : DR) : Prop := ∀ (c : C0) (W : Wd) (σ : St) (s : DS) (x y : V) (d1 d2 : D) (Qv : VK) (Qd : D → Prop), Rel K c W σ s → RepT K W σ x d1 → RepT K W σ y d2 → f s d1 d2 Qd →
  (∀ v W' d, Rel K c W' σ s → Pr W W' → RepT K W' σ v d → Qd d → Qv v W'.H) → r x y W.H Qv
def dOp (f : DR) (ta tb : DE) : DE := fun s Q => ta s fun d1 s1 => tb s1 fun d2 s2 => f s2 d1 d2 fun d => Q d s2
theorem snd_op {r : R2} {f : DR} (hr : SndR K r f) (ha : SndE K tea ta) (hb : SndE K teb tb) : SndE K (tOp r tea teb) (dOp f ta tb) := by
  intro c W σ s Qv Qd R h k
  refine ha c W σ s _ _ R h fun x W1 d1 s1 R1 p1 r1 q1 => ?_
  refine hb c W1 σ s1 _ _ R1 q1 fun y W2 d2 s2 R2 p2 r2 q2 => ?_
  exact hr c W2 σ s2 x y d1 d2 _ _ R2 (r1.mono p2) r2 q2 fun v W3 d R3 p3 r3 q3 => k v W3 d s2 R3 ((p1.trans p2).trans p3) r3 q3
theorem d_op {op : Operator} {r : R2} {f : DR} (h : OpR X (binaryOp op) r ∧ SndR X.K r f) (ha : PD X a tea ta) (hb : PD X b teb tb) : PD X (.BinOp a op b pos) (tOp r tea teb) (dOp f ta tb) := ⟨pe_op h.1 ha.pe hb.pe, snd_op h.2 ha.snd hb.snd⟩
theorem d_cmp {op : CmpOp} {r : R2} {f : DR} (h : OpR X (compareOp op) r ∧ SndR X.K r f) (ha : PD X a tea ta) (hb : PD X b teb tb) (hm : behindInMarks op b = false := by first | exact nobehind _ (by decide) (by decide) | rfl) :
    PD X (.Compare a [op] [b] pos) (tOp r tea teb) (dOp f ta tb) := ⟨pe_cmpR h.1 ha.pe hb.pe hm, snd_op h.2 ha.snd hb.snd⟩
def dB (t : DE) : DT := fun s Q => t s fun d s1 => match d with
  | .bl b => Q b s1
  | _ => False
theorem snd_test (h : SndE K te t) : SndT K (tTest te) (dB t) := by
  intro c W σ s Qv Qd R hq k
  refine h c W σ s _ _ R hq fun v W1 d s1 R1 p1 r1 q1 => ?_
  cases d with
  | bl b =>
    cases r1
    exact ⟨b, rfl, k b W1 s1 R1 p1 q1⟩
  | _ => exact q1.elim
theorem dt_cmp {op : CmpOp} {r : R2} {f : DR} (h : OpR X (compareOp op) r ∧ SndR X.K r f) (ha : PD X a tea ta) (hb : PD X b teb tb) (hm : behindInMarks op b = false := by first | exact nobehind _ (by decide) (by decide) | rfl) :
    PDT X (.Compare a [op] [b] pos) (tTest (tOp r tea teb)) (dB (dOp f ta tb)) := ⟨pt_cmpR h.1 ha.pe hb.pe hm, snd_test (snd_op h.2 ha.snd hb.snd)⟩
theorem OpR.or {f : Value → Value → Sem Value} {r r' : R2} (h : OpR X f r) (h' : OpR X f r') : OpR X f (fun x y H Q => r x y H Q ∨ r' x y H Q) := by
  intro pins s σ H x y v u Q I rx ry q
  rcases q with q | q
  · exact h pins s σ H x y v u Q I rx ry q
  · exact h' pins s σ H x y v u Q I rx ry q
def orR (f g : DR) : DR := fun s a b Q => f s a b Q ∨ g s a b Q
/-- two ints, a value out -/
def fI (C : Int → Int → Prop) (g : Int → Int → D) : DR := fun _ a b Q => match a, b with
  | .int i, .int j => C i j ∧ Q (g i j)
  | _, _ => False
theorem snd_I {C : Int → Int → Prop} {g : Int → Int → V} {g' : Int → Int → D} (hg : ∀ W i j, Rep K W (g i j) (g' i j)) : SndR K (rI C g) (fI C g') := by
  intro c W σ s x y d1 d2 Qv Qd R r1 r2 h k
  cases d1 with
  | int i =>
    cases d2 with
    | int j =>
      cases r1
      cases r2
      exact ⟨i, j, rfl, rfl, h.1, k _ W _ R (Pr.refl _) (hg W i j).t h.2⟩
    | _ => exact h.elim
  | _ => exact h.elim
def fI0 (g : Int → Int → D) : DR := fun _ a b Q => match a, b with
  | .int i, .int j => Q (g i j)
  | _, _ => False
theorem snd_I0 {g : Int → Int → V} {g' : Int → Int → D} (hg : ∀ W i j, Rep K W (g i j) (g' i j)) : SndR K (rI0 g) (fI0 g') := by
  intro c W σ s x y d1 d2 Qv Qd R r1 r2 h k
  cases d1 with
  | int i =>
    cases d2 with
    | int j =>
      cases r1
      cases r2
      exact ⟨i, j, rfl, rfl, k _ W _ R (Pr.refl _) (hg W i j).t h⟩
    | _ => exact h.elim
  | _ => exact h.elim
theorem o_sub : OpR X (binaryOp .Sub) (rI0 fun i j => .int (i - j)) ∧ SndR X.K (rI0 fun i j => .int (i - j)) (fI0 fun i j => .int (i - j)) := ⟨op_sub, snd_I0 fun _ _ _ => .int _⟩
theorem o_mulI : OpR X (binaryOp .Mult) (rI CMul fun i j => .int (i * j)) ∧ SndR X.K (rI CMul fun i j => .int (i * j)) (fI CMul fun i j => .int (i * j)) := ⟨op_mul, snd_I fun _ _ _ => .int _⟩
theorem o_fdiv : OpR X (binaryOp .FloorDiv) (rI CDiv fun i j => .int (i / j)) ∧ SndR X.K (rI CDiv fun i j => .int (i / j)) (fI CDiv fun i j => .int (i / j)) := ⟨op_fdiv, snd_I fun _ _ _ => .int _⟩
theorem o_mod : OpR X (binaryOp .Mod) (rI (fun _ j => 0 < j) fun i j => .int (i % j)) ∧ SndR X.K (rI (fun _ j => 0 < j) fun i j => .int (i % j)) (fI (fun _ j => 0 < j) fun i j => .int (i % j)) := ⟨op_mod, snd_I fun _ _ _ => .int _⟩
theorem o_pow : OpR X (binaryOp .Pow) (rI CPow fun i j => .int (i ^ j.toNat)) ∧ SndR X.K (rI CPow fun i j => .int (i ^ j.toNat)) (fI CPow fun i j => .int (i ^ j.toNat)) := ⟨op_pow, snd_I fun _ _ _ => .int _⟩
theorem o_shl : OpR X (binaryOp .LShift) (rI CPow fun i j => .int (i * 2 ^ j.toNat)) ∧ SndR X.K (rI CPow fun i j => .int (i * 2 ^ j.toNat)) (fI CPow fun i j => .int (i * 2 ^ j.toNat)) := ⟨op_shl, snd_I fun _ _ _ => .int _⟩
theorem o_lt : OpR X (compareOp .Lt) (rI0 fun i j => .bl (decide (i < j))) ∧ SndR X.K (rI0 fun i j => .bl (decide (i < j))) (fI0 fun i j => .bl (decide (i < j))) := ⟨op_lt, snd_I0 fun _ _ _ => .bl _⟩
theorem o_le : OpR X (compareOp .LtE) (rI0 fun i j => .bl (decide (i ≤ j))) ∧ SndR X.K (rI0 fun i j => .bl (decide (i ≤ j))) (fI0 fun i j => .bl (decide (i ≤ j))) := ⟨op_le, snd_I0 fun _ _ _ => .bl _⟩
theorem o_gt : OpR X (compareOp .Gt) (rI0 fun i j => .bl (decide (j < i))) ∧ SndR X.K (rI0 fun i j => .bl (decide (j < i))) (fI0 fun i j => .bl (decide (j < i))) := ⟨op_gt, snd_I0 fun _ _ _ => .bl _⟩
theorem o_ge : OpR X (compareOp .GtE) (rI0 fun i j => .bl (decide (j ≤ i))) ∧ SndR X.K (rI0 fun i j => .bl (decide (j ≤ i))) (fI0 fun i j => .bl (decide (j ≤ i))) := ⟨op_ge, snd_I0 fun _ _ _ => .bl _⟩
/-- is, of None, True, False -/
def dIs : D → D → Option Bool
  | .slot _, _ => none
  | .raw _, _ => none
  | .paw, _ => none
  | .non, .non => some true
  | .bl a, .bl b => some (a == b)
  | _, .non => some false
  | _, .bl _ => some false
  | _, _ => none
def fIs (neg : Bool) : DR := fun _ a b Q => match dIs a b with
  | some k => Q (.bl (if neg then !k else k))
  | none => False
def rIsS (neg : Bool) : R2 := fun x y H Q => (y = .non ∨ ∃ b, y = .bl b) ∧ Q (.bl (if neg then !decide (x = y) else decide (x = y))) H
theorem is_simple {pins : List (Addr × Obj)} {σ : St} {H : Hp} {s : Shared} {M : Model} {A : Around} {E : Value → Shared → Prop} {x y : V} {v u : Value} {R : Bool → Shared → Prop} (rx : RelV x v) (ry : RelV y u) (hy : y = .non ∨ ∃ b, y = .bl b)
    (q : R (decide (x = y)) s) : wpAny M A (isSame v u) R E s := by
  have go : plainIs v u = true → (v == u) = decide (x = y) → wpAny M A (isSame v u) R E s := fun h1 h2 => wpAny_isSame_plain h1 (by rw [h2]; exact q)
  rcases hy with rfl | ⟨b, rfl⟩
  · cases ry
    refine go (by cases x <;> first | (cases rx; rfl) | (obtain ⟨t, rfl⟩ := rx; rfl)) (rx.none_iff)
  · cases ry
    cases x with
    | bl a =>
      cases rx
      refine go rfl ?_
      by_cases e : a = b
      · subst e
        rw [decide_eq_true rfl]
        exact beq_self_eq_true _
      · rw [decide_eq_false (fun z => e (V.bl.inj z))]
        exact beq_eq_false_iff_ne.mpr fun z => e (Value.bool.inj z)
    | non => cases rx; exact go rfl rfl
    | int i => obtain ⟨t, rfl⟩ := rx; exact go rfl rfl
    | str x => obtain ⟨t, rfl⟩ := rx; exact go rfl rfl
    | byt x => obtain ⟨t, rfl⟩ := rx; exact go rfl rfl
    | flt x => obtain ⟨t, rfl⟩ := rx; exact go rfl rfl
    | ref a => cases rx; exact go rfl rfl
    | ty n => cases rx; exact go rfl rfl
theorem op_isS : OpR X (compareOp .Is) (rIsS false) := by
  intro pins s σ H x y v u Q I rx ry h
  obtain ⟨hy, q⟩ := h
  show wpAny _ _ ((isSame v u) >>= fun z => pure (Value.bool z)) _ _ s
  exact wpAny_bind (is_simple (pins := pins) (σ := σ) (H := H) (s := s) rx ry hy (wpAny_pure (fin_bl I q rfl)))
theorem op_isnotS : OpR X (compareOp .IsNot) (rIsS true) := by
  intro pins s σ H x y v u Q I rx ry h
  obtain ⟨hy, q⟩ := h
  show wpAny _ _ ((isSame v u) >>= fun z => pure (Value.bool (!z))) _ _ s
  exact wpAny_bind (is_simple (pins := pins) (σ := σ) (H := H) (s := s) rx ry hy (wpAny_pure (fin_bl I q rfl)))
theorem dIs_spec {K : PySem.W.Frag} {W : Wd} {σ : St} {x y : V} {a b : D} {k : Bool} (r1 : RepT K W σ x a) (r2 : RepT K W σ y b) (h : dIs a b = some k) : (y = .non ∨ ∃ b, y = .bl b) ∧ decide (x = y) = k := by
  cases a with
  | slot _ => simp [dIs] at h
  | raw _ => simp [dIs] at h
  | paw => simp [dIs] at h
  | _ =>
    cases b with
    | non =>
      cases r2
      cases r1
      all_goals exact ⟨.inl rfl, by first | (cases h; rfl)⟩
    | bl b =>
      cases r2
      cases r1
      all_goals
        refine ⟨.inr ⟨b, rfl⟩, ?_⟩
        first
        | (cases h; rfl)
        | (rw [dec_bl]; simpa [dIs] using h)
    | _ => simp [dIs] at h
theorem snd_is {neg : Bool} : SndR K (rIsS neg) (fIs neg) := by
  intro c W σ s x y d1 d2 Qv Qd R r1 r2 h k
  unfold fIs at h
  cases e : dIs d1 d2 with
  | none => rw [e] at h; exact h.elim
  | some b =>
    rw [e] at h
    obtain ⟨h1, h2⟩ := dIs_spec r1 r2 e
    refine ⟨h1, ?_⟩
    rw [h2]
    exact k _ W _ R (Pr.refl _) (Rep.bl _).t h
theorem o_is : OpR X (compareOp .Is) (rIsS false) ∧ SndR X.K (rIsS false) (fIs false) := ⟨op_isS, snd_is⟩
theorem o_isnt : OpR X (compareOp .IsNot) (rIsS true) ∧ SndR X.K (rIsS true) (fIs true) := ⟨op_isnotS, snd_is⟩
end
end DL

namespace DL
open PySem L2

/-! ### data that Python compares -/
mutual
def toPy : D → Option PyData
  | .non => some .none
  | .bl b => some (.bool b)
  | .int i => some (.int i)
  | .str x => some (.str x)
  | .tup xs => (toPys xs).map .tuple
  | .kon xs => (toPys xs).map .tuple
  | .lst xs => (toPys xs).map .list
  | .obj _ _ => none
  | .exc _ _ => none
  | .dT _ => none
  | .dK _ => none
  | .raw _ => none
  | .paw => none
  | .slot _ => none
def toPys : List D → Option (List PyData)
  | [] => some []
  | x :: xs => (toPy x).bind fun p => (toPys xs).map fun ps => p :: ps
end
section
variable {K : PySem.W.Frag} {W : Wd}
mutual
theorem Rep.dp : ∀ {v : V} {d : D} {p : PyData}, Rep K W v d → toPy d = some p → Dp K W.H v p
  | _, _, _, .non, h => by cases h; exact .non
  | _, _, _, .bl b, h => by cases h; exact .bl b
  | _, _, _, .int i, h => by cases h; exact .int i
  | _, _, _, .str x, h => by cases h; exact .str x
  | _, _, p, .tup (ds := ds) q r, h => by
    have h' : (toPys ds).map PyData.tuple = some p := by rw [toPy] at h; exact h
    cases e : toPys ds with
    | none => rw [e] at h'; cases h'
    | some ps =>
      rw [e] at h'
      cases h'
      exact .tup (TupV.sq (.inl q)) (Reps.dp r e)
  | _, _, p, .kon (ds := ds) q r, h => by
    have h' : (toPys ds).map PyData.tuple = some p := by rw [toPy] at h; exact h
    cases e : toPys ds with
    | none => rw [e] at h'; cases h'
    | some ps =>
      rw [e] at h'
      cases h'
      exact .tup (TupV.sq (.inr q)) (Reps.dp r e)
  | _, _, p, .lst (ds := ds) q n r, h => by
    have h' : (toPys ds).map PyData.list = some p := by rw [toPy] at h; exact h
    cases e : toPys ds with
    | none => rw [e] at h'; cases h'
    | some ps =>
      rw [e] at h'
      cases h'
      exact .lst (SqL.of q) (Reps.dp r e)
  | _, _, _, .obj _ _ _ _, h => by rw [toPy] at h; cases h
  | _, _, _, .exc _ _ _ _ _ _, h => by rw [toPy] at h; cases h
  | _, _, _, .dT _ _ _ _, h => by rw [toPy] at h; cases h
  | _, _, _, .dK _ _ _ _, h => by rw [toPy] at h; cases h
  | _, _, _, .raw _, h => by rw [toPy] at h; cases h
  | _, _, _, .paw, h => by rw [toPy] at h; cases h
theorem Reps.dp : ∀ {vs : List V} {ds : List D} {ps : List PyData}, Reps K W vs ds → toPys ds = some ps → DpAll K W.H vs ps
  | _, _, _, .nil, h => by cases h; exact .nil
  | _, _, ps, .cons (d := d) (ds := ds) a r, h => by
    have h' : (toPy d).bind (fun p => (toPys ds).map fun ps => p :: ps) = some ps := by rw [toPys] at h; exact h
    cases e : toPy d with
    | none => rw [e] at h'; cases h'
    | some p =>
      rw [e] at h'
      cases e2 : toPys ds with
      | none => rw [e2] at h'; cases h'
      | some qs =>
        rw [e2] at h'
        cases h'
        exact .cons (Rep.dp a e) (Reps.dp r e2)
end
end

/-! ### lists and tuples as their items; what a slot owns -/
def asL (s : DS) : D → Option (List D)
  | .lst xs => some xs
  | .slot i => match s.sl[i]? with
    | some (.own xs) => some xs
    | _ => none
  | _ => none
def asSeq (s : DS) : D → Option (List D)
  | .tup xs => some xs
  | .kon xs => some xs
  | d => asL s d
def toPyT (s : DS) : D → Option PyData
  | .slot i => match s.sl[i]? with
    | some (.own xs) => (toPys xs).map .list
    | _ => none
  | d => toPy d
section
variable {K : PySem.W.Frag} {c : C0} {W : Wd} {σ : St} {s : DS}
theorem asL_spec (R : Rel K c W σ s) {v : V} {d : D} {xs : List D} (r : RepT K W σ v d) (h : asL s d = some xs) : ∃ l vs, v = .ref l ∧ W.H l = some (.lst vs) ∧ Reps K W vs xs := by
  cases d with
  | lst ys =>
    cases h
    cases r with
    | lst q n r => exact ⟨_, _, rfl, q, r⟩
  | slot i =>
    have h' : (match s.sl[i]? with
      | some (.own xs) => some xs
      | _ => none) = some xs := h
    cases e : s.sl[i]? with
    | none => rw [e] at h'; cases h'
    | some x =>
      rw [e] at h'
      cases x with
      | own ys =>
        cases h'
        obtain ⟨l, vs, h1, h2, h3, h4, h5⟩ := R.ent i _ e
        have r' : σ[i]? = some (some v) := r
        rw [h1] at r'
        cases r'
        exact ⟨l, vs, rfl, h4, h5⟩
      | _ => cases h'
  | _ => cases h
theorem asSeq_spec (R : Rel K c W σ s) {v : V} {d : D} {xs : List D} (r : RepT K W σ v d) (h : asSeq s d = some xs) : ∃ l vs, v = .ref l ∧ (SqL K W.H l vs ∨ TupV K W.H l vs) ∧ Reps K W vs xs := by
  cases d with
  | tup ys =>
    cases h
    cases r with
    | tup q r => exact ⟨_, _, rfl, .inr (.inl q), r⟩
  | kon ys =>
    cases h
    cases r with
    | kon q r => exact ⟨_, _, rfl, .inr (.inr q), r⟩
  | lst ys =>
    obtain ⟨l, vs, e, q, r⟩ := asL_spec R r h
    exact ⟨l, vs, e, .inl (SqL.of q), r⟩
  | slot i =>
    obtain ⟨l, vs, e, q, r⟩ := asL_spec R r h
    exact ⟨l, vs, e, .inl (SqL.of q), r⟩
  | _ => cases h
theorem toPyT_spec (R : Rel K c W σ s) {v : V} {d : D} {p : PyData} (r : RepT K W σ v d) (h : toPyT s d = some p) : Dp K W.H v p := by
  cases d with
  | slot i =>
    have h' : (match s.sl[i]? with
      | some (.own xs) => (toPys xs).map PyData.list
      | _ => none) = some p := h
    cases e : s.sl[i]? with
    | none => rw [e] at h'; cases h'
    | some x =>
      rw [e] at h'
      cases x with
      | own ys =>
        obtain ⟨l, vs, h1, h2, h3, h4, h5⟩ := R.ent i _ e
        have r' : σ[i]? = some (some v) := r
        rw [h1] at r'
        cases r'
        have h'' : (toPys ys).map PyData.list = some p := h'
        cases e2 : toPys ys with
        | none => rw [e2] at h''; cases h''
        | some ps =>
          rw [e2] at h''
          cases h''
          exact .lst (SqL.of h4) (Reps.dp h5 e2)
      | _ => cases h'
  | raw _ => cases h
  | paw => cases h
  | obj _ _ => cases h
  | exc _ _ => cases h
  | dT _ => cases h
  | dK _ => cases h
  | non => exact Rep.dp r h
  | bl _ => exact Rep.dp r h
  | int _ => exact Rep.dp r h
  | str _ => exact Rep.dp r h
  | tup _ => exact Rep.dp r h
  | kon _ => exact Rep.dp r h
  | lst _ => exact Rep.dp r h
end

section
variable {X : Cx} {K : PySem.W.Frag} {c : C0} {a b e : Expr} {es : List Expr} {te tea teb : TE} {t ta tb : DE} {pos : Pos}
/-! ### == and != over data -/
def fEq (neg : Bool) : DR := fun s a b Q => match toPyT s a, toPyT s b with
  | some p, some q => SeqAt.shaped p = true ∧ SeqAt.shaped q = true ∧ Q (.bl (if neg then !PyData.eqv p q else PyData.eqv p q))
  | _, _ => False
theorem snd_eq : SndR K (rEqD K) (fEq false) := by
  intro c W σ s x y d1 d2 Qv Qd R r1 r2 h k
  unfold fEq at h
  cases e1 : toPyT s d1 with
  | none => rw [e1] at h; exact h.elim
  | some p =>
    cases e2 : toPyT s d2 with
    | none => rw [e1, e2] at h; exact h.elim
    | some q =>
      rw [e1, e2] at h
      obtain ⟨h1, h2, h3⟩ := h
      exact ⟨p, q, toPyT_spec R r1 e1, toPyT_spec R r2 e2, h1, h2, k _ W _ R (Pr.refl _) (Rep.bl _).t h3⟩
theorem snd_ne : SndR K (rNeD K) (fEq true) := by
  intro c W σ s x y d1 d2 Qv Qd R r1 r2 h k
  unfold fEq at h
  cases e1 : toPyT s d1 with
  | none => rw [e1] at h; exact h.elim
  | some p =>
    cases e2 : toPyT s d2 with
    | none => rw [e1, e2] at h; exact h.elim
    | some q =>
      rw [e1, e2] at h
      obtain ⟨h1, h2, h3⟩ := h
      exact ⟨p, q, toPyT_spec R r1 e1, toPyT_spec R r2 e2, h1, h2, k _ W _ R (Pr.refl _) (Rep.bl _).t h3⟩
theorem o_eq (hu : X.A.units + 64 < cLine) : OpR X (compareOp .Eq) (rEqD X.K) ∧ SndR X.K (rEqD X.K) (fEq false) := ⟨op_eqD hu, snd_eq⟩
theorem o_ne (hu : X.A.units + 64 < cLine) : OpR X (compareOp .NotEq) (rNeD X.K) ∧ SndR X.K (rNeD X.K) (fEq true) := ⟨op_neD hu, snd_ne⟩
/-! ### in, not in: lists and tuples of data; texts -/
def rInA (K : PySem.W.Frag) (neg : Bool) : R2 := fun x y H Q => (∃ d ds, Dp K H x d ∧ (Dp K H y (.list ds) ∨ Dp K H y (.tuple ds)) ∧ SeqAt.shaped d = true ∧ SeqAt.shaped (.list ds) = true ∧ Q (.bl (if neg then !(ds.any fun z => PyData.eqv z d) else ds.any fun z => PyData.eqv z d)) H) ∨
  (∃ i j, x = .str i ∧ y = .str j ∧ Q (.bl (if neg then !(!(Builtin.Str.occurrences j i 0 j.length 1).isEmpty) else !(Builtin.Str.occurrences j i 0 j.length 1).isEmpty)) H)
theorem op_inA (hu : X.A.units + 65 < cLine) : OpR X (compareOp .In) (rInA X.K false) := by
  intro pins s σ H x y v u Q I rx ry h
  rcases h with ⟨d, ds, hd, he, sd, se, q⟩ | h
  · obtain ⟨as, r1⟩ := Dp.reads I d x v hd rx
    rcases he with he | he
    · obtain ⟨bs, r2⟩ := Dp.reads I (.list ds) y u he ry
      exact SeqAt.in_list_reads r2 r1 (SeqAt.canLay_of_shaped se) (SeqAt.canLay_of_shaped sd) (PyProof.Rows.room_in_shaped sd hu) ⟨.bl _, H, I, rfl, q⟩
    · obtain ⟨bs, r2⟩ := Dp.reads I (.tuple ds) y u he ry
      exact SeqAt.in_tuple_reads r2 r1 (SeqAt.canLay_of_shaped se) (SeqAt.canLay_of_shaped sd) (PyProof.Rows.room_in_shaped sd hu) ⟨.bl _, H, I, rfl, q⟩
  · exact op_in_str pins s σ H x y v u Q I rx ry h
theorem op_notInA (hu : X.A.units + 65 < cLine) : OpR X (compareOp .NotIn) (rInA X.K true) := by
  intro pins s σ H x y v u Q I rx ry h
  rcases h with ⟨d, ds, hd, he, sd, se, q⟩ | h
  · obtain ⟨as, r1⟩ := Dp.reads I d x v hd rx
    rcases he with he | he
    · obtain ⟨bs, r2⟩ := Dp.reads I (.list ds) y u he ry
      exact SeqAt.notIn_list_reads r2 r1 (SeqAt.canLay_of_shaped se) (SeqAt.canLay_of_shaped sd) (PyProof.Rows.room_in_shaped sd hu) ⟨.bl _, H, I, rfl, q⟩
    · obtain ⟨bs, r2⟩ := Dp.reads I (.tuple ds) y u he ry
      exact SeqAt.notIn_tuple_reads r2 r1 (SeqAt.canLay_of_shaped se) (SeqAt.canLay_of_shaped sd) (PyProof.Rows.room_in_shaped sd hu) ⟨.bl _, H, I, rfl, q⟩
  · exact op_notin_str pins s σ H x y v u Q I rx ry h
def fIn (neg : Bool) : DR := fun s a b Q => match toPyT s b with
  | some (.list ds) => (match toPyT s a with
    | some d => SeqAt.shaped d = true ∧ SeqAt.shaped (.list ds) = true ∧ Q (.bl (if neg then !(ds.any fun z => PyData.eqv z d) else ds.any fun z => PyData.eqv z d))
    | none => False)
  | some (.tuple ds) => (match toPyT s a with
    | some d => SeqAt.shaped d = true ∧ SeqAt.shaped (.list ds) = true ∧ Q (.bl (if neg then !(ds.any fun z => PyData.eqv z d) else ds.any fun z => PyData.eqv z d))
    | none => False)
  | some (.str j) => (match a with
    | .str i => Q (.bl (if neg then !(!(Builtin.Str.occurrences j i 0 j.length 1).isEmpty) else !(Builtin.Str.occurrences j i 0 j.length 1).isEmpty))
    | _ => False)
  | _ => False
theorem snd_in {neg : Bool} : SndR K (rInA K neg) (fIn neg) := by
  intro c W σ s x y d1 d2 Qv Qd R r1 r2 h k
  unfold fIn at h
  cases e2 : toPyT s d2 with
  | none => rw [e2] at h; exact h.elim
  | some q =>
    rw [e2] at h
    cases q with
    | list ds =>
      cases e1 : toPyT s d1 with
      | none => simp only [e1] at h
      | some p =>
        simp only [e1] at h
        obtain ⟨h1, h2, h3⟩ := h
        exact .inl ⟨p, ds, toPyT_spec R r1 e1, .inl (toPyT_spec R r2 e2), h1, h2, k _ W _ R (Pr.refl _) (Rep.bl _).t h3⟩
    | tuple ds =>
      cases e1 : toPyT s d1 with
      | none => simp only [e1] at h
      | some p =>
        simp only [e1] at h
        obtain ⟨h1, h2, h3⟩ := h
        exact .inl ⟨p, ds, toPyT_spec R r1 e1, .inr (toPyT_spec R r2 e2), h1, h2, k _ W _ R (Pr.refl _) (Rep.bl _).t h3⟩
    | str j =>
      cases d1 with
      | str i =>
        have dp := toPyT_spec R r2 e2
        cases dp
        cases r1
        exact .inr ⟨i, j, rfl, rfl, k _ W _ R (Pr.refl _) (Rep.bl _).t h⟩
      | _ => exact h.elim
    | _ => exact h.elim
theorem o_in (hu : X.A.units + 65 < cLine) : OpR X (compareOp .In) (rInA X.K false) ∧ SndR X.K (rInA X.K false) (fIn false) := ⟨op_inA hu, snd_in⟩
theorem o_nin (hu : X.A.units + 65 < cLine) : OpR X (compareOp .NotIn) (rInA X.K true) ∧ SndR X.K (rInA X.K true) (fIn true) := ⟨op_notInA hu, snd_in⟩
end
end DL

namespace DL
open PySem L2
section
variable {X : Cx} {K : PySem.W.Frag} {c : C0} {a b e : Expr} {es rest : List Expr} {te tea teb : TE} {t ta tb : DE} {pos : Pos} {tt tta ttb : TT} {d da db : DT}

/-! ### + and * -/
def rAddA (K : PySem.W.Frag) : R2 := fun x y H Q => (rI0 fun i j => .int (i + j)) x y H Q ∨ (fun x y H Q => ∃ i j, x = .str i ∧ y = .str j ∧ i.length + j.length ≤ sizeLine ∧ Q (.str (i ++ j)) H : R2) x y H Q ∨ rCatT K x y H Q ∨ rCat x y H Q
def fAdd : DR := fun s a b Q => match a, b with
  | .int i, .int j => Q (.int (i + j))
  | .str i, .str j => i.length + j.length ≤ sizeLine ∧ Q (.str (i ++ j))
  | .tup xs, .tup ys => xs ≠ [] ∧ xs.length + ys.length ≤ sizeLine ∧ Q (.tup (xs ++ ys))
  | x, y => match asL s x, asL s y with
    | some xs, some ys => xs.length + ys.length ≤ sizeLine ∧ Q (.lst (xs ++ ys))
    | _, _ => False
theorem snd_addL {W : Wd} {σ : St} {s : DS} {x y : V} {d1 d2 : D} {Qv : VK} {Qd : D → Prop} (R : Rel K c W σ s) (r1 : RepT K W σ x d1) (r2 : RepT K W σ y d2)
    (h : match asL s d1, asL s d2 with
      | some xs, some ys => xs.length + ys.length ≤ sizeLine ∧ Qd (.lst (xs ++ ys))
      | _, _ => False) (k : ∀ v W' d, Rel K c W' σ s → Pr W W' → RepT K W' σ v d → Qd d → Qv v W'.H) : rCat x y W.H Qv := by
  cases e1 : asL s d1 with
  | none => rw [e1] at h; exact h.elim
  | some xs =>
    cases e2 : asL s d2 with
    | none => rw [e1, e2] at h; exact h.elim
    | some ys =>
      rw [e1, e2] at h
      obtain ⟨hz, q⟩ := h
      obtain ⟨l, vs, rfl, h1, p1⟩ := asL_spec R r1 e1
      obtain ⟨m, ws, rfl, h2, p2⟩ := asL_spec R r2 e2
      refine ⟨l, m, vs, ws, rfl, rfl, h1, h2, by rw [p1.length, p2.length]; exact hz, fun p hp => ?_⟩
      exact k (.ref p) ⟨W.M, upd W.H p (.lst (vs ++ ws)), W.pa⟩ (.lst (xs ++ ys)) (R.same (same_new hp)) (Pr.new hp) (Rep.lst upd_same (R.fresh hp) ((p1.append p2).mono (Pr.new hp))) q
theorem snd_add : SndR K (rAddA K) fAdd := by
  intro c W σ s x y d1 d2 Qv Qd R r1 r2 h k
  unfold fAdd at h
  split at h
  · cases r1; cases r2
    exact .inl ⟨_, _, rfl, rfl, k _ W _ R (Pr.refl _) (Rep.int _).t h⟩
  · cases r1; cases r2
    exact .inr (.inl ⟨_, _, rfl, rfl, h.1, k _ W _ R (Pr.refl _) (Rep.str _).t h.2⟩)
  · rename_i xs ys
    obtain ⟨h1, hz, q⟩ := h
    cases r1 with
    | tup q1 p1 =>
      cases r2 with
      | tup q2 p2 =>
        rename_i a1 vs a2 ws
        refine .inr (.inr (.inl ⟨a1, a2, vs, ws, rfl, rfl, TupV.sq (.inl q1), TupV.sq (.inl q2), ?_, by rw [p1.length, p2.length]; exact hz, fun en => ?_, fun en p hp => ?_⟩))
        · intro en
          subst en
          cases p1
          exact h1 rfl
        · subst en
          cases p2
          refine k (.ref a1) W _ R (Pr.refl _) ?_ q
          rw [List.append_nil]
          exact Rep.tup q1 p1
        · exact k (.ref p) ⟨W.M, upd W.H p (.tup (vs ++ ws)), W.pa⟩ (.tup (xs ++ ys)) (R.same (same_new hp)) (Pr.new hp) (Rep.tup upd_same ((p1.append p2).mono (Pr.new hp))) q
  · exact .inr (.inr (.inr (snd_addL R r1 r2 h k)))
theorem o_add : OpR X (binaryOp .Add) (rAddA X.K) ∧ SndR X.K (rAddA X.K) fAdd := ⟨OpR.or op_add (OpR.or op_add_str (OpR.or op_catT op_cat)), snd_add⟩
def rMulA : R2 := fun x y H Q => (rI CMul fun i j => .int (i * j)) x y H Q ∨ rRep x y H Q
def fMul : DR := fun s a b Q => match a, b with
  | .int i, .int j => CMul i j ∧ Q (.int (i * j))
  | x, .int j => match asL s x with
    | some xs => -(2 ^ 63) ≤ j ∧ j < 2 ^ 63 ∧ xs.length * j.toNat ≤ sizeLine ∧ Q (.lst (List.replicate j.toNat xs).flatten)
    | none => False
  | _, _ => False
theorem rep_reps {K : PySem.W.Frag} {W : Wd} {vs : List V} {ds : List D} (r : Reps K W vs ds) : ∀ n : Nat, Reps K W (List.replicate n vs).flatten (List.replicate n ds).flatten
  | 0 => .nil
  | n + 1 => by
    rw [List.replicate_succ, List.replicate_succ, List.flatten_cons, List.flatten_cons]
    exact r.append (rep_reps r n)
theorem snd_mul : SndR K rMulA fMul := by
  intro c W σ s x y d1 d2 Qv Qd R r1 r2 h k
  unfold fMul at h
  split at h
  · cases r1; cases r2
    exact .inl ⟨_, _, rfl, rfl, h.1, k _ W _ R (Pr.refl _) (Rep.int _).t h.2⟩
  · rename_i j _
    cases e1 : asL s d1 with
    | none => rw [e1] at h; exact h.elim
    | some xs =>
      rw [e1] at h
      obtain ⟨h1, h2, h3, q⟩ := h
      obtain ⟨l, vs, rfl, hl, p1⟩ := asL_spec R r1 e1
      cases r2
      refine .inr ⟨l, j, vs, rfl, rfl, hl, h1, h2, by rw [p1.length]; exact h3, fun p hp => ?_⟩
      exact k (.ref p) ⟨W.M, upd W.H p (.lst (List.replicate j.toNat vs).flatten), W.pa⟩ (.lst (List.replicate j.toNat xs).flatten) (R.same (same_new hp)) (Pr.new hp) (Rep.lst upd_same (R.fresh hp) ((rep_reps p1 _).mono (Pr.new hp))) q
  · exact h.elim
theorem o_mul : OpR X (binaryOp .Mult) rMulA ∧ SndR X.K rMulA fMul := ⟨OpR.or op_mul op_rep, snd_mul⟩

/-! ### x[i] -/
def fIx : DR := fun s a b Q => match b with
  | .int i => match a with
    | .str z => z.length ≤ sizeLine ∧ ∃ c, atI z.cps.toList i = some c ∧ Q (.str ⟨#[c]⟩)
    | a => match asSeq s a with
      | some xs => match atI xs i with
        | some d => d.isSlot = false ∧ Q d
        | none => False
      | none => False
  | _ => False
theorem atI_reps {K : PySem.W.Frag} {W : Wd} {vs : List V} {ds : List D} (r : Reps K W vs ds) {i : Int} {d : D} (h : atI ds i = some d) : ∃ v, atI vs i = some v ∧ Rep K W v d := by
  unfold atI at h ⊢
  rw [r.length]
  cases e : ixN ds.length i with
  | none => rw [e] at h; cases h
  | some j =>
    rw [e] at h
    exact r.get h
theorem snd_ix : SndR K (rIx K) fIx := by
  intro c W σ s x y d1 d2 Qv Qd R r1 r2 h k
  unfold fIx at h
  split at h
  · rename_i i
    cases r2
    split at h
    · rename_i z
      obtain ⟨hz, cc, hc, q⟩ := h
      cases r1
      exact .inr (.inr ⟨z, i, cc, rfl, rfl, hz, hc, k _ W _ R (Pr.refl _) (Rep.str _).t q⟩)
    · cases e1 : asSeq s d1 with
      | none => rw [e1] at h; exact h.elim
      | some xs =>
        rw [e1] at h
        simp only at h
        cases e2 : atI xs i with
        | none => rw [e2] at h; exact h.elim
        | some dd =>
          rw [e2] at h
          obtain ⟨l, vs, rfl, hs, p1⟩ := asSeq_spec R r1 e1
          obtain ⟨v, hv, rv⟩ := atI_reps p1 e2
          rcases hs with hs | hs
          · exact .inl ⟨l, vs, i, v, rfl, rfl, hs, hv, k v W dd R (Pr.refl _) rv.t h.2⟩
          · exact .inr (.inl ⟨l, vs, i, v, rfl, rfl, hs.sq, hv, k v W dd R (Pr.refl _) rv.t h.2⟩)
  · exact h.elim
theorem d_ix (ha : PD X a tea ta) (hb : PD X b teb tb) (hs : PlainIx b := by exact fun _ _ => rfl) : PD X (.Subscript a b pos) (tOp (rIx X.K) tea teb) (dOp fIx ta tb) := ⟨pe_ix ix_seq ha.pe hb.pe hs, snd_op snd_ix ha.snd hb.snd⟩

/-! ### tests -/
theorem dt_val (h : PD X e te t) (he : ∀ whole, isTrue e X.env whole = (do let v ← whole; standAt e.pos; holding [v] (truthy v)) := by intro _; rfl) : PDT X e (tB te) (dB t) := by
  refine ⟨pt_val h.pe he, ?_⟩
  intro c W σ s Qv Qd R hq k
  refine h.snd c W σ s _ _ R hq fun v W1 d s1 R1 p1 r1 q1 => ?_
  cases d with
  | bl b =>
    cases r1
    exact ⟨b, rfl, k b W1 s1 R1 p1 q1⟩
  | _ => exact q1.elim
/-- truth of a value -/
def dTru (s : DS) : D → Option Bool
  | .non => some false
  | .bl b => some b
  | .int i => some (i != 0)
  | .str y => if y.length ≤ sizeLine then some ((y.length : Int) != 0) else none
  | d => (asSeq s d).map fun xs => !xs.isEmpty
def dTr (t : DE) : DT := fun s Q => t s fun d s1 => match dTru s1 d with
  | some b => Q b s1
  | none => False
theorem Reps.isEmpty {K : PySem.W.Frag} {W : Wd} {vs : List V} {ds : List D} (r : Reps K W vs ds) : (!ds.isEmpty) = !vs.isEmpty := by
  cases r <;> rfl
theorem tru_seq {W : Wd} {σ : St} {s : DS} {x : V} {d : D} {b : Bool} (R : Rel K c W σ s) (r : RepT K W σ x d) (h : ((asSeq s d).map fun xs => !xs.isEmpty) = some b) : TruV K x W.H b := by
  cases e : asSeq s d with
  | none => rw [e] at h; cases h
  | some xs =>
    rw [e] at h
    cases h
    obtain ⟨l, vs, rfl, hs, p⟩ := asSeq_spec R r e
    rcases hs with hs | hs
    · exact .inl ⟨vs, hs, p.isEmpty⟩
    · exact .inr (.inl ⟨vs, hs.sq, p.isEmpty⟩)
theorem tru_spec {W : Wd} {σ : St} {s : DS} {x : V} {d : D} {b : Bool} (R : Rel K c W σ s) (r : RepT K W σ x d) (h : dTru s d = some b) : TruV K x W.H b := by
  cases d with
  | non => cases r; cases h; rfl
  | bl _ => cases r; cases h; rfl
  | int _ => cases r; cases h; rfl
  | str y =>
    cases r
    have h' : (if y.length ≤ sizeLine then some ((y.length : Int) != 0) else none) = some b := h
    by_cases hz : y.length ≤ sizeLine
    · rw [if_pos hz] at h'
      cases h'
      exact ⟨hz, rfl⟩
    · rw [if_neg hz] at h'
      cases h'
  | _ => exact tru_seq R r h
theorem dt_tru (h : PD X e te t) (he : ∀ whole, isTrue e X.env whole = (do let v ← whole; standAt e.pos; holding [v] (truthy v)) := by intro _; rfl) :
    PDT X e (fun σ H Q => te σ H fun x H' => ∃ k, TruV X.K x H' k ∧ Q k H') (dTr t) := by
  refine ⟨pt_truth h.pe he, ?_⟩
  intro c W σ s Qv Qd R hq k
  refine h.snd c W σ s _ _ R hq fun v W1 d s1 R1 p1 r1 q1 => ?_
  cases e : dTru s1 d with
  | none => rw [e] at q1; exact q1.elim
  | some b =>
    rw [e] at q1
    exact ⟨b, tru_spec R1 r1 e, k b W1 s1 R1 p1 q1⟩
def dAnd (t u : DT) : DT := fun s Q => t s fun b s1 => if b = true then u s1 Q else Q false s1
def dOr (t u : DT) : DT := fun s Q => t s fun b s1 => if b = true then Q true s1 else u s1 Q
def dNot (t : DT) : DT := fun s Q => t s fun b s1 => Q (!b) s1
theorem snd_and (h1 : SndT K tta da) (h2 : SndT K ttb db) : SndT K (tAnd tta ttb) (dAnd da db) := by
  intro c W σ s Qv Qd R hq k
  refine h1 c W σ s _ _ R hq fun b W1 s1 R1 p1 q1 => ?_
  cases b with
  | true => exact h2 c W1 σ s1 _ _ R1 q1 fun b W2 s2 R2 p2 q2 => k b W2 s2 R2 (p1.trans p2) q2
  | false => exact k false W1 s1 R1 p1 q1
theorem snd_or (h1 : SndT K tta da) (h2 : SndT K ttb db) : SndT K (tOr tta ttb) (dOr da db) := by
  intro c W σ s Qv Qd R hq k
  refine h1 c W σ s _ _ R hq fun b W1 s1 R1 p1 q1 => ?_
  cases b with
  | false => exact h2 c W1 σ s1 _ _ R1 q1 fun b W2 s2 R2 p2 q2 => k b W2 s2 R2 (p1.trans p2) q2
  | true => exact k true W1 s1 R1 p1 q1
structure PDW (X : Cx) (e : Expr) (tt : TT) (t : DT) : Prop where
  pw : PW X e tt
  snd : SndT X.K tt t
theorem PDW.pt (h : PDW X e tt d) : PDT X e tt d := ⟨h.pw.pt, h.snd⟩
theorem dw_and1 (h : PDT X a tta da) : PDW X (.BoolOp .And [a] pos) tta da := ⟨pw_and1 h.pt, h.snd⟩
theorem dw_or1 (h : PDT X a tta da) : PDW X (.BoolOp .Or [a] pos) tta da := ⟨pw_or1 h.pt, h.snd⟩
theorem dw_and (h1 : PDT X a tta da) (h2 : PDW X (.BoolOp .And (b :: rest) pos) ttb db) : PDW X (.BoolOp .And (a :: b :: rest) pos) (tAnd tta ttb) (dAnd da db) := ⟨pw_and h1.pt h2.pw, snd_and h1.snd h2.snd⟩
theorem dw_or (h1 : PDT X a tta da) (h2 : PDW X (.BoolOp .Or (b :: rest) pos) ttb db) : PDW X (.BoolOp .Or (a :: b :: rest) pos) (tOr tta ttb) (dOr da db) := ⟨pw_or h1.pt h2.pw, snd_or h1.snd h2.snd⟩
theorem dt_not (h : PDT X a tta da) : PDT X (.UnaryOp .Not a pos) (tNot tta) (dNot da) :=
  ⟨pt_not h.pt, fun c W σ s Qv Qd R hq k => h.snd c W σ s _ _ R hq fun b W1 s1 R1 p1 q1 => k (!b) W1 s1 R1 p1 q1⟩
/-! .. as values -/
def dAndV (t u : DE) : DE := fun s Q => t s fun d s1 => match d with
  | .bl b => if b = true then u s1 Q else Q (.bl false) s1
  | _ => False
def dOrV (t u : DE) : DE := fun s Q => t s fun d s1 => match d with
  | .bl b => if b = true then Q (.bl true) s1 else u s1 Q
  | _ => False
def dNotV (t : DE) : DE := fun s Q => t s fun d s1 => match d with
  | .bl b => Q (.bl (!b)) s1
  | _ => False
theorem d_one {op} (h : PD X a tea ta) : PD X (.BoolOp op [a] pos) tea ta := ⟨pe_one h.pe, h.snd⟩
theorem d_and (h1 : PD X a tea ta) (h2 : PD X (.BoolOp .And (b :: rest) pos) teb tb) : PD X (.BoolOp .And (a :: b :: rest) pos) (tAndV tea teb) (dAndV ta tb) := by
  refine ⟨pe_and h1.pe h2.pe, ?_⟩
  intro c W σ s Qv Qd R hq k
  refine h1.snd c W σ s _ _ R hq fun v W1 d s1 R1 p1 r1 q1 => ?_
  cases d with
  | bl b =>
    cases r1
    refine ⟨b, rfl, ?_⟩
    cases b with
    | true => exact h2.snd c W1 σ s1 _ _ R1 q1 fun v W2 d s2 R2 p2 r2 q2 => k v W2 d s2 R2 (p1.trans p2) r2 q2
    | false => exact k _ W1 _ s1 R1 p1 (Rep.bl false).t q1
  | _ => exact q1.elim
theorem d_or (h1 : PD X a tea ta) (h2 : PD X (.BoolOp .Or (b :: rest) pos) teb tb) : PD X (.BoolOp .Or (a :: b :: rest) pos) (tOrV tea teb) (dOrV ta tb) := by
  refine ⟨pe_or h1.pe h2.pe, ?_⟩
  intro c W σ s Qv Qd R hq k
  refine h1.snd c W σ s _ _ R hq fun v W1 d s1 R1 p1 r1 q1 => ?_
  cases d with
  | bl b =>
    cases r1
    refine ⟨b, rfl, ?_⟩
    cases b with
    | false => exact h2.snd c W1 σ s1 _ _ R1 q1 fun v W2 d s2 R2 p2 r2 q2 => k v W2 d s2 R2 (p1.trans p2) r2 q2
    | true => exact k _ W1 _ s1 R1 p1 (Rep.bl true).t q1
  | _ => exact q1.elim
theorem d_not (h : PD X a tea ta) : PD X (.UnaryOp .Not a pos) (tNotV tea) (dNotV ta) := by
  refine ⟨pe_not h.pe, ?_⟩
  intro c W σ s Qv Qd R hq k
  refine h.snd c W σ s _ _ R hq fun v W1 d s1 R1 p1 r1 q1 => ?_
  cases d with
  | bl b =>
    cases r1
    exact ⟨b, rfl, k _ W1 _ s1 R1 p1 (Rep.bl _).t q1⟩
  | _ => exact q1.elim
def dIf (t : DT) (ta tb : DE) : DE := fun s Q => t s fun b s1 => if b = true then ta s1 Q else tb s1 Q
theorem d_if {q : Expr} (h : PDT X q tt d) (h1 : PD X a tea ta) (h2 : PD X b teb tb) : PD X (.IfExp q a b pos) (tIf tt tea teb) (dIf d ta tb) := by
  refine ⟨pe_ifExp h.pt h1.pe h2.pe, ?_⟩
  intro c W σ s Qv Qd R hq k
  refine h.snd c W σ s _ _ R hq fun b W1 s1 R1 p1 q1 => ?_
  cases b with
  | true => exact h1.snd c W1 σ s1 _ _ R1 q1 fun v W2 d s2 R2 p2 r2 q2 => k v W2 d s2 R2 (p1.trans p2) r2 q2
  | false => exact h2.snd c W1 σ s1 _ _ R1 q1 fun v W2 d s2 R2 p2 r2 q2 => k v W2 d s2 R2 (p1.trans p2) r2 q2
/-- -a -/
def dNeg (t : DE) : DE := fun s Q => t s fun d s1 => match d with
  | .int i => Q (.int (-i)) s1
  | _ => False
theorem d_neg (h : PD X a tea ta) : PD X (.UnaryOp .USub a pos) (tUn (rU fun i => .int (-i)) tea) (dNeg ta) := by
  refine ⟨pe_un un_neg h.pe, ?_⟩
  intro c W σ s Qv Qd R hq k
  refine h.snd c W σ s _ _ R hq fun v W1 d s1 R1 p1 r1 q1 => ?_
  cases d with
  | int i =>
    cases r1
    exact ⟨i, rfl, k _ W1 _ s1 R1 p1 (Rep.int _).t q1⟩
  | _ => exact q1.elim

/-! ### calls of built-ins by values -/
abbrev DCl := DS → List D → (D → Prop) → Prop
def SndC (K : PySem.W.Frag) (r : List V → Hp → VK → Prop) (f : DCl) : Prop := ∀ (c : C0) (W : Wd) (σ : St) (s : DS) (xs : List V) (ds : List D) (Qv : VK) (Qd : D → Prop), Rel K c W σ s → RepsT K W σ xs ds → f s ds Qd →
  (∀ v W' d, Rel K c W' σ s → Pr W W' → RepT K W' σ v d → Qd d → Qv v W'.H) → r xs W.H Qv
def dCB (f : DCl) (t : DA) : DE := fun s Q => t s fun ds s1 => f s1 ds fun d => Q d s1
theorem snd_cb {r : List V → Hp → VK → Prop} {f : DCl} {taa : TA} {ra : DA} (hr : SndC K r f) (ha : SndA K taa ra) : SndE K (tCB r taa) (dCB f ra) := by
  intro c W σ s Qv Qd R hq k
  refine ha c W σ s _ _ R hq fun vs W1 ds s1 R1 p1 r1 q1 => ?_
  exact hr c W1 σ s1 vs ds _ _ R1 r1 q1 fun v W2 d R2 p2 r2 q2 => k v W2 d s1 R2 (p1.trans p2) r2 q2
/-- f(e, ..), f a built-in function -/
theorem d_callB {x : Str} {p : Pos} {id : String} {r : List V → Hp → VK → Prop} {f : DCl} {taa : TA} {ra : DA} (h : CallR X (.builtin id) r ∧ SndC X.K r f) (hg : Gl X x) (hm : X.mg x = none) (hv : bootBuiltins x = some (.builtin id)) (ha : PDA X (e :: es) taa ra)
    (hn : x ≠ "__name__" := by decide) (hdb : (x == ("__debug__" : Str)) = false := by decide)
    (he : starEach (e :: es) X.env = (false, eval e X.env) :: starEach es X.env := by rfl) (hpl : (backTo pos (starEach es X.env)).any (·.1) = false := by rfl) : PD X (.Call (.Name x p) (e :: es) [] pos) (tCB r taa) (dCB f ra) :=
  ⟨pe_callB h.1 hg hm hv ha.pa hn hdb he hpl, snd_cb h.2 ha.snd⟩
/-- T(e, ..), T a built-in type -/
theorem d_callTy {x : Str} {p : Pos} {T : String} {r : List V → Hp → VK → Prop} {f : DCl} {taa : TA} {ra : DA} (h : CallR X (.type T) r ∧ SndC X.K r f) (hg : Gl X x) (hm : X.mg x = none) (hv : bootBuiltins x = some (.type T)) (ha : PDA X (e :: es) taa ra)
    (hn : x ≠ "__name__" := by decide) (hdb : (x == ("__debug__" : Str)) = false := by decide)
    (he : starEach (e :: es) X.env = (false, eval e X.env) :: starEach es X.env := by rfl) (hpl : (backTo pos (starEach es X.env)).any (·.1) = false := by rfl) : PD X (.Call (.Name x p) (e :: es) [] pos) (tCB r taa) (dCB f ra) :=
  ⟨pe_callTy h.1 hg hm hv ha.pa hn hdb he hpl, snd_cb h.2 ha.snd⟩
end
end DL

namespace DL
open PySem L2

structure DEnds where
  nx : DS → Prop
  rt : D → DS → Prop
  bk : DS → Prop := fun _ => False
  ct : DS → Prop := fun _ => False
abbrev DTS := DEnds → DS → Prop
structure Cmp (K : PySem.W.Frag) (c : C0) (W : Wd) (E : Ends) (F : DEnds) : Prop where
  nx : ∀ W' σ' s', Rel K c W' σ' s' → Pr W W' → F.nx s' → E.nx σ' W'.H
  rt : ∀ v W' σ' d s', Rel K c W' σ' s' → Pr W W' → RepT K W' σ' v d → F.rt d s' → E.rt v W'.H
  bk : ∀ W' σ' s', Rel K c W' σ' s' → Pr W W' → F.bk s' → E.bk σ' W'.H
  ct : ∀ W' σ' s', Rel K c W' σ' s' → Pr W W' → F.ct s' → E.ct σ' W'.H
theorem Cmp.later {c : C0} {W W1 : Wd} {E : Ends} {F : DEnds} (h : Cmp K c W E F) (p : Pr W W1) : Cmp K c W1 E F :=
  ⟨fun W' σ' s' R q => h.nx W' σ' s' R (p.trans q), fun v W' σ' d s' R q => h.rt v W' σ' d s' R (p.trans q), fun W' σ' s' R q => h.bk W' σ' s' R (p.trans q), fun W' σ' s' R q => h.ct W' σ' s' R (p.trans q)⟩
def SndS (K : PySem.W.Frag) (ts : TS) (t : DTS) : Prop := ∀ (c : C0) (W : Wd) (σ : St) (s : DS) (E : Ends) (F : DEnds), Rel K c W σ s → Cmp K c W E F → t F s → ts E σ W.H
structure PDS (X : Cx) (st : Stmt) (ts : TS) (t : DTS) : Prop where
  ps : PS X st ts
  snd : SndS X.K ts t
structure PDSs (X : Cx) (sts : List Stmt) (ts : TS) (t : DTS) : Prop where
  ps : PSs X sts ts
  snd : SndS X.K ts t

/-! ### slots that change -/
section
variable {K : PySem.W.Frag} {c : C0} {W : Wd} {σ : St} {s : DS}
theorem get_set_eq {α : Type} {l : List α} {i : Nat} {x y : α} (h : (l.set i x)[i]? = some y) : y = x ∧ i < l.length := by
  by_cases hi : i < l.length
  · rw [List.getElem?_set_self hi] at h
    exact ⟨(Option.some.inj h).symm, hi⟩
  · rw [List.getElem?_eq_none (by rw [List.length_set]; omega)] at h
    cases h
theorem get_set_ne {α : Type} {l : List α} {i j : Nat} {x : α} (h : i ≠ j) : (l.set i x)[j]? = l[j]? := List.getElem?_set_ne h
/-- slot i gets a new entry; nothing else changes -/
theorem Rel.put (R : Rel K c W σ s) (i : Nat) (v : Option V) (e : EV) (he : i < σ.length → EntOk K c W (σ.set i v) i e)
    (hd : ∀ l, e.isOwn = true → v = some (.ref l) → ∀ j, j ≠ i → ¬ Owns s σ j l) : Rel K c W (σ.set i v) { s with sl := s.sl.set i e } := by
  have ent : ∀ j x, (s.sl.set i e)[j]? = some x → EntOk K c W (σ.set i v) j x := fun j x h => by
    by_cases hj : i = j
    · subst hj
      obtain ⟨rfl, hi⟩ := get_set_eq h
      exact he (by rw [← R.len]; exact hi)
    · rw [get_set_ne hj] at h
      have q := R.ent j x h
      have hs : (σ.set i v)[j]? = σ[j]? := get_set_ne hj
      cases x <;> simp only [EntOk, hs] at q ⊢ <;> exact q
  refine ⟨by rw [List.length_set, List.length_set]; exact R.len, R.m0, R.wpa, ent, ?_, R.sub, R.kp, R.there, R.old, R.mm, R.mo0, R.mop, R.mp, R.npl, R.paw⟩
  have back : ∀ j l, j ≠ i → Owns { s with sl := s.sl.set i e } (σ.set i v) j l → Owns s σ j l := fun j l hj o => by
    obtain ⟨⟨x, h1, h2⟩, h3⟩ := o
    have h1' : (s.sl.set i e)[j]? = some x := h1
    rw [get_set_ne (Ne.symm hj)] at h1'
    rw [get_set_ne (Ne.symm hj)] at h3
    exact ⟨⟨x, h1', h2⟩, h3⟩
  have at_ : ∀ l, Owns { s with sl := s.sl.set i e } (σ.set i v) i l → e.isOwn = true ∧ v = some (.ref l) := fun l o => by
    obtain ⟨⟨x, h1, h2⟩, h3⟩ := o
    obtain ⟨rfl, hi⟩ := get_set_eq h1
    rw [List.getElem?_set_self (by rw [← R.len]; exact hi)] at h3
    exact ⟨h2, Option.some.inj h3⟩
  intro j k l hj hk
  by_cases h1 : j = i
  · by_cases h2 : k = i
    · rw [h1, h2]
    · subst h1
      obtain ⟨a1, a2⟩ := at_ l hj
      exact absurd (back k l h2 hk) (hd l a1 a2 k h2)
  · by_cases h2 : k = i
    · subst h2
      obtain ⟨a1, a2⟩ := at_ l hk
      exact absurd (back j l h1 hj) (hd l a1 a2 j h1)
    · exact R.dis j k l (back j l h1 hj) (back k l h2 hk)
theorem Rel.putFz (R : Rel K c W σ s) (i : Nat) {v : V} {d : D} (r : Rep K W v d) : Rel K c W (σ.set i (some v)) { s with sl := s.sl.set i (.fz d) } :=
  R.put i (some v) (.fz d) (fun hi => ⟨v, List.getElem?_set_self hi, r⟩) fun _ h => by cases h
theorem Rel.putUn (R : Rel K c W σ s) (i : Nat) (v : Option V) : Rel K c W (σ.set i v) { s with sl := s.sl.set i .un } :=
  R.put i v .un (fun _ => trivial) fun _ h => by cases h
/-- what a slot owns: it is not tracked as data, it is none of the other slots' -/
theorem Rel.owns_ne (R : Rel K c W σ s) {i j : Nat} {l m : Addr} (hi : Owns s σ i l) (hj : Owns s σ j m) (h : i ≠ j) : l ≠ m := fun e => by
  subst e
  exact h (R.dis i j l hi hj)
theorem Owns.ent (R : Rel K c W σ s) {i : Nat} {l : Addr} (h : Owns s σ i l) : W.M l ∧ c.May l ∧ ∃ o, W.H l = some o ∧ ¬ Fix o := by
  obtain ⟨⟨e, h1, h2⟩, h3⟩ := h
  have may : ∀ {l : Addr}, c.H0 l = none → c.May l := fun {l} h0 => ⟨fun e => R.mo0 _ R.mop (e ▸ h0), .inl h0⟩
  have q := R.ent i e h1
  cases e with
  | un => cases h2
  | fz _ => cases h2
  | own xs =>
    obtain ⟨l', vs, a1, a2, a3, a4, a5⟩ := q
    rw [h3] at a1; cases a1
    exact ⟨a2, may a3, _, a4, fun z => z⟩
  | ownT xs =>
    obtain ⟨l', vs, a1, a2, a3, a4, a5⟩ := q
    rw [h3] at a1; cases a1
    exact ⟨a2, may a3, _, a4, fun z => z⟩
  | ownK xs =>
    obtain ⟨l', vs, a1, a2, a3, a4, a5⟩ := q
    rw [h3] at a1; cases a1
    exact ⟨a2, may a3, _, a4, fun z => z⟩
  | ownI LL DD C xs =>
    obtain ⟨l', dx, vs, a1, a2, a3, a4, a5⟩ := q
    rw [h3] at a1; cases a1
    exact ⟨a2, a3, _, a4, fun z => z⟩
theorem Pr.mut {l : Addr} {o o' : HO} (hm : W.M l) (ho : W.H l = some o) (hf : ¬ Fix o) : Pr W ⟨W.M, upd W.H l o', W.pa⟩ := ⟨fun a u h k => by
  have ne : a ≠ l := fun e => by
    subst e
    rw [ho] at h
    cases h
    rcases k with k | k
    · exact k hm
    · exact hf k
  exact ⟨(upd_ne ne).trans h, id⟩, rfl⟩
/-- the object that slot i owns is written: its new entry e -/
theorem Rel.write (R : Rel K c W σ s) {i : Nat} {l : Addr} {o : HO} (e : EV) (ho : Owns s σ i l) (hpl : l ≠ c.pl)
    (he : EntOk K c ⟨W.M, upd W.H l o, W.pa⟩ σ i e) (hown : e.isOwn = true) : Rel K c ⟨W.M, upd W.H l o, W.pa⟩ σ { s with sl := s.sl.set i e } := by
  obtain ⟨hm, hmay, u, hu, hf⟩ := ho.ent R
  have P : Pr W ⟨W.M, upd W.H l o, W.pa⟩ := Pr.mut hm hu hf
  have other : ∀ j x, j ≠ i → s.sl[j]? = some x → EntOk K c ⟨W.M, upd W.H l o, W.pa⟩ σ j x := fun j x hj h => by
    have q := R.ent j x h
    have ne : ∀ m, x.isOwn = true → σ[j]? = some (some (.ref m)) → m ≠ l := fun m hx hs => R.owns_ne ⟨⟨x, h, hx⟩, hs⟩ ho hj
    cases x with
    | un => trivial
    | fz d =>
      obtain ⟨v, a1, a2⟩ := q
      exact ⟨v, a1, a2.mono P⟩
    | own xs =>
      obtain ⟨m, vs, a1, a2, a3, a4, a5⟩ := q
      exact ⟨m, vs, a1, a2, a3, (upd_ne (ne m rfl a1)).trans a4, a5.mono P⟩
    | ownT xs =>
      obtain ⟨m, vs, a1, a2, a3, a4, a5, a6⟩ := q
      exact ⟨m, vs, a1, a2, a3, (upd_ne (ne m rfl a1)).trans a4, a5, a6.mono P⟩
    | ownK xs =>
      obtain ⟨m, vs, a1, a2, a3, a4, a5, a6⟩ := q
      exact ⟨m, vs, a1, a2, a3, (upd_ne (ne m rfl a1)).trans a4, a5, a6.mono P⟩
    | ownI LL DD C xs =>
      obtain ⟨m, dx, vs, a1, a2, a3, a4, a5, a6⟩ := q
      exact ⟨m, dx, vs, a1, a2, a3, (upd_ne (ne m rfl a1)).trans a4, a5, a6.mono P⟩
  have bk : ∀ j m, Owns { s with sl := s.sl.set i e } σ j m → Owns s σ j m := fun j m q => by
    obtain ⟨⟨x, h1, h2⟩, h3⟩ := q
    by_cases hj : i = j
    · subst hj
      exact ⟨ho.1, h3⟩
    · have h1' : (s.sl.set i e)[j]? = some x := h1
      rw [get_set_ne hj] at h1'
      exact ⟨⟨x, h1', h2⟩, h3⟩
  refine ⟨by rw [List.length_set]; exact R.len, R.m0, R.wpa, fun j x h => ?_, fun j k m a b => R.dis j k m (bk j m a) (bk k m b), R.sub, fun a u h n => ?_, fun a h => ?_, R.old, R.mm, R.mo0, R.mop, R.mp, R.npl, ?_⟩
  · by_cases hj : i = j
    · subst hj
      obtain ⟨rfl, hi⟩ := get_set_eq h
      exact he
    · rw [get_set_ne hj] at h
      exact other j x (Ne.symm hj) h
  · have ne : a ≠ l := fun z => by
      subst z
      rcases hmay.2 with q | q
      · rw [h] at q; cases q
      · exact n q
    exact (upd_ne ne).trans (R.kp a u h n)
  · by_cases z : a = l
    · subst z; exact ⟨o, upd_same⟩
    · obtain ⟨u, q⟩ := R.there a h
      exact ⟨u, (upd_ne z).trans q⟩
  · obtain ⟨t, r, ns, h1, h2, h3⟩ := R.paw
    exact ⟨t, r, ns, (upd_ne (Ne.symm hmay.1)).trans h1, (upd_ne (Ne.symm hpl)).trans h2, h3⟩
theorem Owns.npl (R : Rel K c W σ s) {i : Nat} {l : Addr} (h : Owns s σ i l) : l ≠ c.pl := fun e => R.npl (e ▸ (h.ent R).1)
/-- a new object that is the def's own -/
theorem Rel.laid (R : Rel K c W σ s) {p : Addr} (o : HO) (hp : W.H p = none) : Rel K c ⟨fun a => W.M a ∨ a = p, upd W.H p o, W.pa⟩ σ s := by
  have P : Pr W ⟨fun a => W.M a ∨ a = p, upd W.H p o, W.pa⟩ := ⟨fun a u h _ => ⟨(upd_ne (ne_of_none h hp)).trans h, fun n z => z.elim n fun e => by subst e; rw [hp] at h; cases h⟩, rfl⟩
  have K := same_new (o := o) hp
  refine ⟨R.len, R.m0, R.wpa, fun j x h => ?_, R.dis, fun a h => .inl (R.sub a h), fun a u h n => K _ _ (R.kp a u h n), fun a h => ?_, fun a h1 h2 => ?_, fun a h => .inl (R.mm a h), R.mo0, R.mop, .inl R.mp, fun z => ?_, R.paw.same K⟩
  · have q := R.ent j x h
    cases x with
    | un => trivial
    | fz d =>
      obtain ⟨v, a1, a2⟩ := q
      exact ⟨v, a1, a2.mono P⟩
    | own xs =>
      obtain ⟨m, vs, a1, a2, a3, a4, a5⟩ := q
      exact ⟨m, vs, a1, .inl a2, a3, K _ _ a4, a5.mono P⟩
    | ownT xs =>
      obtain ⟨m, vs, a1, a2, a3, a4, a5, a6⟩ := q
      exact ⟨m, vs, a1, .inl a2, a3, K _ _ a4, a5, a6.mono P⟩
    | ownK xs =>
      obtain ⟨m, vs, a1, a2, a3, a4, a5, a6⟩ := q
      exact ⟨m, vs, a1, .inl a2, a3, K _ _ a4, a5, a6.mono P⟩
    | ownI LL DD C xs =>
      obtain ⟨m, dx, vs, a1, a2, a3, a4, a5, a6⟩ := q
      exact ⟨m, dx, vs, a1, .inl a2, a3, K _ _ a4, a5, a6.mono P⟩
  · rcases h with h | rfl
    · obtain ⟨u, q⟩ := R.there a h
      exact ⟨u, K _ _ q⟩
    · exact ⟨o, upd_same⟩
  · rcases h2 with h2 | rfl
    · exact R.old a h1 h2
    · exfalso
      cases e : c.H0 a with
      | none => exact h1 e
      | some u =>
        by_cases z : c.mo a
        · obtain ⟨v, q⟩ := R.there a (R.mm a z)
          rw [hp] at q
          cases q
        · have q := R.kp a u e z
          rw [hp] at q
          cases q
  · rcases z with z | z
    · exact R.npl z
    · obtain ⟨t, r, ns, h1, h2, h3⟩ := R.paw
      rw [z] at h2
      rw [hp] at h2
      cases h2
end
end DL

namespace DL
open PySem L2
section
variable {X : Cx} {K : PySem.W.Frag} {c : C0} {e : Expr} {es : List Expr} {te : TE} {t : DE} {pos : Pos} {st : Stmt} {sts : List Stmt} {ts us : TS} {d u : DTS} {tt : TT} {dt : DT}
/-! ### blocks, small statements -/
def dNext : DTS := fun F s => F.nx s
def dSeq (a b : DTS) : DTS := fun F s => a { F with nx := b F } s
theorem dss_nil : PDSs X [] tNext dNext := ⟨pss_nil, fun c W σ s E F R C h => C.nx W σ s R (Pr.refl _) h⟩
theorem snd_seq (h1 : SndS K ts d) (h2 : SndS K us u) : SndS K (tSeq ts us) (dSeq d u) := fun c W σ s E F R C h =>
  h1 c W σ s _ { F with nx := u F } R ⟨fun W' σ' s' R' p q => h2 c W' σ' s' E F R' (C.later p) q, C.rt, C.bk, C.ct⟩ h
theorem dss_cons (h1 : PDS X st ts d) (h2 : PDSs X sts us u) : PDSs X (st :: sts) (tSeq ts us) (dSeq d u) := ⟨pss_cons h1.ps h2.ps, snd_seq h1.snd h2.snd⟩
theorem dss_one (h1 : PDS X st ts d) : PDSs X [st] ts d := ⟨pss_one h1.ps, h1.snd⟩
def dBreak : DTS := fun F s => F.bk s
def dCont : DTS := fun F s => F.ct s
theorem ds_pass : PDS X (.Pass pos) tNext dNext := ⟨ps_pass, fun c W σ s E F R C h => C.nx W σ s R (Pr.refl _) h⟩
theorem ds_break : PDS X (.Break pos) tBreak dBreak := ⟨ps_break, fun c W σ s E F R C h => C.bk W σ s R (Pr.refl _) h⟩
theorem ds_continue : PDS X (.Continue pos) tCont dCont := ⟨ps_continue, fun c W σ s E F R C h => C.ct W σ s R (Pr.refl _) h⟩
def dNever : DTS := fun _ _ => False
theorem ds_never : PDS X st tNever dNever := ⟨ps_never, fun _ _ _ _ _ _ _ _ h => h.elim⟩
theorem dss_never : PDSs X sts tNever dNever := ⟨pss_never, fun _ _ _ _ _ _ _ _ h => h.elim⟩
def dDrop (t : DE) : DTS := fun F s => t s fun _ s1 => F.nx s1
theorem ds_expr (he : PD X e te t) (hs : swapsWith e none pos.line X.env = pure false := by rfl) : PDS X (.Expr e pos) (tDrop te) (dDrop t) :=
  ⟨ps_expr he.pe hs, fun c W σ s E F R C h => he.snd c W σ s _ _ R h fun v W1 d s1 R1 p1 r1 q1 => C.nx W1 σ s1 R1 p1 q1⟩
def dRet (t : DE) : DTS := fun F s => t s F.rt
theorem ds_ret (he : PD X e te t) : PDS X (.Return (some e) pos) (tRet te) (dRet t) :=
  ⟨ps_ret he.pe, fun c W σ s E F R C h => he.snd c W σ s _ _ R h fun v W1 d s1 R1 p1 r1 q1 => C.rt v W1 σ d s1 R1 p1 r1 q1⟩
def dRetN : DTS := fun F s => F.rt .non s
theorem ds_retN : PDS X (.Return none pos) tRetN dRetN := ⟨ps_retN, fun c W σ s E F R C h => C.rt .non W σ .non s R (Pr.refl _) (Rep.non).t h⟩
def dIfS (q : DT) (a b : DTS) : DTS := fun F s => q s fun k s1 => if k = true then a F s1 else b F s1
theorem ds_if {q : Expr} {a b : List Stmt} (hq : PDT X q tt dt) (ha : PDSs X a ts d) (hb : PDSs X b us u) : PDS X (.If q a b pos) (tIfS tt ts us) (dIfS dt d u) := by
  refine ⟨ps_if hq.pt ha.ps hb.ps, fun c W σ s E F R C h => ?_⟩
  refine hq.snd c W σ s _ _ R h fun k W1 s1 R1 p1 q1 => ?_
  cases k with
  | true => exact ha.snd c W1 σ s1 E F R1 (C.later p1) q1
  | false => exact hb.snd c W1 σ s1 E F R1 (C.later p1) q1

/-! ### targets -/
abbrev DG := D → DS → (DS → Prop) → Prop
def SndG (K : PySem.W.Frag) (g : TG) (t : DG) : Prop := ∀ (c : C0) (W : Wd) (σ : St) (s : DS) (v : V) (d : D) (Qv : St → Hp → Prop) (Qd : DS → Prop), Rel K c W σ s → Rep K W v d → t d s Qd →
  (∀ W' σ' s', Rel K c W' σ' s' → Pr W W' → Qd s' → Qv σ' W'.H) → g v σ W.H Qv
structure PDG (X : Cx) (tg : Expr) (g : TG) (t : DG) : Prop where
  pg : PG X tg g
  snd : SndG X.K g t
def dgName (i : Nat) : DG := fun d s Q => Q { s with sl := s.sl.set i (.fz d) }
theorem snd_gName {i : Nat} : SndG K (gName i) (dgName i) := fun c W σ s v d Qv Qd R r h k => k W _ _ (R.putFz i r) (Pr.refl _) h
theorem dg_name {i : Nat} {x : Str} (hN : X.N.Nodup) (hi : X.N[i]? = some x) (hx : Loc X.env.scope x) (hf : X.fn x = true ∨ X.env.scope.names.lookup x = some .local := by first | exact .inl rfl | exact .inr rfl | assumption) : PDG X (.Name x pos) (gName i) (dgName i) :=
  ⟨pg_name hN hi hx hf, snd_gName⟩
abbrev DGs := List D → DS → (DS → Prop) → Prop
def SndGs (K : PySem.W.Frag) (g : TGs) (t : DGs) : Prop := ∀ (c : C0) (W : Wd) (σ : St) (s : DS) (vs : List V) (ds : List D) (Qv : St → Hp → Prop) (Qd : DS → Prop), Rel K c W σ s → Reps K W vs ds → t ds s Qd →
  (∀ W' σ' s', Rel K c W' σ' s' → Pr W W' → Qd s' → Qv σ' W'.H) → g vs σ W.H Qv
structure PDGs (X : Cx) (tgs : List Expr) (g : TGs) (t : DGs) : Prop where
  pgs : PGs X tgs g
  snd : SndGs X.K g t
def dgNil : DGs := fun ds s Q => match ds with
  | [] => Q s
  | _ => False
def dgCons (a : DG) (b : DGs) : DGs := fun ds s Q => match ds with
  | d :: r => a d s fun s1 => b r s1 Q
  | _ => False
theorem dgs_nil : PDGs X [] gNil dgNil := by
  refine ⟨pgs_nil, fun c W σ s vs ds Qv Qd R r h k => ?_⟩
  cases r with
  | nil => exact ⟨rfl, k W σ s R (Pr.refl _) h⟩
  | cons _ _ => exact h.elim
theorem dgs_cons {tg : Expr} {tgs : List Expr} {g : TG} {gs : TGs} {a : DG} {b : DGs} (h1 : PDG X tg g a) (h2 : PDGs X tgs gs b)
    (hs : (assignEach (tg :: tgs) X.env).map (·.2) = assign tg X.env :: (assignEach tgs X.env).map (·.2) := by rfl) : PDGs X (tg :: tgs) (gCons g gs) (dgCons a b) := by
  refine ⟨pgs_cons h1.pg h2.pgs hs, fun c W σ s vs ds Qv Qd R r h k => ?_⟩
  cases r with
  | nil => exact h.elim
  | cons rv rr => exact ⟨_, _, rfl, h1.snd c W σ s _ _ _ _ R rv h fun W1 σ1 s1 R1 p1 q1 => h2.snd c W1 σ1 s1 _ _ _ _ R1 (rr.mono p1) q1 fun W2 σ2 s2 R2 p2 q2 => k W2 σ2 s2 R2 (p1.trans p2) q2⟩
/-- (a, b, ..) = a tuple of that length -/
def dgTup (n : Nat) (t : DGs) : DG := fun d s Q => match d with
  | .tup ds => ds.length = n ∧ t ds s Q
  | .kon ds => ds.length = n ∧ t ds s Q
  | _ => False
theorem dg_tup {k n : Nat} {gs : TGs} {a : DGs} (hc : X.calm = true) (h : PDGs X es gs a) (hn : (assignEach es X.env).length = n := by rfl) (hst : (assignEach es X.env).findIdx? (·.1) = none := by rfl) :
    PDG X (.Tuple es k pos) (gTup X.K n gs) (dgTup n a) := by
  refine ⟨pg_tup hc h.pgs hn hst, fun c W σ s v d Qv Qd R r hw k => ?_⟩
  cases r with
  | tup q r => exact ⟨_, _, rfl, TupV.sq (.inl q), by rw [r.length]; exact hw.1, h.snd c W σ s _ _ _ _ R r hw.2 k⟩
  | kon q r => exact ⟨_, _, rfl, TupV.sq (.inr q), by rw [r.length]; exact hw.1, h.snd c W σ s _ _ _ _ R r hw.2 k⟩
  | _ => exact hw.elim
def dAsg (t : DE) (g : DG) : DTS := fun F s => t s fun d s1 => d.isSlot = false ∧ g d s1 F.nx
theorem snd_asg {g : TG} {a : DG} (he : SndE K te t) (hg : SndG K g a) : SndS K (tAsg te g) (dAsg t a) := fun c W σ s E F R C h =>
  he c W σ s _ _ R h fun v W1 d s1 R1 p1 r1 q1 => hg c W1 σ s1 v d _ _ R1 (r1.to q1.1) q1.2 fun W2 σ2 s2 R2 p2 q2 => C.nx W2 σ2 s2 R2 (p1.trans p2) q2
theorem ds_asg {tg : Expr} {g : TG} {a : DG} (he : PD X e te t) (hg : PDG X tg g a) (hs : swapsWithSole [tg] e pos.line X.env = pure false := by rfl) (hw : swappedStores [tg] e X.env = pure none := by rfl)
    (h1 : (assignEach [tg] X.env).map (·.2) = [assign tg X.env] := by rfl) : PDS X (.Assign [tg] e pos) (tAsg te g) (dAsg t a) := ⟨ps_asg he.pe hg.pg hs hw h1, snd_asg he.snd hg.snd⟩
/-- x = e, from then on as data -/
theorem ds_set {i : Nat} {x : Str} {pos' : Pos} (hN : X.N.Nodup) (hi : X.N[i]? = some x) (hx : Loc X.env.scope x) (he : PD X e te t) (hs : swapsWith e (some (.Name x pos')) pos.line X.env = pure false := by rfl)
    (hf : X.fn x = true ∨ X.env.scope.names.lookup x = some .local := by first | exact .inl rfl | exact .inr rfl | assumption) : PDS X (.Assign [.Name x pos'] e pos) (tAsg te (gName i)) (dAsg t (dgName i)) :=
  ⟨ps_set hN hi hx he.pe hs hf, snd_asg he.snd snd_gName⟩
/-- a, b = x, y -/
def dPar (i j : Nat) (r : DA) : DTS := fun F s => r s fun ds s1 => match ds with
  | [a, b] => a.isSlot = false ∧ b.isSlot = false ∧ F.nx { s1 with sl := (s1.sl.set i (.fz a)).set j (.fz b) }
  | _ => False
theorem ds_par {i j : Nat} {x y : Str} {a b : Expr} {taa : TA} {r : DA} {px py pt : Pos} {kt k2 pt2} (hc : X.calm = true) (hN : X.N.Nodup) (hi : X.N[i]? = some x) (hj : X.N[j]? = some y) (hij : i ≠ j)
    (hx : X.env.scope.names.lookup x = some .local) (hy : X.env.scope.names.lookup y = some .local) (ha : PDA X [a, b] taa r)
    (hw : swappedStores [.Tuple [.Name x px, .Name y py] kt pt] (.Tuple [a, b] k2 pt2) X.env = pure (some [x, y]))
    (hs : swapsWithSole [.Tuple [.Name x px, .Name y py] kt pt] (.Tuple [a, b] k2 pt2) pos.line X.env = pure false := by rfl) :
    PDS X (.Assign [.Tuple [.Name x px, .Name y py] kt pt] (.Tuple [a, b] k2 pt2) pos) (tPar i j taa) (dPar i j r) := by
  refine ⟨ps_par hc hN hi hj hij hx hy ha.pa hw hs, fun c W σ s E F R C h => ?_⟩
  refine ha.snd c W σ s _ _ R h fun vs W1 ds s1 R1 p1 r1 q1 => ?_
  cases r1 with
  | nil => exact q1.elim
  | cons ra r1 =>
    cases r1 with
    | nil => exact q1.elim
    | cons rb r1 =>
      cases r1 with
      | nil =>
        obtain ⟨n1, n2, q⟩ := q1
        refine ⟨_, _, rfl, ?_⟩
        exact C.nx W1 _ _ ((R1.putFz i (ra.to n1)).putFz j (rb.to n2)) p1 q
      | cons _ _ => exact q1.elim
/-- x op= e -/
def fIp (o : Int → Int → Int) : DR := fI0 fun i j => .int (o i j)
def dAug (i : Nat) (t : DE) (f : DR) : DTS := fun F s => match s.sl[i]? with
  | some (.fz a) => t s fun b s1 => f s1 a b fun d => d.isSlot = false ∧ F.nx { s1 with sl := s1.sl.set i (.fz d) }
  | _ => False
theorem ds_augI {i : Nat} {x : Str} {op : Operator} {o : Int → Int → Int} {pos' : Pos} (ho : PIp X op (ipI o)) (hN : X.N.Nodup) (hi : X.N[i]? = some x) (hx : Loc X.env.scope x) (he : PD X e te t)
    (hf : X.fn x = true ∨ X.env.scope.names.lookup x = some .local := by first | exact .inl rfl | exact .inr rfl | assumption) : PDS X (.AugAssign (.Name x pos') op e pos) (tAug i te (ipI o)) (dAug i t (fIp o)) := by
  refine ⟨ps_aug hN hi hx he.pe ho hf, fun c W σ s E F R C h => ?_⟩
  unfold dAug at h
  cases q : s.sl[i]? with
  | none => rw [q] at h; exact h.elim
  | some en =>
    rw [q] at h
    cases en with
    | fz a =>
      obtain ⟨v, h1, rv⟩ := R.ent i _ q
      refine ⟨v, h1, ?_⟩
      refine he.snd c W σ s _ _ R h fun y W1 b s1 R1 p1 r1 q1 => ?_
      cases a with
      | int m =>
        cases b with
        | int n =>
          cases rv
          cases r1
          refine ⟨m, n, rfl, rfl, ?_⟩
          exact C.nx W1 _ _ (R1.putFz i (Rep.int _)) p1 q1.2
        | _ => exact q1.elim
      | _ => exact q1.elim
    | _ => exact h.elim

/-! ### new lists -/
abbrev DL_ := DS → (List D → DS → Prop) → Prop
def SndL (K : PySem.W.Frag) (te : TE) (t : DL_) : Prop := ∀ (c : C0) (W : Wd) (σ : St) (s : DS) (Qv : VK) (Qd : List D → DS → Prop), Rel K c W σ s → t s Qd →
  (∀ p vs W' xs s', Rel K c W' σ s' → Pr W W' → W'.M p → W'.H p = some (.lst vs) → Reps K W' vs xs → c.H0 p = none → (∀ j l, Owns s' σ j l → l ≠ p) → Qd xs s' → Qv (.ref p) W'.H) → te σ W.H Qv
structure PL (X : Cx) (e : Expr) (te : TE) (t : DL_) : Prop where
  pe : PE X e te
  snd : SndL X.K te t
theorem Rel.new0 {W : Wd} {σ : St} {s : DS} (R : Rel K c W σ s) {p : Addr} (hp : W.H p = none) : c.H0 p = none := by
  cases e : c.H0 p with
  | none => rfl
  | some u =>
    by_cases z : c.mo p
    · obtain ⟨v, q⟩ := R.there p (R.mm p z)
      rw [hp] at q
      cases q
    · have q := R.kp p u e z
      rw [hp] at q
      cases q
theorem Rel.newOwn {W : Wd} {σ : St} {s : DS} (R : Rel K c W σ s) {p : Addr} (hp : W.H p = none) : ∀ j l, Owns s σ j l → l ≠ p := fun j l o e => by
  subst e
  obtain ⟨_, _, u, h, _⟩ := o.ent R
  rw [hp] at h
  cases h
theorem Pr.laid {W : Wd} {p : Addr} {o : HO} (hp : W.H p = none) : Pr W ⟨fun a => W.M a ∨ a = p, upd W.H p o, W.pa⟩ :=
  ⟨fun a u h _ => ⟨(upd_ne (ne_of_none h hp)).trans h, fun n z => z.elim n fun e => by subst e; rw [hp] at h; cases h⟩, rfl⟩
/-- what a list's maker has to show: at any new place the list is laid -/
theorem newL {W W1 : Wd} {σ : St} {s1 : DS} {vs : List V} {xs : List D} {Qv : VK} {Qd : List D → DS → Prop} (R1 : Rel K c W1 σ s1) (p1 : Pr W W1) (r : Reps K W1 vs xs) (q : Qd xs s1)
    (k : ∀ p vs W' xs s', Rel K c W' σ s' → Pr W W' → W'.M p → W'.H p = some (.lst vs) → Reps K W' vs xs → c.H0 p = none → (∀ j l, Owns s' σ j l → l ≠ p) → Qd xs s' → Qv (.ref p) W'.H) :
    ∀ p, W1.H p = none → Qv (.ref p) (upd W1.H p (.lst vs)) := fun p hp =>
  k p vs ⟨fun a => W1.M a ∨ a = p, upd W1.H p (.lst vs), W1.pa⟩ xs s1 (R1.laid _ hp) (p1.trans (Pr.laid hp)) (.inr rfl) upd_same (r.mono (Pr.laid hp)) (R1.new0 hp) (R1.newOwn hp) q
def dlLst (r : DA) : DL_ := fun s Q => r s fun ds s1 => ds.length ≤ sizeLine ∧ noSlots ds = true ∧ Q ds s1
theorem dl_lst {taa : TA} {r : DA} (h : PDA X es taa r) : PL X (.List es pos) (tLst taa) (dlLst r) := by
  refine ⟨pe_lst h.pa, fun c W σ s Qv Qd R hq k => ?_⟩
  refine h.snd c W σ s _ _ R hq fun vs W1 ds s1 R1 p1 rv q1 => ?_
  obtain ⟨hz, hs, q⟩ := q1
  have rr := rv.to hs
  exact ⟨by rw [rr.length]; exact hz, newL R1 p1 rr q k⟩
/-- a new list, as data -/
def dOfL (t : DL_) : DE := fun s Q => t s fun xs s1 => Q (.lst xs) s1
theorem Rel.freeze {W : Wd} {σ : St} {s : DS} (R : Rel K c W σ s) {p : Addr} (h0 : c.H0 p = none) (no : ∀ j l, Owns s σ j l → l ≠ p) : Rel K c ⟨fun a => W.M a ∧ a ≠ p, W.H, W.pa⟩ σ s ∧ Pr W ⟨fun a => W.M a ∧ a ≠ p, W.H, W.pa⟩ := by
  have P : Pr W ⟨fun a => W.M a ∧ a ≠ p, W.H, W.pa⟩ := ⟨fun a u h _ => ⟨h, fun n z => n z.1⟩, rfl⟩
  have mo_ne : ∀ a, c.mo a → a ≠ p := fun a h e => R.mo0 a h (e ▸ h0)
  refine ⟨⟨R.len, R.m0, R.wpa, fun j x h => ?_, R.dis, fun a h => ⟨R.sub a h, fun e => R.m0 a h (e ▸ h0)⟩, R.kp, fun a h => R.there a h.1, fun a h1 h2 => R.old a h1 h2.1, fun a h => ⟨R.mm a h, mo_ne a h⟩, R.mo0, R.mop, ⟨R.mp, mo_ne _ R.mop⟩, fun z => R.npl z.1, R.paw⟩, P⟩
  have q := R.ent j x h
  cases x with
  | un => trivial
  | fz d =>
    obtain ⟨v, a1, a2⟩ := q
    exact ⟨v, a1, a2.mono P⟩
  | own xs =>
    obtain ⟨m, vs, a1, a2, a3, a4, a5⟩ := q
    exact ⟨m, vs, a1, ⟨a2, no j m ⟨⟨_, h, rfl⟩, a1⟩⟩, a3, a4, a5.mono P⟩
  | ownT xs =>
    obtain ⟨m, vs, a1, a2, a3, a4, a5, a6⟩ := q
    exact ⟨m, vs, a1, ⟨a2, no j m ⟨⟨_, h, rfl⟩, a1⟩⟩, a3, a4, a5, a6.mono P⟩
  | ownK xs =>
    obtain ⟨m, vs, a1, a2, a3, a4, a5, a6⟩ := q
    exact ⟨m, vs, a1, ⟨a2, no j m ⟨⟨_, h, rfl⟩, a1⟩⟩, a3, a4, a5, a6.mono P⟩
  | ownI LL DD C xs =>
    obtain ⟨m, dx, vs, a1, a2, a3, a4, a5, a6⟩ := q
    exact ⟨m, dx, vs, a1, ⟨a2, no j m ⟨⟨_, h, rfl⟩, a1⟩⟩, a3, a4, a5, a6.mono P⟩
theorem d_ofL {tl : DL_} (h : PL X e te tl) : PD X e te (dOfL tl) := by
  refine ⟨h.pe, fun c W σ s Qv Qd R hq k => ?_⟩
  refine h.snd c W σ s _ _ R hq fun p vs W1 xs s1 R1 p1 hm hp r h0 no q => ?_
  obtain ⟨R2, p2⟩ := R1.freeze h0 no
  exact k (.ref p) ⟨fun a => W1.M a ∧ a ≠ p, W1.H, W1.pa⟩ (.lst xs) s1 R2 (p1.trans p2) (Rep.lst hp (fun z => z.2 rfl) (r.mono p2)) q
/-- x = a new list, which is the def's own from then on -/
def dOwn (i : Nat) (t : DL_) : DTS := fun F s => t s fun xs s1 => F.nx { s1 with sl := s1.sl.set i (.own xs) }
theorem snd_own {i : Nat} {tl : DL_} (h : SndL K te tl) : SndS K (tAsg te (gName i)) (dOwn i tl) := by
  intro c W σ s E F R C hq
  refine h c W σ s _ _ R hq fun p vs W1 xs s1 R1 p1 hm hp r h0 no q => ?_
  refine C.nx W1 _ _ (R1.put i (some (.ref p)) (.own xs) (fun hi => ⟨p, vs, List.getElem?_set_self hi, hm, h0, hp, r⟩) fun l _ e j hj o => ?_) p1 q
  cases e
  exact no j p o rfl
theorem ds_own {i : Nat} {x : Str} {pos' : Pos} {tl : DL_} (hN : X.N.Nodup) (hi : X.N[i]? = some x) (hx : Loc X.env.scope x) (he : PL X e te tl) (hs : swapsWith e (some (.Name x pos')) pos.line X.env = pure false := by rfl)
    (hf : X.fn x = true ∨ X.env.scope.names.lookup x = some .local := by first | exact .inl rfl | exact .inr rfl | assumption) : PDS X (.Assign [.Name x pos'] e pos) (tAsg te (gName i)) (dOwn i tl) :=
  ⟨ps_set hN hi hx he.pe hs hf, snd_own he.snd⟩
/-- what slot i owns is data from now on -/
def frzE (s : DS) (i : Nat) : DS := match s.sl[i]? with
  | some (.own xs) => { s with sl := s.sl.set i (.fz (.lst xs)) }
  | _ => s
theorem Rel.frz {W : Wd} {σ : St} {s : DS} (R : Rel K c W σ s) (i : Nat) : ∃ W', W'.H = W.H ∧ Rel K c W' σ (frzE s i) ∧ Pr W W' := by
  unfold frzE
  cases q : s.sl[i]? with
  | none => exact ⟨W, rfl, R, Pr.refl _⟩
  | some en =>
    cases en with
    | own xs =>
      obtain ⟨l, vs, h1, h2, h3, h4, h5⟩ := R.ent i _ q
      have h0 : c.H0 l = none := h3
      have Ru : Rel K c W (σ.set i (some (.ref l))) { s with sl := s.sl.set i .un } := R.putUn i _
      have es : σ.set i (some (.ref l)) = σ := by
        apply List.ext_getElem?
        intro j
        by_cases hj : i = j
        · subst hj
          rw [List.getElem?_set_self (List.getElem?_eq_some_iff.mp h1).1, h1]
        · rw [get_set_ne hj]
      rw [es] at Ru
      obtain ⟨R2, p2⟩ := Ru.freeze h0 fun j m o e => by
        subst e
        have hj : j ≠ i := fun z => by
          subst z
          obtain ⟨⟨x, a1, a2⟩, a3⟩ := o
          obtain ⟨rfl, _⟩ := get_set_eq a1
          cases a2
        obtain ⟨⟨x, a1, a2⟩, a3⟩ := o
        have a1' : (s.sl.set i .un)[j]? = some x := a1
        rw [get_set_ne (Ne.symm hj)] at a1'
        exact hj (R.dis j i m ⟨⟨x, a1', a2⟩, a3⟩ ⟨⟨_, q, rfl⟩, h1⟩)
      refine ⟨⟨fun a => W.M a ∧ a ≠ l, W.H, W.pa⟩, rfl, ?_, p2⟩
      have R3 := R2.putFz i (v := .ref l) (d := .lst xs) (Rep.lst h4 (fun z => z.2 rfl) (h5.mono p2))
      rw [es] at R3
      have e3 : (s.sl.set i .un).set i (.fz (.lst xs)) = s.sl.set i (.fz (.lst xs)) := List.set_set _
      have R3' : Rel K c ⟨fun a => W.M a ∧ a ≠ l, W.H, W.pa⟩ σ ⟨(s.sl.set i .un).set i (.fz (.lst xs)), s.bud⟩ := R3
      rw [e3] at R3'
      exact R3'
    | _ => exact ⟨W, rfl, R, Pr.refl _⟩
def dFrz (i : Nat) (d : DTS) : DTS := fun F s => d F (frzE s i)
theorem snd_frz {i : Nat} (h : SndS K ts d) : SndS K ts (dFrz i d) := by
  intro c W σ s E F R C hq
  obtain ⟨W', e, R', p⟩ := R.frz i
  rw [← e]
  exact h c W' σ _ E F R' (C.later p) hq
theorem dss_frz (i : Nat) (h : PDSs X sts ts d) : PDSs X sts ts (dFrz i d) := ⟨h.ps, snd_frz h.snd⟩
end
end DL

namespace DL
open PySem L2
section
variable {X : Cx} {K : PySem.W.Frag} {c : C0} {e o : Expr} {es : List Expr} {te to : TE} {t : DE} {pos : Pos} {st : Stmt} {sts : List Stmt} {ts us : TS} {d u : DTS} {tt : TT} {dt : DT}

/-! ### methods that change a slot's own list -/
abbrev DM := List D → List D → (List D → D → Prop) → Prop
def SndM (K : PySem.W.Frag) (r : V → List V → Hp → VK → Prop) (f : DM) : Prop := ∀ (W : Wd) (l : Addr) (ws : List V) (xs : List D) (vs : List V) (ds : List D) (Qv : VK) (Qd : List D → D → Prop),
  W.H l = some (.lst ws) → Reps K W ws xs → Reps K W vs ds → f xs ds Qd → (∀ v ws' xs' d, Reps K W ws' xs' → Rep K W v d → Qd xs' d → Qv v (upd W.H l (.lst ws'))) → r (.ref l) vs W.H Qv
def ownL (s : DS) (i : Nat) : Option (List D) := match s.sl[i]? with
  | some (.own xs) => some xs
  | _ => none
theorem ownL_spec {W : Wd} {σ : St} {s : DS} (R : Rel K c W σ s) {i : Nat} {xs : List D} (h : ownL s i = some xs) : ∃ l vs, σ[i]? = some (some (.ref l)) ∧ Owns s σ i l ∧ W.M l ∧ c.H0 l = none ∧ W.H l = some (.lst vs) ∧ Reps K W vs xs := by
  unfold ownL at h
  cases q : s.sl[i]? with
  | none => rw [q] at h; cases h
  | some en =>
    rw [q] at h
    cases en with
    | own ys =>
      cases h
      obtain ⟨l, vs, h1, h2, h3, h4, h5⟩ := R.ent i _ q
      exact ⟨l, vs, h1, ⟨⟨_, q, rfl⟩, h1⟩, h2, h3, h4, h5⟩
    | _ => cases h
def dLm (f : DM) (t : DE) (r : DA) : DE := fun s Q => t s fun d s1 => match d with
  | .slot i => (ownL s1 i).isSome = true ∧ r s1 fun ds s2 => match ownL s2 i with
    | some xs => noSlots ds = true ∧ f xs ds fun xs' d' => d'.isSlot = false ∧ Q d' { s2 with sl := s2.sl.set i (.own xs') }
    | none => False
  | _ => False
theorem snd_lm {r : V → List V → Hp → VK → Prop} {f : DM} {taa : TA} {ra : DA} (hm : SndM K r f) (ho : SndE K to t) (ha : SndA K taa ra) : SndE K (tBM K "list" r to taa) (dLm f t ra) := by
  intro c W σ s Qv Qd R hq k
  refine ho c W σ s _ _ R hq fun x W1 d s1 R1 p1 r1 q1 => ?_
  cases d with
  | slot i =>
    obtain ⟨k1, q1⟩ := q1
    obtain ⟨ys, ey⟩ := Option.isSome_iff_exists.mp k1
    obtain ⟨l, vs, h1, _, _, _, h4, _⟩ := ownL_spec R1 ey
    have r1' : σ[i]? = some (some x) := r1
    rw [h1] at r1'
    cases r1'
    refine ⟨.inl ⟨rfl, _, SqL.of h4⟩, ?_⟩
    refine ha c W1 σ s1 _ _ R1 q1 fun as W2 ds s2 R2 p2 r2 q2 => ?_
    cases ex : ownL s2 i with
    | none => rw [ex] at q2; exact q2.elim
    | some xs =>
      rw [ex] at q2
      obtain ⟨n2, q2⟩ := q2
      obtain ⟨l', ws, g1, g2, g3, g4, g5, g6⟩ := ownL_spec R2 ex
      rw [h1] at g1
      cases g1
      refine hm W2 l ws xs as ds _ _ g5 g6 (r2.to n2) q2 fun v ws' xs' d' rw' rv q3 => ?_
      have P : Pr W2 ⟨W2.M, upd W2.H l (.lst ws'), W2.pa⟩ := Pr.mut g3 g5 fun z => z
      have R3 : Rel K c ⟨W2.M, upd W2.H l (.lst ws'), W2.pa⟩ σ { s2 with sl := s2.sl.set i (.own xs') } :=
        R2.write (.own xs') g2 (g2.npl R2) ⟨l, ws', h1, g3, g4, upd_same, rw'.mono P⟩ rfl
      exact k v ⟨W2.M, upd W2.H l (.lst ws'), W2.pa⟩ d' _ R3 ((p1.trans p2).trans P) (rv.mono P).t q3.2
  | _ => exact q1.elim
/-- xs.m(e, ..), xs a slot's own list -/
theorem d_lm {id : String} {name : Str} {apos cpos : Pos} {r : V → List V → Hp → VK → Prop} {f : DM} {taa : TA} {ra : DA} (pa : PlainAttrs "list") (slot : Slot "list" name id) (hty : typeOf (.builtin id) = pure (.type "method_descriptor")) (hm : MtR X id r ∧ SndM X.K r f)
    (ho : PD X o to t) (ha : PDA X (e :: es) taa ra)
    (hbase : attributeBase o name X.env (eval o X.env) = eval o X.env := by rfl)
    (hfew : ((backTo cpos (starEach (e :: es) X.env)).all (fun x => !x.1) && (backToKw cpos (keywordEach [] X.env)).all (fun x => x.1.isSome)
      && decide ((e :: es).length + ([] : List Keyword).length + (if ([] : List Keyword).isEmpty then 0 else 1) < 30)) = true := by rfl)
    (hline : (apos.endLine == cpos.line) = true := by rfl) (hs : starEach (e :: es) X.env = (false, eval e X.env) :: starEach es X.env := by rfl) (hplain : (backTo cpos (starEach es X.env)).any (·.1) = false := by rfl) :
    PD X (.Call (.Attribute o name apos) (e :: es) [] cpos) (tBM X.K "list" r to taa) (dLm f t ra) := ⟨pe_bm pa slot hty hm.1 ho.pe ha.pa hbase hfew hline hs hplain, snd_lm hm.2 ho.snd ha.snd⟩
def dLm0 (f : DM) (t : DE) : DE := fun s Q => t s fun d s1 => match d with
  | .slot i => match ownL s1 i with
    | some xs => f xs [] fun xs' d' => d'.isSlot = false ∧ Q d' { s1 with sl := s1.sl.set i (.own xs') }
    | none => False
  | _ => False
theorem snd_lm0 {r : V → List V → Hp → VK → Prop} {f : DM} (hm : SndM K r f) (ho : SndE K to t) : SndE K (tBM0 K "list" r to) (dLm0 f t) := by
  intro c W σ s Qv Qd R hq k
  refine ho c W σ s _ _ R hq fun x W1 d s1 R1 p1 r1 q1 => ?_
  cases d with
  | slot i =>
    simp only at q1
    cases ex : ownL s1 i with
    | none => rw [ex] at q1; exact q1.elim
    | some xs =>
      rw [ex] at q1
      obtain ⟨l, ws, g1, g2, g3, g4, g5, g6⟩ := ownL_spec R1 ex
      have r1' : σ[i]? = some (some x) := r1
      rw [g1] at r1'
      cases r1'
      refine ⟨.inl ⟨rfl, _, SqL.of g5⟩, ?_⟩
      refine hm W1 l ws xs [] [] _ _ g5 g6 .nil q1 fun v ws' xs' d' rw' rv q3 => ?_
      have P : Pr W1 ⟨W1.M, upd W1.H l (.lst ws'), W1.pa⟩ := Pr.mut g3 g5 fun z => z
      have R3 : Rel K c ⟨W1.M, upd W1.H l (.lst ws'), W1.pa⟩ σ { s1 with sl := s1.sl.set i (.own xs') } :=
        R1.write (.own xs') g2 (g2.npl R1) ⟨l, ws', g1, g3, g4, upd_same, rw'.mono P⟩ rfl
      exact k v ⟨W1.M, upd W1.H l (.lst ws'), W1.pa⟩ d' _ R3 (p1.trans P) (rv.mono P).t q3.2
  | _ => exact q1.elim
theorem d_lm0 {id : String} {name : Str} {apos cpos : Pos} {r : V → List V → Hp → VK → Prop} {f : DM} (pa : PlainAttrs "list") (slot : Slot "list" name id) (hty : typeOf (.builtin id) = pure (.type "method_descriptor")) (hm : MtR X id r ∧ SndM X.K r f)
    (ho : PD X o to t) (hbase : attributeBase o name X.env (eval o X.env) = eval o X.env := by rfl) (hline : (apos.endLine == cpos.line) = true := by rfl) :
    PD X (.Call (.Attribute o name apos) [] [] cpos) (tBM0 X.K "list" r to) (dLm0 f t) := ⟨pe_bm0 pa slot hty hm.1 ho.pe hbase hline, snd_lm0 hm.2 ho.snd⟩
def fApp : DM := fun xs ds Q => match ds with
  | [d] => xs.length < sizeLine ∧ Q (xs ++ [d]) .non
  | _ => False
theorem m_append : MtR X "list.append" rAppend ∧ SndM X.K rAppend fApp := by
  refine ⟨mt_append, fun W l ws xs vs ds Qv Qd h r ra q k => ?_⟩
  cases ra with
  | nil => exact q.elim
  | cons a ra =>
    cases ra with
    | cons _ _ => exact q.elim
    | nil => exact ⟨l, ws, _, rfl, rfl, h, by rw [r.length]; exact q.1, k _ _ _ _ (r.append (.cons a .nil)) .non q.2⟩
def fPop : DM := fun xs ds Q => match ds with
  | [] => match xs[xs.length - 1]? with
    | some d => Q xs.dropLast d
    | none => False
  | _ => False
theorem m_pop : MtR X "list.pop" rPop ∧ SndM X.K rPop fPop := by
  refine ⟨mt_pop, fun W l ws xs vs ds Qv Qd h r ra q k => ?_⟩
  cases ra with
  | cons _ _ => exact q.elim
  | nil =>
    have q' : match xs[xs.length - 1]? with
      | some d => Qd xs.dropLast d
      | none => False := q
    cases e : xs[xs.length - 1]? with
    | none => rw [e] at q'; exact q'.elim
    | some d =>
      rw [e] at q'
      obtain ⟨v, hv, rv⟩ := r.get e
      rw [← r.length] at hv
      exact ⟨l, ws, v, rfl, rfl, h, hv, k _ _ _ _ r.dropLast rv q'⟩
def fPopAt : DM := fun xs ds Q => match ds with
  | [.int i] => -(2 ^ 63) ≤ i ∧ i < 2 ^ 63 ∧ match seqIndex? i xs.length with
    | some j => match xs[j]? with
      | some d => Q (xs.eraseIdx j) d
      | none => False
    | none => False
  | _ => False
theorem m_popAt : MtR X "list.pop" rPopAt ∧ SndM X.K rPopAt fPopAt := by
  refine ⟨mt_popAt, fun W l ws xs vs ds Qv Qd h r ra q k => ?_⟩
  unfold fPopAt at q
  split at q
  · rename_i i
    cases ra with
    | cons a ra =>
      cases ra
      cases a
      obtain ⟨q1, q2, q3⟩ := q
      split at q3
      · rename_i j ej
        split at q3
        · rename_i d ed
          obtain ⟨v, hv, rv⟩ := r.get ed
          exact ⟨l, ws, i, j, v, rfl, rfl, h, q1, q2, by rw [r.length]; exact ej, hv, k _ _ _ _ (r.eraseIdx j) rv q3⟩
        · exact q3.elim
      · exact q3.elim
  · exact q.elim
def fExt : DM := fun xs ds Q => match ds with
  | [.lst ys] => xs.length + ys.length ≤ sizeLine ∧ Q (xs ++ ys) .non
  | _ => False
theorem m_extend : MtR X "list.extend" rExtend ∧ SndM X.K rExtend fExt := by
  refine ⟨mt_extend, fun W l ws xs vs ds Qv Qd h r ra q k => ?_⟩
  unfold fExt at q
  split at q
  · cases ra with
    | cons a ra =>
      cases ra
      cases a with
      | lst hb n rb => exact ⟨l, _, ws, _, rfl, rfl, h, hb, by rw [r.length, rb.length]; exact q.1, k _ _ _ _ (r.append rb) .non q.2⟩
  · exact q.elim
end
end DL

namespace DL
open PySem L2
/-! ### what is walked -/
/-- an iterator J yields the items xs, while chk holds of the state (k: a slot whose object must stay the same) -/
structure ItOk (K : PySem.W.Frag) (σ : St) (W : Wd) (J : It) (k : Option Nat) (chk : DS → Prop) (xs : List D) : Prop where
  go : ∀ (c : C0) (i : Nat) W' σ' s', Rel K c W' σ' s' → Pr W W' → chk s' → (∀ j, k = some j → σ'[j]? = σ[j]?) → i < xs.length →
    J.go i W'.H ∧ ∀ x H', J.yld i W'.H x H' → ∃ W'' d, W''.H = H' ∧ Rel K c W'' σ' s' ∧ Pr W' W'' ∧ xs[i]? = some d ∧ Rep K W'' x d
  stop : ∀ (c : C0) (i : Nat) W' σ' s', Rel K c W' σ' s' → Pr W W' → chk s' → (∀ j, k = some j → σ'[j]? = σ[j]?) → xs.length ≤ i → J.stop i W'.H
abbrev DI := DS → (Option Nat → (DS → Prop) → List D → DS → Prop) → Prop
def SndI (K : PySem.W.Frag) (wi : TI) (t : DI) : Prop := ∀ (c : C0) (W : Wd) (σ : St) (s : DS) (R : It → Hp → Prop) (Rd : Option Nat → (DS → Prop) → List D → DS → Prop), Rel K c W σ s → t s Rd →
  (∀ J W' k chk xs s', Rel K c W' σ s' → Pr W W' → ItOk K σ W' J k chk xs → Rd k chk xs s' → R J W'.H) → wi σ W.H R
structure PDI (X : Cx) (tg iter : Expr) (wi : TI) (t : DI) : Prop where
  pi : PI X tg iter wi
  snd : SndI X.K wi t
section
variable {X : Cx} {K : PySem.W.Frag} {c : C0} {e o tg iter : Expr} {es : List Expr} {te to : TE} {t : DE} {pos : Pos} {st : Stmt} {sts body : List Stmt} {ts us : TS} {d u : DTS} {tt : TT} {dt : DT} {wi : TI} {ti : DI} {g : TG} {dg : DG}
/-- a list or a tuple -/
def iSeq (K : PySem.W.Frag) (tl : TE) : TI := fun σ H R => tl σ H fun x H1 => ∃ a, x = .ref a ∧ (((∃ xs, SqL K H1 a xs) ∧ R (Itl K a) H1) ∨ ((∃ xs, SqT K H1 a xs) ∧ R (Itt K a) H1))
theorem pi_seq {l : Expr} {tl : TE} (hl : PE X l tl) : PI X tg l (iSeq X.K tl) := by
  refine ⟨fun pins s σ H R I h => ?_⟩
  refine thn (hl.run pins s σ H _ I h) fun v s1 ⟨x, H1, I1, r1, q1⟩ => ?_
  obtain ⟨a, e, q⟩ := q1
  subst e
  cases r1
  rcases q with ⟨⟨xs, hq⟩, q⟩ | ⟨⟨xs, hq⟩, q⟩
  · obtain ⟨its, rv, p, hz⟩ := I1.list hq
    refine wpAny_pyIter_list p.isList ?_
    refine ⟨s1.heap.objs.size, [s1.heap.objs.size], _, _, H1, rfl, I1.kept (t' := s1.toks) fun b o e => Heap.get?_push_of_some _ e, turn_list a _, ⟨_, Heap.get?_push_size _ rfl, rfl, rfl⟩, fun b hb => ?_, q⟩
    have e : b = s1.heap.objs.size := by simpa using hb
    subst e
    exact I1.fpOk (Nat.le_refl _) (I1.hok.fresh (Nat.le_refl _))
  · obtain ⟨its, rv, p, hz⟩ := I1.tuple hq
    refine wpAny_pyIter_tuple (show s1.heap.IsTuple a its.toArray from p) ?_
    refine ⟨s1.heap.objs.size, [s1.heap.objs.size], _, _, H1, rfl, I1.kept (t' := s1.toks) fun b o e => Heap.get?_push_of_some _ e, turn_tuple a _, ⟨_, Heap.get?_push_size _ rfl, rfl, rfl⟩, fun b hb => ?_, q⟩
    have e : b = s1.heap.objs.size := by simpa using hb
    subst e
    exact I1.fpOk (Nat.le_refl _) (I1.hok.fresh (Nat.le_refl _))
theorem itOk_l {W : Wd} {σ : St} {a : Addr} {xs : List D} {k : Option Nat} {chk : DS → Prop}
    (h : ∀ (c : C0) W' σ' s', Rel K c W' σ' s' → Pr W W' → chk s' → (∀ j, k = some j → σ'[j]? = σ[j]?) → ∃ vs, W'.H a = some (.lst vs) ∧ Reps K W' vs xs) : ItOk K σ W (Itl K a) k chk xs where
  go := fun c i W' σ' s' R P q hk hi => by
    obtain ⟨vs, hv, r⟩ := h c W' σ' s' R P q hk
    obtain ⟨v, e1, rv⟩ := r.get (List.getElem?_eq_getElem hi)
    refine ⟨⟨vs, v, SqL.of hv, e1⟩, fun x H' y => ?_⟩
    obtain ⟨eH, y⟩ := y
    have ex := y vs (SqL.of hv)
    rw [e1] at ex
    cases ex
    exact ⟨W', _, eH.symm, R, Pr.refl _, List.getElem?_eq_getElem hi, rv⟩
  stop := fun c i W' σ' s' R P q hk hi => by
    obtain ⟨vs, hv, r⟩ := h c W' σ' s' R P q hk
    exact ⟨vs, SqL.of hv, by rw [r.length]; exact hi⟩
theorem itOk_t {W : Wd} {σ : St} {a : Addr} {vs : List V} {xs : List D} (h : TupV K W.H a vs) (r : Reps K W vs xs) : ItOk K σ W (Itt K a) none (fun _ => True) xs where
  go := fun c i W' σ' s' R P q hk hi => by
    obtain ⟨v, e1, rv⟩ := (r.mono P).get (List.getElem?_eq_getElem hi)
    refine ⟨⟨vs, v, (P.sqT h).sq, e1⟩, fun x H' y => ?_⟩
    obtain ⟨eH, y⟩ := y
    have ex := y vs ((P.sqT h).sq)
    rw [e1] at ex
    cases ex
    exact ⟨W', _, eH.symm, R, Pr.refl _, List.getElem?_eq_getElem hi, rv⟩
  stop := fun c i W' σ' s' R P q hk hi => ⟨vs, (P.sqT h).sq, by rw [r.length]; exact hi⟩
def diSeq (t : DE) : DI := fun s Rd => t s fun d s1 => match d with
  | .slot i => match ownL s1 i with
    | some xs => Rd (some i) (fun s' => ownL s' i = some xs) xs s1
    | none => False
  | .lst xs => Rd none (fun _ => True) xs s1
  | .tup xs => Rd none (fun _ => True) xs s1
  | .kon xs => Rd none (fun _ => True) xs s1
  | _ => False
theorem snd_seqI (he : SndE K te t) : SndI K (iSeq K te) (diSeq t) := by
  intro c W σ s R Rd RR h k
  refine he c W σ s _ _ RR h fun v W1 d s1 R1 p1 r1 q1 => ?_
  cases d with
  | slot i =>
    simp only at q1
    cases e : ownL s1 i with
    | none => rw [e] at q1; exact q1.elim
    | some xs =>
      rw [e] at q1
      obtain ⟨l, vs, g1, g2, g3, g4, g5, g6⟩ := ownL_spec R1 e
      have r1' : σ[i]? = some (some v) := r1
      rw [g1] at r1'
      cases r1'
      refine ⟨l, rfl, .inl ⟨⟨vs, SqL.of g5⟩, k _ W1 (some i) _ xs s1 R1 p1 (itOk_l (fun c W' σ' s' R' P q hk => ?_)) q1⟩⟩
      · obtain ⟨l', vs', k1, k2, k3, k4, k5, k6⟩ := ownL_spec R' q
        rw [hk i rfl, g1] at k1
        cases k1
        exact ⟨vs', k5, k6⟩
  | lst xs =>
    cases r1 with
    | lst h n r =>
      refine ⟨_, rfl, .inl ⟨⟨_, SqL.of h⟩, k _ W1 none _ xs s1 R1 p1 (itOk_l (fun c W' σ' s' R' P q hk => ?_)) q1⟩⟩
      · exact ⟨_, (P.at_ _ _ h (.inl n)).1, r.mono P⟩
  | tup xs =>
    cases r1 with
    | tup h r => exact ⟨_, rfl, .inr ⟨⟨_, TupV.sq (.inl h)⟩, k _ W1 none _ xs s1 R1 p1 (itOk_t (.inl h) r) q1⟩⟩
  | kon xs =>
    cases r1 with
    | kon h r => exact ⟨_, rfl, .inr ⟨⟨_, TupV.sq (.inr h)⟩, k _ W1 none _ xs s1 R1 p1 (itOk_t (.inr h) r) q1⟩⟩
  | _ => exact q1.elim
theorem di_seq (he : PD X iter te t) : PDI X tg iter (iSeq X.K te) (diSeq t) := ⟨pi_seq he.pe, snd_seqI he.snd⟩
/-- the numbers from lo, n of them -/
def nums (lo : Int) (n : Nat) : List D := (List.range n).map fun i => D.int (lo + (i : Nat))
theorem nums_length {lo : Int} {n : Nat} : (nums lo n).length = n := by simp [nums]
theorem nums_get {lo : Int} {n i : Nat} (h : i < n) : (nums lo n)[i]? = some (D.int (lo + (i : Nat))) := by
  unfold nums
  rw [List.getElem?_map, List.getElem?_range h]
  rfl
theorem itOk_r {W : Wd} {σ : St} {lo : Int} {n : Nat} : ItOk K σ W (Itr lo n) none (fun _ => True) (nums lo n) where
  go := fun c i W' σ' s' R P q hk hi => by
    rw [nums_length] at hi
    refine ⟨hi, fun x H' y => ?_⟩
    obtain ⟨eH, ex⟩ := y
    subst ex
    exact ⟨W', _, eH.symm, R, Pr.refl _, nums_get hi, .int _⟩
  stop := fun c i W' σ' s' R P q hk hi => by
    rw [nums_length] at hi
    exact hi
def diRng1 (r : DA) : DI := fun s Rd => r s fun ds s1 => match ds with
  | [.int j] => -(2 ^ 62) ≤ j ∧ j < 2 ^ 62 ∧ Rd none (fun _ => True) (nums 0 j.toNat) s1
  | _ => False
def diRng2 (r : DA) : DI := fun s Rd => r s fun ds s1 => match ds with
  | [.int i, .int j] => (-(2 ^ 62) ≤ i ∧ i < 2 ^ 62 ∧ -(2 ^ 62) ≤ j ∧ j < 2 ^ 62) ∧ Rd none (fun _ => True) (nums i (j - i).toNat) s1
  | _ => False
theorem repsT1 {K : PySem.W.Frag} {W : Wd} {σ : St} {vs : List V} {j : Int} (r : RepsT K W σ vs [.int j]) : vs = [.int j] := by
  cases r with
  | cons a r =>
    cases r
    cases a
    rfl
theorem repsT2 {K : PySem.W.Frag} {W : Wd} {σ : St} {vs : List V} {i j : Int} (r : RepsT K W σ vs [.int i, .int j]) : vs = [.int i, .int j] := by
  cases r with
  | cons a r =>
    cases r with
    | cons b r =>
      cases r
      cases a
      cases b
      rfl
theorem di_range1 {a : Expr} {taa : TA} {r : DA} {p : Pos} (hg : Gl X "range") (hm : X.mg "range" = none) (ha : PDA X [a] taa r) (hs : starEach [a] X.env = [(false, eval a X.env)] := by rfl) : PDI X tg (.Call (.Name "range" p) [a] [] pos) (iRng1 taa) (diRng1 r) := by
  refine ⟨pi_range1 hg hm ha.pa hs, fun c W σ s R Rd RR h k => ?_⟩
  refine ha.snd c W σ s _ _ RR h fun vs W1 ds s1 R1 p1 r1 q1 => ?_
  split at q1
  · rename_i j
    cases repsT1 r1
    exact ⟨j, rfl, q1.1, q1.2.1, k _ W1 none _ _ s1 R1 p1 itOk_r q1.2.2⟩
  · exact q1.elim
theorem di_range2 {a b : Expr} {taa : TA} {r : DA} {p : Pos} (hg : Gl X "range") (hm : X.mg "range" = none) (ha : PDA X [a, b] taa r) (hs : starEach [a, b] X.env = [(false, eval a X.env), (false, eval b X.env)] := by rfl) (hs2 : starEach [b] X.env = [(false, eval b X.env)] := by rfl) :
    PDI X tg (.Call (.Name "range" p) [a, b] [] pos) (iRng2 taa) (diRng2 r) := by
  refine ⟨pi_range2 hg hm ha.pa hs hs2, fun c W σ s R Rd RR h k => ?_⟩
  refine ha.snd c W σ s _ _ RR h fun vs W1 ds s1 R1 p1 r1 q1 => ?_
  split at q1
  · rename_i i j
    cases repsT2 r1
    exact ⟨i, j, rfl, q1.1, k _ W1 none _ _ s1 R1 p1 itOk_r q1.2⟩
  · exact q1.elim

/-! ### for -/
def forL (dg : DG) (d : DTS) (F : DEnds) (chk : DS → Prop) : List D → DS → Prop
  | [], s => chk s ∧ F.nx s
  | x :: xs, s => chk s ∧ dg x s fun s1 => d { nx := forL dg d F chk xs, ct := forL dg d F chk xs, bk := F.nx, rt := F.rt } s1
def dFor (ti : DI) (dg : DG) (d : DTS) : DTS := fun F s => ti s fun k chk xs s1 => k = none ∧ forL dg d F chk xs s1
theorem drop_cons {α : Type} {l : List α} {i : Nat} {x : α} (h : l[i]? = some x) : l.drop i = x :: l.drop (i + 1) := by
  obtain ⟨hi, e⟩ := List.getElem?_eq_some_iff.mp h
  rw [List.drop_eq_getElem_cons hi, e]
theorem snd_for (hi : SndI K wi ti) (hg : SndG K g dg) (hb : SndS K ts d) : SndS K (tFor wi g ts) (dFor ti dg d) := by
  intro c W σ s E F RR C h
  refine hi c W σ s _ _ RR h fun J W1 k chk xs s1 R1 p1 ok q1 => ?_
  obtain ⟨rfl, q1⟩ := q1
  refine ⟨fun i m σ' H' => m = xs.length - i ∧ i ≤ xs.length ∧ ∃ W' s', W'.H = H' ∧ Rel K c W' σ' s' ∧ Pr W1 W' ∧ forL dg d F chk (xs.drop i) s', ⟨xs.length, by simp, Nat.zero_le _, W1, s1, rfl, R1, Pr.refl _, q1⟩, ?_⟩
  rintro i m σ' H' ⟨rfl, hle, W', s', rfl, R', P', q⟩
  by_cases hlt : i < xs.length
  · rw [drop_cons (List.getElem?_eq_getElem hlt)] at q
    obtain ⟨qc, q⟩ := q
    obtain ⟨go, yl⟩ := ok.go c i W' σ' s' R' P' qc (fun _ z => nomatch z) hlt
    refine .inr ⟨go, fun σ2 H2 => ∃ W2 s2, W2.H = H2 ∧ Rel K c W2 σ2 s2 ∧ Pr W1 W2 ∧ forL dg d F chk (xs.drop (i + 1)) s2, fun σ2 H2 ⟨W2, s2, e2, R2, P2, q2⟩ => ⟨xs.length - (i + 1), by omega, rfl, hlt, W2, s2, e2, R2, P2, q2⟩, fun x H2 y => ?_⟩
    obtain ⟨W2, dd, e2, R2, P2, hd, rd⟩ := yl x H2 y
    rw [List.getElem?_eq_getElem hlt] at hd
    cases hd
    subst e2
    refine hg c W2 σ' s' x _ _ _ R2 rd q fun W3 σ3 s3 R3 P3 q3 => ?_
    have PP := (P'.trans P2).trans P3
    refine hb c W3 σ3 s3 _ { nx := forL dg d F chk (xs.drop (i + 1)), ct := forL dg d F chk (xs.drop (i + 1)), bk := F.nx, rt := F.rt } R3 ⟨fun W4 σ4 s4 R4 P4 q4 => ?_, fun v W4 σ4 d4 s4 R4 P4 r4 q4 => ?_, fun W4 σ4 s4 R4 P4 q4 => ?_, fun W4 σ4 s4 R4 P4 q4 => ?_⟩ q3
    · exact ⟨W4, s4, rfl, R4, PP.trans P4, q4⟩
    · exact C.rt v W4 σ4 d4 s4 R4 (p1.trans (PP.trans P4)) r4 q4
    · exact C.nx W4 σ4 s4 R4 (p1.trans (PP.trans P4)) q4
    · exact ⟨W4, s4, rfl, R4, PP.trans P4, q4⟩
  · have e : xs.drop i = [] := List.drop_eq_nil_of_le (by omega)
    rw [e] at q
    exact .inl ⟨ok.stop c i W' σ' s' R' P' q.1 (fun _ z => nomatch z) (by omega), C.nx W' σ' s' R' (p1.trans P') q.2⟩
theorem ds_for (hp : PassesOwn (model X.prog X.w) X.A X.env X.xe) (hc : X.calm = true) (hi : PDI X tg iter wi ti) (hg : PDG X tg g dg) (hb : PDSs X body ts d) (hs : ∀ x, foldedSetIterable iter X.env x = pure x := by intro _; rfl) :
    PDS X (.For tg iter body [] pos) (tFor wi g ts) (dFor ti dg d) := ⟨ps_for hp hc hi.pi hg.pg hb.ps hs, snd_for hi.snd hg.snd hb.snd⟩

/-! ### while -/
def dWhile (q : DT) (d : DTS) : DTS := fun F s => ∃ I : Nat → DS → Prop, (∃ m, I m s) ∧ ∀ m s, I m s → q s fun b s1 => if b = true then d { nx := fun s' => ∃ m', m' < m ∧ I m' s', ct := fun s' => ∃ m', m' < m ∧ I m' s', bk := F.nx, rt := F.rt } s1 else F.nx s1
theorem snd_while (hq : SndT K tt dt) (hb : SndS K ts d) : SndS K (tWhile tt ts) (dWhile dt d) := by
  intro c W σ s E F RR C h
  obtain ⟨I, ⟨m0, i0⟩, turn⟩ := h
  refine ⟨fun m σ' H' => ∃ W' s', W'.H = H' ∧ Rel K c W' σ' s' ∧ Pr W W' ∧ I m s', ⟨m0, W, s, rfl, RR, Pr.refl _, i0⟩, ?_⟩
  rintro m σ' H' ⟨W', s', rfl, R', P', im⟩
  refine hq c W' σ' s' _ _ R' (turn m s' im) fun b W1 s1 R1 P1 q1 => ?_
  have PP := P'.trans P1
  cases b with
  | true =>
    refine ⟨fun σ2 H2 => ∃ m', m' < m ∧ ∃ W2 s2, W2.H = H2 ∧ Rel K c W2 σ2 s2 ∧ Pr W W2 ∧ I m' s2, fun σ2 H2 ⟨m', hm, W2, s2, e2, R2, P2, q2⟩ => ⟨m', hm, W2, s2, e2, R2, P2, q2⟩, ?_⟩
    refine hb c W1 σ' s1 _ { nx := fun s' => ∃ m', m' < m ∧ I m' s', ct := fun s' => ∃ m', m' < m ∧ I m' s', bk := F.nx, rt := F.rt } R1 ⟨fun W4 σ4 s4 R4 P4 ⟨m', hm, q4⟩ => ⟨m', hm, W4, s4, rfl, R4, PP.trans P4, q4⟩, fun v W4 σ4 d4 s4 R4 P4 r4 q4 => C.rt v W4 σ4 d4 s4 R4 (PP.trans P4) r4 q4, fun W4 σ4 s4 R4 P4 q4 => C.nx W4 σ4 s4 R4 (PP.trans P4) q4, fun W4 σ4 s4 R4 P4 ⟨m', hm, q4⟩ => ⟨m', hm, W4, s4, rfl, R4, PP.trans P4, q4⟩⟩ q1
  | false => exact C.nx W1 σ' s1 R1 PP q1
theorem ds_while {q : Expr} (hp : PassesOwn (model X.prog X.w) X.A X.env X.xe) (hc : PDT X q tt dt) (hb : PDSs X body ts d) : PDS X (.While q body [] pos) (tWhile tt ts) (dWhile dt d) := ⟨ps_while hp hc.pt hb.ps, snd_while hc.snd hb.snd⟩
end
end DL

namespace DL
open PySem L2
/-! ### list comprehensions -/
/-- the block's own names forgotten -/
def wipeS (l : List EV) : List Nat → List EV
  | [] => l
  | v :: vs => (wipeS l vs).set v .un
def DS.wipe (s : DS) (vs : List Nat) : DS := { s with sl := wipeS s.sl vs }
/-- a target stores into these slots alone -/
def GIn (g : TG) (vs : List Nat) : Prop := ∀ x σ H Q, g x σ H Q → g x σ H fun σ' H' => wipe σ' vs = wipe σ vs ∧ Q σ' H'
def GsIn (g : TGs) (vs : List Nat) : Prop := ∀ xs σ H Q, g xs σ H Q → g xs σ H fun σ' H' => wipe σ' vs = wipe σ vs ∧ Q σ' H'
theorem wipe_at {σ : St} {j : Nat} : ∀ {vs : List Nat}, j ∈ vs → (wipe σ vs)[j]? = if j < σ.length then some none else none
  | [], h => by simp at h
  | v :: vs, h => by
    show ((wipe σ vs).set v none)[j]? = _
    by_cases hv : v = j
    · subst hv
      by_cases hb : v < σ.length
      · rw [List.getElem?_set_self (by rw [wipe_length]; exact hb), if_pos hb]
      · rw [List.getElem?_eq_none (by rw [List.length_set, wipe_length]; omega), if_neg hb]
    · rw [get_set_ne hv]
      exact wipe_at ((List.mem_cons.mp h).resolve_left fun e => hv e.symm)
theorem wipe_set {i : Nat} {v : Option V} {vs : List Nat} {σ : St} (h : i ∈ vs) : wipe (σ.set i v) vs = wipe σ vs := by
  apply List.ext_getElem?
  intro j
  by_cases hm : j ∈ vs
  · rw [wipe_at hm, wipe_at hm, List.length_set]
  · rw [wipe_out hm, wipe_out hm]
    exact get_set_ne fun e => hm (by rw [← e]; exact h)
theorem wipe_wipe {σ : St} {vs : List Nat} : wipe (wipe σ vs) vs = wipe σ vs := by
  apply List.ext_getElem?
  intro j
  by_cases hm : j ∈ vs
  · rw [wipe_at hm, wipe_at hm, wipe_length]
  · rw [wipe_out hm]
theorem gin_name {i : Nat} {vs : List Nat} (h : i ∈ vs) : GIn (gName i) vs := fun x σ H Q q => ⟨wipe_set h, q⟩
theorem gins_nil {vs : List Nat} : GsIn gNil vs := fun xs σ H Q ⟨e, q⟩ => ⟨e, rfl, q⟩
def GMono (g : TG) : Prop := ∀ x σ H Q Q', (∀ σ' H', Q σ' H' → Q' σ' H') → g x σ H Q → g x σ H Q'
def GsMono (g : TGs) : Prop := ∀ x σ H Q Q', (∀ σ' H', Q σ' H' → Q' σ' H') → g x σ H Q → g x σ H Q'
structure GOk (g : TG) (vs : List Nat) : Prop where
  isIn : GIn g vs
  mono : GMono g
structure GsOk (g : TGs) (vs : List Nat) : Prop where
  isIn : GsIn g vs
  mono : GsMono g
theorem gk_name {i : Nat} {vs : List Nat} (h : i ∈ vs) : GOk (gName i) vs := ⟨gin_name h, fun x σ H Q Q' k q => k _ _ q⟩
theorem gks_nil {vs : List Nat} : GsOk gNil vs := ⟨gins_nil, fun x σ H Q Q' k q => ⟨q.1, k _ _ q.2⟩⟩
theorem gks_cons {g : TG} {gs : TGs} {vs : List Nat} (h1 : GOk g vs) (h2 : GsOk gs vs) : GsOk (gCons g gs) vs := by
  refine ⟨fun xs σ H Q q => ?_, fun xs σ H Q Q' k q => ?_⟩
  · obtain ⟨v, r, e, q⟩ := q
    refine ⟨v, r, e, h1.mono _ _ _ _ _ (fun σ1 H1 q1 => ?_) (h1.isIn _ _ _ _ q)⟩
    exact h2.mono _ _ _ _ _ (fun σ2 H2 q2 => ⟨q2.1.trans q1.1, q2.2⟩) (h2.isIn _ _ _ _ q1.2)
  · obtain ⟨v, r, e, q⟩ := q
    exact ⟨v, r, e, h1.mono _ _ _ _ _ (fun σ1 H1 q1 => h2.mono _ _ _ _ _ k q1) q⟩
theorem gk_tup {K : PySem.W.Frag} {n : Nat} {gs : TGs} {vs : List Nat} (h : GsOk gs vs) : GOk (gTup K n gs) vs :=
  ⟨fun x σ H Q ⟨a, xs, e, h1, h2, q⟩ => ⟨a, xs, e, h1, h2, h.isIn _ _ _ _ q⟩, fun x σ H Q Q' k ⟨a, xs, e, h1, h2, q⟩ => ⟨a, xs, e, h1, h2, h.mono _ _ _ _ _ k q⟩⟩
section
variable {X : Cx} {K : PySem.W.Frag} {c : C0} {e elt o tg iter : Expr} {es ifs : List Expr} {te to : TE} {t : DE} {pos : Pos} {ts us : TS} {d u : DTS} {tt : TT} {dt : DT} {wi : TI} {ti : DI} {g : TG} {dg : DG}
theorem Rel.wipe {W : Wd} {σ : St} {s : DS} (R : Rel K c W σ s) : ∀ vs : List Nat, Rel K c W (L2.wipe σ vs) (s.wipe vs)
  | [] => R
  | v :: vs => (R.wipe vs).putUn v none
theorem wipeS_length {l : List EV} : ∀ {us : List Nat}, (wipeS l us).length = l.length
  | [] => rfl
  | v :: us => by unfold wipeS; rw [List.length_set, wipeS_length]
theorem wipeS_get {l : List EV} : ∀ {us : List Nat} {j : Nat} {x : EV}, (wipeS l us)[j]? = some x → x = .un ∨ (j ∉ us ∧ l[j]? = some x)
  | [], j, x, h => .inr ⟨by simp, h⟩
  | v :: us, j, x, h => by
    unfold wipeS at h
    by_cases hj : v = j
    · subst hj
      exact .inl (get_set_eq h).1
    · rw [get_set_ne hj] at h
      rcases wipeS_get h with q | ⟨q1, q2⟩
      · exact .inl q
      · exact .inr ⟨fun z => (List.mem_cons.mp z).elim (fun e => hj e.symm) q1, q2⟩
/-- back at the def's own slots -/
theorem Rel.back {W : Wd} {σ : St} {s : DS} {vs : List Nat} (R : Rel K c W (L2.wipe σ vs) s) : Rel K c W σ (s.wipe vs) := by
  have sig : ∀ j, j ∉ vs → σ[j]? = (L2.wipe σ vs)[j]? := fun j hj => (wipe_out hj).symm
  refine ⟨by show (wipeS s.sl vs).length = σ.length; rw [wipeS_length, R.len, wipe_length], R.m0, R.wpa, fun j x h => ?_, fun j k l a b => ?_, R.sub, R.kp, R.there, R.old, R.mm, R.mo0, R.mop, R.mp, R.npl, R.paw⟩
  · rcases wipeS_get h with q | ⟨q1, q2⟩
    · subst q; trivial
    · have en := R.ent j x q2
      have es := sig j q1
      cases x <;> simp only [EntOk, es] at en ⊢ <;> exact en
  · have conv : ∀ j, Owns (s.wipe vs) σ j l → Owns s (L2.wipe σ vs) j l := fun j a => by
      obtain ⟨⟨x, a1, a2⟩, a3⟩ := a
      rcases wipeS_get a1 with q | ⟨q1, q2⟩
      · subst q; cases a2
      · exact ⟨⟨x, q2, a2⟩, by rw [← sig j q1]; exact a3⟩
    exact R.dis j k l (conv j a) (conv k b)
structure PDTs (X : Cx) (ifs : List Expr) (tt : TT) (t : DT) : Prop where
  pts : PTs X ifs tt
  snd : SndT X.K tt t
def dYes : DT := fun s Q => Q true s
theorem dts_nil : PDTs X [] tYes dYes := ⟨pts_nil, fun c W σ s Qv Qd R h k => k true W s R (Pr.refl _) h⟩
theorem dts_one {q : Expr} (h : PDT X q tt dt) : PDTs X [q] tt dt := ⟨pts_one h.pt, h.snd⟩
/-- something new at D that no slot owns: held fast as if it had stood from the entry on -/
def C0.hold (c : C0) (D : Addr) (o : HO) : C0 := { c with M0 := fun a => c.M0 a ∨ a = D, H0 := upd c.H0 D o }
theorem Rel.hold {W : Wd} {σ : St} {s : DS} (R : Rel K c W σ s) {D : Addr} {o : HO} (h0 : c.H0 D = none) (hm : W.M D) (hD : W.H D = some o) (no : ∀ j l, Owns s σ j l → l ≠ D) : Rel K (c.hold D o) W σ s := by
  have nmo : ¬ c.mo D := fun h => R.mo0 D h h0
  have keep : ∀ a, a ≠ D → (c.hold D o).H0 a = c.H0 a := fun a h => upd_ne h
  refine ⟨R.len, fun a h => ?_, R.wpa, fun j x h => ?_, R.dis, fun a h => ?_, fun a u h n => ?_, R.there, fun a h1 h2 => ?_, R.mm, fun a h => ?_, R.mop, R.mp, R.npl, R.paw⟩
  · by_cases e : a = D
    · subst e
      show upd c.H0 a o a ≠ none
      rw [upd_same]
      exact fun z => by cases z
    · rw [keep a e]
      exact R.m0 a (h.resolve_right e)
  · have q := R.ent j x h
    cases x with
    | un => trivial
    | fz d => exact q
    | own xs =>
      obtain ⟨m, vs, a1, a2, a3, a4, a5⟩ := q
      exact ⟨m, vs, a1, a2, (keep m (no j m ⟨⟨_, h, rfl⟩, a1⟩)).trans a3, a4, a5⟩
    | ownT xs =>
      obtain ⟨m, vs, a1, a2, a3, a4, a5, a6⟩ := q
      exact ⟨m, vs, a1, a2, (keep m (no j m ⟨⟨_, h, rfl⟩, a1⟩)).trans a3, a4, a5, a6⟩
    | ownK xs =>
      obtain ⟨m, vs, a1, a2, a3, a4, a5, a6⟩ := q
      exact ⟨m, vs, a1, a2, (keep m (no j m ⟨⟨_, h, rfl⟩, a1⟩)).trans a3, a4, a5, a6⟩
    | ownI LL DD C xs =>
      obtain ⟨m, dx, vs, a1, a2, a3, a4, a5, a6⟩ := q
      exact ⟨m, dx, vs, a1, a2, ⟨a3.1, a3.2.imp (fun z => (keep m (no j m ⟨⟨_, h, rfl⟩, a1⟩)).trans z) id⟩, a4, a5, a6⟩
  · rcases h with h | rfl
    · exact R.sub a h
    · exact hm
  · by_cases e : a = D
    · subst e
      have h' : upd c.H0 a o a = some u := h
      rw [upd_same] at h'
      cases h'
      exact hD
    · rw [keep a e] at h
      exact R.kp a u h n
  · by_cases e : a = D
    · exact .inr e
    · rw [keep a e] at h1
      exact .inl (R.old a h1 h2)
  · have e : a ≠ D := fun e => nmo (e ▸ h)
    rw [keep a e]
    exact R.mo0 a h
theorem Rel.unhold {W W0 : Wd} {σ σ0 : St} {s s0 : DS} (R0 : Rel K c W0 σ0 s0) {D : Addr} {o : HO} (h0 : c.H0 D = none) (R : Rel K (c.hold D o) W σ s) : Rel K c W σ s ∧ W.H D = some o ∧ W.M D ∧ ∀ j l, Owns s σ j l → l ≠ D := by
  have nmo : ¬ c.mo D := fun h => R0.mo0 D h h0
  have keep : ∀ a, a ≠ D → (c.hold D o).H0 a = c.H0 a := fun a h => upd_ne h
  have at_ : (c.hold D o).H0 D = some o := upd_same
  have fresh : ∀ m, (c.hold D o).H0 m = none → m ≠ D ∧ c.H0 m = none := fun m h => by
    have e : m ≠ D := fun e => by
      rw [e, at_] at h
      cases h
    exact ⟨e, (keep m e).symm.trans h⟩
  refine ⟨⟨R.len, R0.m0, R.wpa, fun j x h => ?_, R.dis, fun a h => R.sub a (.inl h), fun a u h n => ?_, R.there, fun a h1 h2 => ?_, R.mm, R0.mo0, R0.mop, R.mp, R.npl, R.paw⟩, R.kp D o at_ nmo, R.sub D (.inr rfl), fun j l ow => ?_⟩
  · have q := R.ent j x h
    cases x with
    | un => trivial
    | fz d => exact q
    | own xs =>
      obtain ⟨m, vs, a1, a2, a3, a4, a5⟩ := q
      exact ⟨m, vs, a1, a2, (fresh m a3).2, a4, a5⟩
    | ownT xs =>
      obtain ⟨m, vs, a1, a2, a3, a4, a5, a6⟩ := q
      exact ⟨m, vs, a1, a2, (fresh m a3).2, a4, a5, a6⟩
    | ownK xs =>
      obtain ⟨m, vs, a1, a2, a3, a4, a5, a6⟩ := q
      exact ⟨m, vs, a1, a2, (fresh m a3).2, a4, a5, a6⟩
    | ownI LL DD C xs =>
      obtain ⟨m, dx, vs, a1, a2, a3, a4, a5, a6⟩ := q
      exact ⟨m, dx, vs, a1, a2, ⟨a3.1, a3.2.imp (fun z => (fresh m z).2) id⟩, a4, a5, a6⟩
  · have e : a ≠ D := fun e => by
      rw [e, h0] at h
      cases h
    exact R.kp a u ((keep a e).trans h) n
  · have e : a ≠ D := fun e => h1 (e ▸ h0)
    exact (R.old a (fun z => h1 ((keep a e).symm.trans z)) h2).resolve_right e
  · obtain ⟨⟨x, h1, h2⟩, h3⟩ := ow
    have q := R.ent j x h1
    intro e
    subst e
    cases x with
    | un => cases h2
    | fz d => cases h2
    | own xs =>
      obtain ⟨m, vs, a1, a2, a3, a4, a5⟩ := q
      rw [h3] at a1; cases a1
      exact (fresh _ a3).1 rfl
    | ownT xs =>
      obtain ⟨m, vs, a1, a2, a3, a4, a5, a6⟩ := q
      rw [h3] at a1; cases a1
      exact (fresh _ a3).1 rfl
    | ownK xs =>
      obtain ⟨m, vs, a1, a2, a3, a4, a5, a6⟩ := q
      rw [h3] at a1; cases a1
      exact (fresh _ a3).1 rfl
    | ownI LL DD C xs =>
      obtain ⟨m, dx, vs, a1, a2, a3, a4, a5, a6⟩ := q
      rw [h3] at a1; cases a1
      rcases a3.2 with z | z
      · exact (fresh _ z).1 rfl
      · exact nmo z
/-- what no slot owns is written -/
theorem Rel.poke {W : Wd} {σ : St} {s : DS} (R : Rel K c W σ s) {D : Addr} {o o' : HO} (h0 : c.H0 D = none) (hm : W.M D) (hD : W.H D = some o) (hf : ¬ Fix o) (no : ∀ j l, Owns s σ j l → l ≠ D) : Rel K c ⟨W.M, upd W.H D o', W.pa⟩ σ s := by
  have P : Pr W ⟨W.M, upd W.H D o', W.pa⟩ := Pr.mut hm hD hf
  refine ⟨R.len, R.m0, R.wpa, fun j x h => ?_, R.dis, R.sub, fun a u h n => ?_, fun a h => ?_, R.old, R.mm, R.mo0, R.mop, R.mp, R.npl, ?_⟩
  · have q := R.ent j x h
    cases x with
    | un => trivial
    | fz d =>
      obtain ⟨v, a1, a2⟩ := q
      exact ⟨v, a1, a2.mono P⟩
    | own xs =>
      obtain ⟨m, vs, a1, a2, a3, a4, a5⟩ := q
      exact ⟨m, vs, a1, a2, a3, (upd_ne (no j m ⟨⟨_, h, rfl⟩, a1⟩)).trans a4, a5.mono P⟩
    | ownT xs =>
      obtain ⟨m, vs, a1, a2, a3, a4, a5, a6⟩ := q
      exact ⟨m, vs, a1, a2, a3, (upd_ne (no j m ⟨⟨_, h, rfl⟩, a1⟩)).trans a4, a5, a6.mono P⟩
    | ownK xs =>
      obtain ⟨m, vs, a1, a2, a3, a4, a5, a6⟩ := q
      exact ⟨m, vs, a1, a2, a3, (upd_ne (no j m ⟨⟨_, h, rfl⟩, a1⟩)).trans a4, a5, a6.mono P⟩
    | ownI LL DD C xs =>
      obtain ⟨m, dx, vs, a1, a2, a3, a4, a5, a6⟩ := q
      exact ⟨m, dx, vs, a1, a2, a3, (upd_ne (no j m ⟨⟨_, h, rfl⟩, a1⟩)).trans a4, a5, a6.mono P⟩
  · have ne : a ≠ D := fun e => by
      rw [e, h0] at h
      cases h
    exact (upd_ne ne).trans (R.kp a u h n)
  · by_cases e : a = D
    · subst e; exact ⟨o', upd_same⟩
    · obtain ⟨u, q⟩ := R.there a h
      exact ⟨u, (upd_ne e).trans q⟩
  · obtain ⟨t, r, ns, h1, h2, h3⟩ := R.paw
    have npa : c.pa ≠ D := fun e => R.mo0 _ R.mop (e ▸ h0)
    have npl : c.pl ≠ D := fun e => R.npl (e ▸ hm)
    exact ⟨t, r, ns, (upd_ne npa).trans h1, (upd_ne npl).trans h2, h3⟩
def lcL (dg : DG) (dt : DT) (t : DE) (vs : List Nat) (chk : DS → Prop) : List D → List D → DS → (List D → DS → Prop) → Prop
  | [], acc, s, Q => chk s ∧ Q acc s
  | x :: xs, acc, s, Q => chk s ∧ dg x s fun s1 => dt s1 fun b s2 => if b = true then t s2 fun y s3 => y.isSlot = false ∧ acc.length < sizeLine ∧ lcL dg dt t vs chk xs (acc ++ [y]) (s3.wipe vs) Q else lcL dg dt t vs chk xs acc (s2.wipe vs) Q
def okSlot (k : Option Nat) (vs : List Nat) : Prop := match k with
  | some j => j ∉ vs
  | none => True
def dLc (ti : DI) (dg : DG) (dt : DT) (t : DE) (vs : List Nat) : DL_ := fun s Q => ti s fun k chk xs s1 => okSlot k vs ∧ lcL dg dt t vs chk xs [] (s1.wipe vs) fun acc s2 => Q acc (s2.wipe vs)
theorem snd_lc {vs : List Nat} (hi : SndI K wi ti) (hg : SndG K g dg) (gk : GOk g vs) (ht : SndT K tt dt) (he : SndE K te t) : SndL K (tLc wi g tt te vs) (dLc ti dg dt t vs) := by
  intro c W σ s Qv Qd RR h k
  refine hi c W σ s _ _ RR h fun J W1 ks chk xs s1 R1 p1 ok q1 => ?_
  obtain ⟨oks, q1⟩ := q1
  intro D hD
  have h0 : c.H0 D = none := R1.new0 hD
  have same_at : ∀ j, ks = some j → (L2.wipe σ vs)[j]? = σ[j]? := fun j hj => by
    subst hj
    exact wipe_out oks
  have RD : Rel K c ⟨fun a => W1.M a ∨ a = D, upd W1.H D (.lst []), W1.pa⟩ (L2.wipe σ vs) (s1.wipe vs) := (R1.laid (.lst []) hD).wipe vs
  have noD : ∀ j l, Owns (s1.wipe vs) (L2.wipe σ vs) j l → l ≠ D := (R1.wipe vs).newOwn hD
  refine ⟨fun i m H' => m = xs.length - i ∧ i ≤ xs.length ∧ ∃ W' s' vs' acc, W'.H = H' ∧ Rel K c W' (L2.wipe σ vs) s' ∧ Pr W1 W' ∧ W'.M D ∧ W'.H D = some (.lst vs') ∧ Reps K W' vs' acc ∧ (∀ j l, Owns s' (L2.wipe σ vs) j l → l ≠ D) ∧
    lcL dg dt t vs chk (xs.drop i) acc s' (fun acc s2 => Qd acc (s2.wipe vs)),
    ⟨xs.length, by simp, Nat.zero_le _, _, s1.wipe vs, [], [], rfl, RD, Pr.laid hD, .inr rfl, upd_same, .nil, noD, q1⟩, ?_⟩
  rintro i m H' ⟨rfl, hle, W', s', vs', acc, rfl, R', P', mD, hD', rD, nD, q⟩
  by_cases hlt : i < xs.length
  · rw [drop_cons (List.getElem?_eq_getElem hlt)] at q
    obtain ⟨qc, q⟩ := q
    have RH : Rel K (c.hold D (.lst vs')) W' (L2.wipe σ vs) s' := R'.hold h0 mD hD' nD
    obtain ⟨go, yl⟩ := ok.go (c.hold D (.lst vs')) i W' _ s' RH P' qc same_at hlt
    refine .inr ⟨go, fun H2 => ∃ W' s' vs' acc, W'.H = H2 ∧ Rel K c W' (L2.wipe σ vs) s' ∧ Pr W1 W' ∧ W'.M D ∧ W'.H D = some (.lst vs') ∧ Reps K W' vs' acc ∧ (∀ j l, Owns s' (L2.wipe σ vs) j l → l ≠ D) ∧
      lcL dg dt t vs chk (xs.drop (i + 1)) acc s' (fun acc s2 => Qd acc (s2.wipe vs)), fun H2 hN => ⟨xs.length - (i + 1), by omega, rfl, hlt, hN⟩, fun x H2 y => ?_⟩
    obtain ⟨W2, dd, e2, R2, P2, hd, rd⟩ := yl x H2 y
    rw [List.getElem?_eq_getElem hlt] at hd
    cases hd
    subst e2
    refine gk.mono _ _ _ _ _ ?_ (gk.isIn _ _ _ _ (hg (c.hold D (.lst vs')) W2 (L2.wipe σ vs) s' x _ (fun σ3 H3 => ∃ W3 s3, W3.H = H3 ∧ Rel K (c.hold D (.lst vs')) W3 σ3 s3 ∧ Pr W2 W3 ∧
      dt s3 fun b s2 => if b = true then t s2 fun y s3 => y.isSlot = false ∧ acc.length < sizeLine ∧ lcL dg dt t vs chk (xs.drop (i + 1)) (acc ++ [y]) (s3.wipe vs) (fun acc s2 => Qd acc (s2.wipe vs)) else lcL dg dt t vs chk (xs.drop (i + 1)) acc (s2.wipe vs) (fun acc s2 => Qd acc (s2.wipe vs))) _ R2 rd q
      fun W3 σ3 s3 R3 P3 q3 => ⟨W3, s3, rfl, R3, P3, q3⟩))
    rintro σ3 H3 ⟨ew, W3, s3, rfl, R3, P3, q3⟩
    rw [wipe_wipe] at ew
    refine ⟨ew, ?_⟩
    refine ht (c.hold D (.lst vs')) W3 σ3 s3 _ _ R3 q3 fun b W4 s4 R4 P4 q4 => ?_
    have PP4 : Pr W1 W4 := ((P'.trans P2).trans P3).trans P4
    cases b with
    | false =>
      obtain ⟨R5, h5, m5, n5⟩ := R'.unhold h0 R4
      have R6 := R5.wipe vs
      rw [ew] at R6
      refine ⟨W4, s4.wipe vs, vs', acc, rfl, R6, PP4, m5, h5, rD.mono ((P2.trans P3).trans P4), fun j l o => ?_, q4⟩
      obtain ⟨⟨x, a1, a2⟩, a3⟩ := o
      rcases wipeS_get a1 with z | ⟨z1, z2⟩
      · subst z; cases a2
      · refine n5 j l ⟨⟨x, z2, a2⟩, ?_⟩
        rw [← ew, wipe_out z1] at a3
        exact a3
    | true =>
      refine he (c.hold D (.lst vs')) W4 σ3 s4 _ _ R4 q4 fun yv W5 y s5 R5 P5 ry q5 => ?_
      obtain ⟨ns, hz, q5⟩ := q5
      obtain ⟨R6, h6, m6, n6⟩ := R'.unhold h0 R5
      refine ⟨vs', h6, by rw [rD.length]; exact hz, ?_⟩
      have P6 : Pr W5 ⟨W5.M, upd W5.H D (.lst (vs' ++ [yv])), W5.pa⟩ := Pr.mut m6 h6 fun z => z
      have R7 : Rel K c ⟨W5.M, upd W5.H D (.lst (vs' ++ [yv])), W5.pa⟩ σ3 s5 := R6.poke h0 m6 h6 (fun z => z) n6
      have R8 := R7.wipe vs
      rw [ew] at R8
      refine ⟨_, s5.wipe vs, vs' ++ [yv], acc ++ [y], rfl, R8, (PP4.trans P5).trans P6, m6, upd_same, (rD.mono (((P2.trans P3).trans P4).trans (P5.trans P6))).append (.cons ((ry.to ns).mono P6) .nil), fun j l o => ?_, q5⟩
      obtain ⟨⟨x, a1, a2⟩, a3⟩ := o
      rcases wipeS_get a1 with z | ⟨z1, z2⟩
      · subst z; cases a2
      · refine n6 j l ⟨⟨x, z2, a2⟩, ?_⟩
        rw [← ew, wipe_out z1] at a3
        exact a3
  · have e : xs.drop i = [] := List.drop_eq_nil_of_le (by omega)
    rw [e] at q
    refine .inl ⟨ok.stop c i W' _ s' R' P' q.1 same_at (by omega), ?_⟩
    exact k D vs' W' acc (s'.wipe vs) R'.back (p1.trans P') mD hD' rD h0 (fun j l o => by
      obtain ⟨⟨x, a1, a2⟩, a3⟩ := o
      rcases wipeS_get a1 with z | ⟨z1, z2⟩
      · subst z; cases a2
      · exact nD j l ⟨⟨x, z2, a2⟩, by rw [wipe_out z1]; exact a3⟩) q.2
/-- [elt for tg in iter if ..], a new list -/
theorem dl_lc {scope : Scope} {own : List (Str × Nat)} (hc : X.calm = true) (hN : X.N.Nodup) (hi : PDI X tg iter wi ti) (ok : BlkOk X.N X.env.scope scope own) (gk : GOk g (own.map (·.2)))
    (hg : ∀ (s : Shared) (H : Hp) (C : Addr) (cl : List (Str × Addr)) (fp : List Addr), PDG (X.blk s H scope (compEnvC scope cl C X.env) fp) tg g dg) (ht : ∀ (s : Shared) (H : Hp) (C : Addr) (cl : List (Str × Addr)) (fp : List Addr), PDTs (X.blk s H scope (compEnvC scope cl C X.env) fp) ifs tt dt)
    (he : ∀ (s : Shared) (H : Hp) (C : Addr) (cl : List (Str × Addr)) (fp : List Addr), PD (X.blk s H scope (compEnvC scope cl C X.env) fp) elt te t) (hs : ∀ x, foldedSetIterable iter X.env x = pure x := by intro _; rfl) :
    PL X (.ListComp elt [⟨tg, iter, ifs, 0⟩] scope pos) (tLc wi g tt te (own.map (·.2))) (dLc ti dg dt t (own.map (·.2))) :=
  ⟨pe_lc hc hN hi.pi ok (fun s H C cl fp => (hg s H C cl fp).pg) (fun s H C cl fp => (ht s H C cl fp).pts) (fun s H C cl fp => (he s H C cl fp).pe) hs,
    snd_lc hi.snd (hg X.s_0 (fun _ => none) 0 [] []).snd gk (ht X.s_0 (fun _ => none) 0 [] []).snd (he X.s_0 (fun _ => none) 0 [] []).snd⟩
/-- y = [..] on one line, y's slot i, as the def's own or as data -/
theorem ds_ownLc {i : Nat} {y : Str} {py spos : Pos} {scope : Scope} {own : List (Str × Nat)} (hc : X.calm = true) (hN : X.N.Nodup) (hy : X.N[i]? = some y) (hyl : X.env.scope.names.lookup y = some .local)
    (hsw : swapsWith (.ListComp elt [⟨tg, iter, ifs, 0⟩] scope pos) (some (.Name y py)) spos.line X.env = pure true) (hi : PDI X tg iter wi ti) (ok : BlkOk X.N X.env.scope scope own) (gk : GOk g (own.map (·.2)))
    (hg : ∀ (s : Shared) (H : Hp) (C : Addr) (cl : List (Str × Addr)) (fp : List Addr), PDG (X.blk s H scope (compEnvC scope cl C X.env) fp) tg g dg) (ht : ∀ (s : Shared) (H : Hp) (C : Addr) (cl : List (Str × Addr)) (fp : List Addr), PDTs (X.blk s H scope (compEnvC scope cl C X.env) fp) ifs tt dt)
    (he : ∀ (s : Shared) (H : Hp) (C : Addr) (cl : List (Str × Addr)) (fp : List Addr), PD (X.blk s H scope (compEnvC scope cl C X.env) fp) elt te t) (hs : ∀ x, foldedSetIterable iter X.env x = pure x := by intro _; rfl) :
    PDS X (.Assign [.Name y py] (.ListComp elt [⟨tg, iter, ifs, 0⟩] scope pos) spos) (tAsg (tLc wi g tt te (own.map (·.2))) (gName i)) (dOwn i (dLc ti dg dt t (own.map (·.2)))) :=
  ⟨ps_setLc hc hN hy hyl hsw hi.pi ok (fun s H C cl fp => (hg s H C cl fp).pg) (fun s H C cl fp => (ht s H C cl fp).pts) (fun s H C cl fp => (he s H C cl fp).pe) hs,
    snd_own (snd_lc hi.snd (hg X.s_0 (fun _ => none) 0 [] []).snd gk (ht X.s_0 (fun _ => none) 0 [] []).snd (he X.s_0 (fun _ => none) 0 [] []).snd)⟩
end
end DL

namespace DL
open PySem L2
/-! ### what a def promises, over data -/
abbrev Ctr := List D → Nat → (D → Nat → Prop) → Prop
def Kept (pa : Addr) (H H' : Hp) : Prop := ∀ a o, H a = some o → a ≠ pa → H' a = some o
def spC (K : PySem.W.Frag) (C : Ctr) : Sp := fun vs H Q _ => ∃ (M : Addr → Prop) (pa pl : Addr) (ds : List D) (b : Nat) (Qd : D → Nat → Prop),
  Reps K ⟨M, H, pa⟩ vs ds ∧ M pa ∧ ¬ M pl ∧ (∀ a, M a → H a ≠ none) ∧ PawOk K pa pl b H ∧ C ds b Qd ∧
  ∀ v H' d b', Kept pa H H' → PawOk K pa pl b' H' → Rep K ⟨M, H', pa⟩ v d → Qd d b' → Q v H'
def rtD (Q : D → Nat → Prop) (d : D) (s : DS) : Prop := match d with
  | .slot i => match ownL s i with
    | some xs => Q (.lst xs) s.bud
    | none => False
  | d => Q d s.bud
def endsC (Q : D → Nat → Prop) : DEnds := { nx := fun s => Q .non s.bud, rt := rtD Q }
def startD (N : List Str) (ds : List D) (b : Nat) : DS := ⟨ds.map EV.fz ++ List.replicate (N.length - ds.length) .un, b⟩
section
variable {K : PySem.W.Frag}
theorem Pr.less {W : Wd} {M : Addr → Prop} {pa : Addr} (h : ∀ a, M a → W.M a) (hp : W.pa = pa) : Pr W ⟨M, W.H, pa⟩ := ⟨fun a o e _ => ⟨e, fun n z => n (h a z)⟩, hp.symm⟩
theorem rel_start {N : List Str} {M : Addr → Prop} {H : Hp} {pa pl : Addr} {vs : List V} {ds : List D} {b : Nat} (r : Reps K ⟨M, H, pa⟩ vs ds) (mp : M pa) (npl : ¬ M pl) (m0 : ∀ a, M a → H a ≠ none) (pw : PawOk K pa pl b H) (hl : ds.length ≤ N.length) :
    Rel K ⟨M, H, pa, pl, fun a => a = pa⟩ ⟨M, H, pa⟩ (L2.start N vs) (startD N ds b) := by
  have hlen := r.length
  have un_or : ∀ (i : Nat) (e : EV), (ds.map EV.fz ++ List.replicate (N.length - ds.length) EV.un)[i]? = some e → e = .un ∨ ∃ d, e = .fz d ∧ ds[i]? = some d := by
    intro i e h
    by_cases hi : i < ds.length
    · rw [List.getElem?_append_left (by simpa using hi), List.getElem?_map] at h
      cases q : ds[i]? with
      | none => rw [q] at h; cases h
      | some d =>
        rw [q] at h
        cases h
        exact .inr ⟨d, rfl, rfl⟩
    · rw [List.getElem?_append_right (by simpa using hi), List.getElem?_replicate] at h
      split at h
      · cases h; exact .inl rfl
      · cases h
  refine ⟨?_, m0, rfl, fun i e h => ?_, fun i j l a _ => ?_, fun _ h => h, fun a o h _ => h, fun a h => ?_, fun a _ h => h, fun a h => ?_, fun a h => ?_, rfl, mp, npl, pw⟩
  · show (ds.map EV.fz ++ List.replicate (N.length - ds.length) EV.un).length = (L2.start N vs).length
    unfold L2.start
    rw [List.length_append, List.length_append, List.length_map, List.length_map, List.length_replicate, List.length_replicate, hlen]
  · rcases un_or i e h with q | ⟨d, q, hd⟩
    · subst q; trivial
    · subst q
      obtain ⟨v, hv, rv⟩ := r.get hd
      refine ⟨v, ?_, rv⟩
      unfold L2.start
      rw [List.getElem?_append_left (by simpa using (List.getElem?_eq_some_iff.mp hv).1), List.getElem?_map, hv]
      rfl
  · obtain ⟨⟨e, h1, h2⟩, _⟩ := a
    rcases un_or i e h1 with q | ⟨d, q, _⟩
    · subst q; cases h2
    · subst q; cases h2
  · cases e : H a with
    | none => exact absurd e (m0 a h)
    | some o => exact ⟨o, e⟩
  · have h' : a = pa := h
    rw [h']; exact mp
  · have h' : a = pa := h
    rw [h']; exact m0 pa mp
variable {P : Program} {w : World} {mg : Str → Option Value} {base : Heap}
theorem okC_len {C : Ctr} {n : Nat} (len : ∀ ds b Q, C ds b Q → ds.length = n) : ∀ vs H Q E, spC K C vs H Q E → vs.length = n := by
  rintro vs H Q E ⟨M, pa, pl, ds, b, Qd, r, _, _, _, _, hc, _⟩
  rw [r.length]
  exact len _ _ _ hc
/-- from the body's reading over data to the promise's -/
theorem bodyC {c0 : C0} {N : List Str} {M : Addr → Prop} {H : Hp} {pa pl : Addr} {vs : List V} {Q : VK} {Qd : D → Nat → Prop} {W' : Wd} {σ' : St} {s' : DS} {v : V} {d : D}
    (k : ∀ v H' d b', Kept pa H H' → PawOk K pa pl b' H' → Rep K ⟨M, H', pa⟩ v d → Qd d b' → Q v H')
    (R : Rel K ⟨M, H, pa, pl, fun a => a = pa⟩ W' σ' s') (r : RepT K W' σ' v d) (q : rtD Qd d s') : Q v W'.H := by
  have P : Pr W' ⟨M, W'.H, pa⟩ := Pr.less R.sub R.wpa
  have kp : Kept pa H W'.H := fun a o h n => R.kp a o h n
  cases d with
  | slot i =>
    have q' : match ownL s' i with
      | some xs => Qd (.lst xs) s'.bud
      | none => False := q
    cases e : ownL s' i with
    | none => rw [e] at q'; exact q'.elim
    | some xs =>
      rw [e] at q'
      obtain ⟨l, ws, g1, g2, g3, g4, g5, g6⟩ := ownL_spec R e
      have r' : σ'[i]? = some (some v) := r
      rw [g1] at r'
      cases r'
      exact k (.ref l) W'.H (.lst xs) s'.bud kp R.paw (Rep.lst g5 (fun m => R.m0 l m g4) (g6.mono P)) q'
  | _ => exact k v W'.H _ s'.bud kp R.paw (Rep.mono P r) q
theorem FunC {x qual : Str} {st : Stmt} {f : Addr} {fd : FuncData} {N ps : List Str} {k : Nat} {C : Ctr} (F : Fun K x qual st f fd) (S : FnScope N ps (defScope st)) (len : ∀ ds b Q, C ds b Q → ds.length = ps.length)
    (hbody : ∀ (cdv : Value) (A : Around) (outer : List Env) (s : Shared) (H : Hp) (E : XK), Room k (A.deeper (PyProof.Rows.envOfC qual (defScope st) s.heap.objs.size f cdv)) →
      ∃ ts t, PDSs (cxOf CX0 P w K mg base N qual (defScope st) f cdv A outer s H E).nox (defBody st) ts t ∧ ∀ ds b Qd, C ds b Qd → t (endsC Qd) (startD N ds b)) : FnOk P w K mg base CX0 (k + 1) f fd ps (spC K C) := by
  refine F.ok S (okC_len len) fun cdv A outer s H vs Q E hr h => ?_
  obtain ⟨M, pa, pl, ds, b, Qd, r, mp, npl, m0, pw, hc, hk⟩ := h
  obtain ⟨ts, t, hp, ht⟩ := hbody cdv A outer s H E hr
  refine ⟨ts, hp.ps, ?_⟩
  have hpl : ds.length ≤ N.length := by
    rw [len _ _ _ hc]
    have e := congrArg List.length S.pre
    rw [List.length_take] at e
    omega
  refine hp.snd ⟨M, H, pa, pl, fun a => a = pa⟩ ⟨M, H, pa⟩ (L2.start N vs) (startD N ds b) _ (endsC Qd) (rel_start r mp npl m0 pw hpl) ⟨fun W' σ' s' R _ q => ?_, fun v W' σ' d s' R _ rv q => ?_, fun _ _ _ _ _ z => z.elim, fun _ _ _ _ _ z => z.elim⟩ (ht ds b Qd hc)
  · exact bodyC (N := N) (c0 := ⟨M, H, pa, pl, fun a => a = pa⟩) (vs := vs) (v := .non) (d := .non) hk R Rep.non q
  · exact bodyC (N := N) (c0 := ⟨M, H, pa, pl, fun a => a = pa⟩) (vs := vs) hk R rv q
end
/-! ### calls -/
mutual
def D.flat : D → Bool
  | .tup xs => flatAll xs
  | .kon xs => flatAll xs
  | .lst _ => false
  | .obj _ _ => false
  | .exc _ _ => false
  | .dT _ => false
  | .dK _ => false
  | .slot _ => false
  | _ => true
def flatAll : List D → Bool
  | [] => true
  | x :: xs => D.flat x && flatAll xs
end
mutual
theorem Rep.flat {K : PySem.W.Frag} {W : Wd} {M : Addr → Prop} : ∀ {v : V} {d : D}, Rep K W v d → d.flat = true → Rep K ⟨M, W.H, W.pa⟩ v d
  | _, _, .non, _ => .non
  | _, _, .bl b, _ => .bl b
  | _, _, .int i, _ => .int i
  | _, _, .str x, _ => .str x
  | _, _, .tup h r, f => .tup h (Reps.flat r (by rw [D.flat] at f; exact f))
  | _, _, .kon h r, f => .kon h (Reps.flat r (by rw [D.flat] at f; exact f))
  | _, _, .lst _ _ _, f => by rw [D.flat] at f; cases f
  | _, _, .obj _ _ _ _, f => by rw [D.flat] at f; cases f
  | _, _, .exc _ _ _ _ _ _, f => by rw [D.flat] at f; cases f
  | _, _, .dT _ _ _ _, f => by rw [D.flat] at f; cases f
  | _, _, .dK _ _ _ _, f => by rw [D.flat] at f; cases f
  | _, _, .raw v, _ => .raw v
  | _, _, .paw, _ => .paw
theorem Reps.flat {K : PySem.W.Frag} {W : Wd} {M : Addr → Prop} : ∀ {vs : List V} {ds : List D}, Reps K W vs ds → flatAll ds = true → Reps K ⟨M, W.H, W.pa⟩ vs ds
  | _, _, .nil, _ => .nil
  | _, _, .cons (d := d) (ds := ds) a r, f => by
    have f' : (D.flat d && flatAll ds) = true := by rw [flatAll] at f; exact f
    rw [Bool.and_eq_true] at f'
    exact .cons (Rep.flat a f'.1) (Reps.flat r f'.2)
end
/-- what is handed to a def: a slot's own list is lent -/
def unslot (s : DS) : D → Option D
  | .slot i => (ownL s i).map .lst
  | d => some d
def unslots (s : DS) : List D → Option (List D)
  | [] => some []
  | d :: ds => (unslot s d).bind fun e => (unslots s ds).map fun es => e :: es
/-- the places that are lent -/
def Lent (σ : St) (ds : List D) (a : Addr) : Prop := ∃ i, D.slot i ∈ ds ∧ σ[i]? = some (some (.ref a))
section
variable {X : Cx} {K : PySem.W.Frag} {c : C0} {e : Expr} {es : List Expr} {taa : TA} {ra : DA} {pos p : Pos} {C : Ctr} {k : Nat} {x : Str} {ps : List Str}
theorem lend1 {W : Wd} {σ : St} {s : DS} {v : V} {d d' : D} {B : Addr → Prop} (R : Rel K c W σ s) (r : RepT K W σ v d) (h : unslot s d = some d') (hB : ∀ i a, d = .slot i → σ[i]? = some (some (.ref a)) → B a) : Rep K ⟨fun a => W.M a ∧ ¬ B a, W.H, W.pa⟩ v d' := by
  have P : Pr W ⟨fun a => W.M a ∧ ¬ B a, W.H, W.pa⟩ := Pr.less (fun _ h => h.1) rfl
  cases d with
  | slot i =>
    have h' : (ownL s i).map D.lst = some d' := h
    cases q : ownL s i with
    | none => rw [q] at h'; cases h'
    | some xs =>
      rw [q] at h'
      cases h'
      obtain ⟨l, ws, g1, g2, g3, g4, g5, g6⟩ := ownL_spec R q
      have r' : σ[i]? = some (some v) := r
      rw [g1] at r'
      cases r'
      exact Rep.lst g5 (fun z => z.2 (hB i l rfl g1)) (g6.mono P)
  | _ =>
    cases h
    exact Rep.mono P r
theorem lends {W : Wd} {σ : St} {s : DS} {B : Addr → Prop} (R : Rel K c W σ s) : ∀ {vs : List V} {ds ds' : List D}, RepsT K W σ vs ds → unslots s ds = some ds' → (∀ a, Lent σ ds a → B a) → Reps K ⟨fun a => W.M a ∧ ¬ B a, W.H, W.pa⟩ vs ds'
  | _, _, _, .nil, h, _ => by cases h; exact .nil
  | _, _, ds', .cons (d := d) (ds := ds) a r, h, hB => by
    have h' : (unslot s d).bind (fun e => (unslots s ds).map fun es => e :: es) = some ds' := h
    cases q : unslot s d with
    | none => rw [q] at h'; cases h'
    | some e1 =>
      rw [q] at h'
      cases q2 : unslots s ds with
      | none => rw [q2] at h'; cases h'
      | some e2 =>
        rw [q2] at h'
        cases h'
        exact .cons (lend1 R a q fun i a e h => hB a ⟨i, by rw [e]; exact List.mem_cons_self .., h⟩) (lends R r q2 fun a ⟨i, hi, hs⟩ => hB a ⟨i, List.mem_cons_of_mem _ hi, hs⟩)
theorem noSlots_lent {σ : St} : ∀ {ds : List D} {a : Addr}, noSlots ds = true → ¬ Lent σ ds a
  | [], _, _, ⟨i, h, _⟩ => by simp at h
  | d :: ds, a, h, ⟨i, hi, hs⟩ => by
    have h' : (!d.isSlot && noSlots ds) = true := h
    rw [Bool.and_eq_true] at h'
    rcases List.mem_cons.mp hi with e | hm
    · rw [← e] at h'
      cases h'.1
    · exact noSlots_lent h'.2 ⟨i, hm, hs⟩
/-- behind a call: the draws may have changed, all else stands -/
theorem Rel.after {W : Wd} {σ : St} {s : DS} {H' : Hp} {b : Nat} (R : Rel K c W σ s) (hk : Kept c.pa W.H H') (hp : PawOk K c.pa c.pl b H') : Rel K c ⟨W.M, H', W.pa⟩ σ { s with bud := b } ∧ Pr W ⟨W.M, H', W.pa⟩ := by
  have P : Pr W ⟨W.M, H', W.pa⟩ := ⟨fun a o h n => ⟨hk a o h fun e => by
    subst e
    obtain ⟨t, r, ns, h1, _⟩ := R.paw
    rw [h1] at h
    cases h
    exact n.elim (fun z => z R.mp) id, id⟩, rfl⟩
  refine ⟨⟨R.len, R.m0, R.wpa, fun j x h => ?_, R.dis, R.sub, fun a o h n => hk a o (R.kp a o h n) fun e => n (e ▸ R.mop), fun a h => ?_, R.old, R.mm, R.mo0, R.mop, R.mp, R.npl, hp⟩, P⟩
  · have q := R.ent j x h
    have ne : ∀ m, x.isOwn = true → σ[j]? = some (some (.ref m)) → m ≠ c.pa := fun m hx hs => ((Owns.ent R (i := j) (l := m) ⟨⟨x, h, hx⟩, hs⟩).2.1).1
    cases x with
    | un => trivial
    | fz d =>
      obtain ⟨v, a1, a2⟩ := q
      exact ⟨v, a1, a2.mono P⟩
    | own xs =>
      obtain ⟨m, vs, a1, a2, a3, a4, a5⟩ := q
      exact ⟨m, vs, a1, a2, a3, hk _ _ a4 (ne m rfl a1), a5.mono P⟩
    | ownT xs =>
      obtain ⟨m, vs, a1, a2, a3, a4, a5, a6⟩ := q
      exact ⟨m, vs, a1, a2, a3, hk _ _ a4 (ne m rfl a1), a5, a6.mono P⟩
    | ownK xs =>
      obtain ⟨m, vs, a1, a2, a3, a4, a5, a6⟩ := q
      exact ⟨m, vs, a1, a2, a3, hk _ _ a4 (ne m rfl a1), a5, a6.mono P⟩
    | ownI LL DD C xs =>
      obtain ⟨m, dx, vs, a1, a2, a3, a4, a5, a6⟩ := q
      exact ⟨m, dx, vs, a1, a2, a3, hk _ _ a4 (ne m rfl a1), a5, a6.mono P⟩
  · by_cases e : a = c.pa
    · subst e
      obtain ⟨t, r, ns, h1, _⟩ := hp
      exact ⟨_, h1⟩
    · obtain ⟨o, q⟩ := R.there a h
      exact ⟨o, hk a o q e⟩
def dCall (C : Ctr) (ra : DA) : DE := fun s Q => ra s fun ds s1 => match unslots s1 ds with
  | some ds' => C ds' s1.bud fun d b => (noSlots ds || d.flat) = true ∧ Q d { s1 with bud := b }
  | none => False
theorem Rep.noSlot {K : PySem.W.Frag} {W : Wd} {v : V} {i : Nat} (h : Rep K W v (.slot i)) : False := by cases h
theorem snd_call {E : XK} (ha : SndA K taa ra) : SndE K (tCall (spC K C) [] E taa) (dCall C ra) := by
  intro c W σ s Qv Qd R hq k
  refine ha c W σ s _ _ R hq fun vs W1 ds s1 R1 p1 r1 q1 => ?_
  have q1 : match unslots s1 ds with
    | some ds' => C ds' s1.bud fun d b => (noSlots ds || d.flat) = true ∧ Qd d { s1 with bud := b }
    | none => False := q1
  cases e : unslots s1 ds with
  | none => rw [e] at q1; exact q1.elim
  | some ds' =>
    rw [e] at q1
    have rr := lends (B := Lent σ ds) R1 r1 e fun _ h => h
    rw [List.append_nil]
    refine ⟨fun a => W1.M a ∧ ¬ Lent σ ds a, c.pa, c.pl, ds', s1.bud, _, R1.wpa ▸ rr, ⟨R1.mp, fun ⟨i, hi, hs⟩ => ?_⟩, fun z => R1.npl z.1, fun a h => ?_, R1.paw, q1, fun v H' d b' hk hp rv q => ?_⟩
    · -- what is lent is not the well
      have own : ∀ {vs : List V} {ds ds' : List D}, RepsT K W1 σ vs ds → unslots s1 ds = some ds' → D.slot i ∈ ds → ∃ l, Owns s1 σ i l := by
        intro vs ds ds' r
        induction r generalizing ds' with
        | nil => intro _ h; simp at h
        | cons a r ih =>
          rename_i v0 d0 vs0 ds0
          intro h hm
          have h' : (unslot s1 d0).bind (fun e => (unslots s1 ds0).map fun es => e :: es) = some ds' := h
          cases q : unslot s1 d0 with
          | none => rw [q] at h'; cases h'
          | some e1 =>
            rw [q] at h'
            cases q2 : unslots s1 ds0 with
            | none => rw [q2] at h'; cases h'
            | some e2 =>
              rcases List.mem_cons.mp hm with e | hm
              · rw [← e] at q
                have q' : (ownL s1 i).map D.lst = some e1 := q
                cases q3 : ownL s1 i with
                | none => rw [q3] at q'; cases q'
                | some xs =>
                  obtain ⟨l, ws, g1, g2, _⟩ := ownL_spec R1 q3
                  exact ⟨l, g2⟩
              · exact ih q2 hm
      obtain ⟨l, ow⟩ := own r1 e hi
      have h3 := ow.2
      rw [hs] at h3
      cases h3
      exact (ow.ent R1).2.1.1 rfl
    · obtain ⟨o, q⟩ := R1.there a h.1
      rw [q]
      exact fun z => by cases z
    · obtain ⟨R2, P2⟩ := R1.after hk hp
      refine k v ⟨W1.M, H', W1.pa⟩ d { s1 with bud := b' } R2 (p1.trans P2) ?_ q.2
      cases hn : noSlots ds with
      | true =>
        have P3 : Pr ⟨fun a => W1.M a ∧ ¬ Lent σ ds a, H', c.pa⟩ ⟨W1.M, H', W1.pa⟩ := ⟨fun a o h _ => ⟨h, fun n z => n ⟨z, noSlots_lent hn⟩⟩, R1.wpa⟩
        exact (rv.mono P3).t
      | false =>
        have f : d.flat = true := by
          have := q.1
          rw [hn, Bool.false_or] at this
          exact this
        have r2 := Rep.flat (M := W1.M) rv f
        have e3 : W1.pa = c.pa := R1.wpa
        rw [e3]
        exact r2.t
end
end DL

namespace DL
open PySem L2
/-! ### where no text of an object is on its way (so repr may be asked) -/
structure FnOkG (P : Program) (w : World) (K : PySem.W.Frag) (mg : Str → Option Value) (base : Heap) (k : Nat) (f : Addr) (fd : FuncData) (ps : List Str) (sp : Sp) : Prop where
  len : ∀ vs H Q E, sp vs H Q E → vs.length = ps.length
  run : ∀ (A : Around) (outer : List Env) (s : Shared) (H : Hp) (args : Args) (us : List Value) (vs : List V) (Q : VK) (E : XK), Room k A → A.guards = some [] → Env0 P w K mg base A outer s H → BindsTo s fd args (ps.zip us) → Vals vs us → sp vs H Q E →
    codeAny (model P w) A (.call (.ref f) args) (CR CX0 outer P w H s Q E) s
theorem FnOk.g {P : Program} {w : World} {K : PySem.W.Frag} {mg : Str → Option Value} {base : Heap} {k : Nat} {f : Addr} {fd : FuncData} {ps : List Str} {sp : Sp} (F : FnOk P w K mg base CX0 k f fd ps sp) : FnOkG P w K mg base k f fd ps sp :=
  ⟨F.len, fun A outer s H args us vs Q E hr _ => F.run A outer s H args us vs Q E hr⟩
section
variable {P : Program} {w : World} {K : PySem.W.Frag} {mg : Str → Option Value} {base : Heap}
/-- a def of the text by its body, the guards known -/
theorem fnG {k : Nat} {f : Addr} {x q : Str} {ar : Arguments} {bd : List Stmt} {sc : Scope} {d1 d2 d3 d4 d5 d6 o1 : Value} {o2 o3 : Option Addr} {sl : Array (Option Value)} {N ps : List Str} {sp : Sp}
    (lk : K.lookup f = some ⟨o1, o3, .func (PySem.W.fnOf x q ar bd sc d1 d2 d3 d4 o2 d5 d6), sl⟩) (hc : PySem.W.codeIn K d5 q = true) (S : FnScope N ps sc) (len : ∀ vs H Q E, sp vs H Q E → vs.length = ps.length)
    (hb : ∀ (A : Around) (outer : List Env) (s : Shared) (H : Hp) (vs : List V) (Q : VK) (E : XK), Room k (A.deeper (PyProof.Rows.envOfC q sc s.heap.objs.size f d5)) → A.guards = some [] → sp vs H Q E →
      ∃ t, PSs (cxOf CX0 P w K mg base N q sc f d5 A outer s H E) bd t ∧ t { nx := fun _ H' => Q .non H', rt := Q } (L2.start N vs) H) :
    FnOkG P w K mg base (k + 1) f (PySem.W.fnOf x q ar bd sc d1 d2 d3 d4 o2 d5 d6) ps sp where
  len := len
  run := by
    intro A outer s H args us vs Q E hr hg e0 hbind r hs
    have KX : K.In s.heap := e0.mod.kin.keeps fun b o e => And.left (e0.bs b o e)
    have par : ∀ y, y ∈ ps.zip us → sc.names.lookup y.1 = some .local ∨
        (sc.names.lookup y.1 = some .cell ∧ ((cellsFrom (s.heap.objs.size + 1) sc.names []).lookup y.1).isSome = true) := by
      rintro ⟨n, v⟩ hy
      exact (S.par n (List.of_mem_zip hy).1).imp id fun z => ⟨z, PySem.W.cellsFrom_some _ _ _ (.inl z)⟩
    apply codeAny_call_function hr.depth (KX _ _ lk) rfl S.co S.gen rfl (PySem.W.codeRec_of KX hc)
    apply hbind
    apply wpAny_newFunctionEnv_cells S.kind par
    intro env he s1 x1
    subst he
    constructor
    · exact (e0.mod.nolimit.keeps fun b o e => And.left (e0.bs b o e)).keeps x1.toInCall.keep
    apply codeAny_func
    obtain ⟨t, ht, hq⟩ := hb A outer s H vs Q E (hr.deeper _) hg hs
    have I := inv_start (CX := CX0) (P := P) (w := w) (E := E) S hr.hd e0 (len _ _ _ _ hs) r x1
    apply wpAny_mono (ht.run [] s1 (L2.start N vs) H _ I hq)
    · intro fl s2 h2
      match fl, h2 with
      | .ret u, ⟨v, _, H2, J, rv, q2⟩ => exact ⟨v, H2, J.os, J.bare, J.base, J.hok, rv, q2⟩
      | .next, ⟨_, H2, J, q2⟩ => exact ⟨V.non, H2, J.os, J.bare, J.base, J.hok, rfl, q2⟩
      | .brk, ⟨_, _, _, q2⟩ => exact q2.elim
      | .cont, ⟨_, _, _, q2⟩ => exact q2.elim
    · exact fun _ _ h => h

/-- the law's call, from a promise that is kept where the guards are known -/
theorem lawG {mb : Str → Option Value} {k : Nat} {fa a : Addr} {fd : FuncData} {x : Str} {sp : Sp} {s₁ : Shared} {vs : List Value} {ns : List Int} (KX : K.In s₁.heap) (hm : s₁.heap.Ns mainGlobals mg) (hb : s₁.heap.Ns builtinsNs mb)
    (hbb : ∀ x : Str, x ≠ "__name__" → mb x = bootBuiltins x) (lim : s₁.heap.NoLimit) (hg : s₁.gens = #[]) (ha : s₁.heap.get? a = some { cls := .type "list", data := .seq vs.toArray }) (hi : PyProof.Rows.IntsAre vs ns) (hl : ns.length ≤ sizeLine) (hr : Room k callerA)
    (F : ∀ base : Heap, K.In base → base.Ns mainGlobals mg → FnOkG P w K mg base k fa fd [x] sp) (bind : ∀ (s : Shared) (u : Value), BindsTo s fd ⟨[u], []⟩ [(x, u)])
    (hsp : ∀ H : Hp, Only H → SqL K H a (ns.map V.int) → sp [.ref a] H (fun v _ => v = .bl true) fun _ _ _ => False) :
    codeAny (model P w) callerA (.call (.ref fa) ⟨[.ref a], []⟩) (fun r s' => r = .ok (.ret (.bool true)) ∧ OldK s₁.heap s'.heap ∧ s'.os = s₁.os ∧ PyProof.Rows.AllBare s'.gens) s₁ := by
  have rv := vals_ints hi
  -- the script is tracked if the written part does not hold it
  obtain ⟨H, hO, hS, hok, hA, hK⟩ : ∃ H : Hp, Only H ∧ SqL K H a (ns.map V.int) ∧ HOk P w H s₁.heap ∧ (∀ b, H b ≠ none → b = a) ∧ (H a ≠ none → K.lookup a = none) := by
    by_cases hk : ∃ o, K.lookup a = some o
    · obtain ⟨o, hk⟩ := hk
      have e := (KX a o hk).symm.trans ha
      cases e
      refine ⟨fun _ => none, fun _ => .inl rfl, .inr ⟨_, vs.toArray, _, hk, rfl, rfl, rfl, ?_, by simpa using rv⟩, fun b u z => ?_, fun b z => (z rfl).elim, fun z => (z rfl).elim⟩
      · rw [List.size_toArray, hi.length]
        exact hl
      · exact (by simpa using z : False).elim
    · have hn : K.lookup a = none := by
        cases q : K.lookup a with
        | none => rfl
        | some o => exact (hk ⟨o, q⟩).elim
      let G : Hp := fun b => if b = a then some (.frz { cls := .type "list", data := .seq vs.toArray } (.lst (ns.map V.int))) else none
      have Ga : G a = some (.frz { cls := .type "list", data := .seq vs.toArray } (.lst (ns.map V.int))) := if_pos rfl
      have Gn : ∀ b, b ≠ a → G b = none := fun b h => if_neg h
      refine ⟨G, fun b => ?_, .inl (.inr ⟨_, Ga⟩), fun b u z => ?_, fun b z => ?_, fun _ => hn⟩
      · exact (Classical.em (b = a)).elim (fun e => .inr ⟨_, _, e ▸ Ga⟩) fun e => .inl (Gn b e)
      · have e : b = a := Classical.byContradiction fun e => by rw [Gn b e] at z; cases z
        subst e
        rw [Ga] at z
        cases z
        exact ⟨ha, by simpa using hl, vs, _, rv, ha⟩
      · exact Classical.byContradiction fun e => z (Gn b e)
  have toH : ∀ {b : Addr} {o : Obj}, s₁.heap.get? b = some o → H b = none → (hidT s₁.heap H).get? b = some o := hidT_get
  have free_dict : ∀ {b : Addr} {o : Obj} {es : Array DictEntry} {ep : Nat}, s₁.heap.get? b = some o → o.data = .dict es ep → H b = none := by
    intro b o es ep e d
    refine Classical.byContradiction fun n => ?_
    rw [hA b n, ha] at e
    cases e
    cases d
  have nsH : ∀ {b : Addr} {m : Str → Option Value}, s₁.heap.Ns b m → (hidT s₁.heap H).Ns b m := by
    rintro b m ⟨o, es, ep, e, d, z⟩
    exact ⟨o, es, ep, toH e (free_dict e d), d, z⟩
  have KH : K.In (hidT s₁.heap H) := by
    intro b o e
    refine toH (KX b o e) (Classical.byContradiction fun n => ?_)
    have eb := hA b n
    rw [eb, hK (eb ▸ n)] at e
    cases e
  have limH : (hidT s₁.heap H).NoLimit := by
    obtain ⟨mc, z1, z2⟩ := lim
    exact ⟨mc, nsH z1, z2⟩
  have e0 : Env0 P w K mg (hidT s₁.heap H) callerA [] s₁ H := ⟨rfl, ⟨KH, nsH hm, ⟨mb, nsH hb, hbb⟩, limH⟩, fun b o e => of_hidT e, Nat.le_of_eq (hidT_size _ _), trivial, fun b z => (List.not_mem_nil z).elim, hok, .of_eq hg⟩
  apply codeAny_mono ((F _ KH (nsH hm)).run callerA [] s₁ H ⟨[.ref a], []⟩ [.ref a] [.ref a] _ _ hr rfl e0 (bind s₁ _) (.cons rfl .nil) (hsp H hO hS))
  intro r s' h
  match r, h with
  | .error _, h => exact h.elim
  | .ok (.ret u), ⟨v, H', os, bare, un, hok', r', q⟩ =>
    have q' : v = .bl true := q
    subst q'
    cases (show u = Value.bool true from r')
    refine ⟨rfl, OldK.of_keep fun b o e => ?_, os, bare⟩
    rcases hO b with z | ⟨ob, xs, z⟩
    · exact un.keep b o e z (fun m => List.not_mem_nil m) fun m => List.not_mem_nil m
    · have z1 := (hok b _ z).1
      rw [e] at z1
      cases z1
      exact (hok' b _ (un.frzs b _ _ z)).1
end
/-- the goal that the head leaves, from the law's promise -/
theorem walkG {l : PySem.W.OpenLaw} {n k : Nat} {q : Program} {loose : List Str} {XP : (Str → Option Value) → Heap → Prop} {YP : World → Heap → Prop} {d : DefRec} {K : Params → PySem.W.Frag} {sp : PySem.W.Frag → Sp} {x : Str}
    (hn : l.most = some n) (hn2 : n ≤ sizeLine) (hdf : d.params.defaults = []) (hr : Room k callerA) (hY : ∀ (w : World) (h : Heap), YP w h → (K w.params).In h)
    (F : ∀ (w : World) (mg : Str → Option Value) (fa : Addr) (h : Heap), (K w.params).In h → h.Ns mainGlobals mg → mg d.name = some (.ref fa) →
      ∃ fd : FuncData, (∀ (s : Shared) (u : Value), BindsTo s fd ⟨[u], []⟩ [(x, u)]) ∧ ∀ base : Heap, (K w.params).In base → base.Ns mainGlobals mg → FnOkG l.prog w (K w.params) mg base k fa fd [x] (sp (K w.params)))
    (hsp : ∀ (K : PySem.W.Frag) (H : Hp) (a : Addr) (ns : List Int), ns.length ≤ n → Only H → SqL K H a (ns.map V.int) → sp K [.ref a] H (fun v _ => v = .bl true) fun _ _ _ => False) :
    PySem.W.WalkO q loose XP YP l.row.toRowW d [] (fun f vs => PySem.call f vs) := by
  apply Att.attach_call hn hdf
  intro w s₀ s₁ mg mb fa o pm cd doc a vs ns G Y ho hd hcd hmg hobj hints hlen hg
  obtain ⟨fd, hb, hF⟩ := F w mg fa _ (hY w _ Y) G.T.g hmg
  exact lawG (hY w _ Y) G.T.g G.T.b G.T.builtins G.T.nolimit hg hobj hints (Nat.le_trans hlen hn2) hr hF hb fun H hO hS => hsp _ H a ns hlen hO hS
end DL

namespace DL
open PySem L2
section
variable {P : Program} {w : World} {K : PySem.W.Frag} {mg : Str → Option Value} {base : Heap}
theorem FunCG {x qual : Str} {st : Stmt} {f : Addr} {fd : FuncData} {N ps : List Str} {k : Nat} {C : Ctr} (F : Fun K x qual st f fd) (S : FnScope N ps (defScope st)) (len : ∀ ds b Q, C ds b Q → ds.length = ps.length)
    (hbody : ∀ (cdv : Value) (A : Around) (outer : List Env) (s : Shared) (H : Hp) (E : XK), Room k (A.deeper (PyProof.Rows.envOfC qual (defScope st) s.heap.objs.size f cdv)) → A.guards = some [] →
      ∃ ts t, PDSs (cxOf CX0 P w K mg base N qual (defScope st) f cdv A outer s H E).nox (defBody st) ts t ∧ ∀ ds b Qd, C ds b Qd → t (endsC Qd) (startD N ds b)) : FnOkG P w K mg base (k + 1) f fd ps (spC K C) := by
  obtain ⟨oc, od, kV, doc, pm, an, cdv, ct, osl, rfl, lk, hcd⟩ := F.ex
  refine fnG lk hcd S (okC_len len) fun A outer s H vs Q E hr hg h => ?_
  obtain ⟨M, pa, pl, ds, b, Qd, r, mp, npl, m0, pw, hc, hk⟩ := h
  obtain ⟨ts, t, hp, ht⟩ := hbody cdv A outer s H E hr hg
  refine ⟨ts, hp.ps.nox, ?_⟩
  have hpl : ds.length ≤ N.length := by
    rw [len _ _ _ hc]
    have e := congrArg List.length S.pre
    rw [List.length_take] at e
    omega
  refine hp.snd ⟨M, H, pa, pl, fun a => a = pa⟩ ⟨M, H, pa⟩ (L2.start N vs) (startD N ds b) _ (endsC Qd) (rel_start r mp npl m0 pw hpl) ⟨fun W' σ' s' R _ q => ?_, fun v W' σ' d s' R _ rv q => ?_, fun _ _ _ _ _ z => z.elim, fun _ _ _ _ _ z => z.elim⟩ (ht ds b Qd hc)
  · exact bodyC (N := N) (c0 := ⟨M, H, pa, pl, fun a => a = pa⟩) (vs := vs) (v := .non) (d := .non) hk R Rep.non q
  · exact bodyC (N := N) (c0 := ⟨M, H, pa, pl, fun a => a = pa⟩) (vs := vs) hk R rv q
/-- a def of the module that keeps its promise -/
structure Fn (P : Program) (w : World) (K : PySem.W.Frag) (mg : Str → Option Value) (base : Heap) (k : Nat) (x : Str) (st : Stmt) (ps : List Str) (C : Ctr) : Prop where
  ex : ∃ f fd, Fun K x x st f fd ∧ FnOkG P w K mg base k f fd ps (spC K C) ∧ mg x = some (.ref f) ∧ Binds K fd ps []
end
section
variable {X : Cx} {e : Expr} {es : List Expr} {taa tk : TA} {ra rk : DA} {pos p : Pos} {C : Ctr} {k : Nat} {x : Str} {ps ks : List Str} {st : Stmt} {kws : List Keyword} {f : Addr} {fd : FuncData} {sp : Sp}
/-- the callee runs, its arguments bound -/
theorem runG {pins : List (Addr × Obj)} {σ : St} {H : Hp} {s : Shared} {Q : VK} {E : XK} {args : Args} {us : List Value} {vs : List V} (F : FnOkG X.prog X.w X.K X.mg X.base k f fd ps sp) (hr : Room k X.A) (hg : X.A.guards = some []) (hb : BindsTo s fd args (ps.zip us)) (I : Inv X pins σ H s) (r : Vals vs us)
    (h : sp vs H Q E) : wpAny (model X.prog X.w) X.A (call (.ref f) args.pos args.kw) (EP X pins σ Q) X.xe s := by
  apply wpAny_call
  apply codeAny_mono (F.run X.A X.stack s H args us vs Q E hr hg I.env0 hb r h)
  intro res s' q
  match res, q with
  | .error _, q => exact q.elim
  | .ok (.ret _), q => exact I.after q
theorem d_call (G : Fn X.prog X.w X.K X.mg X.base k x st ps C) (hr : Room k X.A) (hgd : X.A.guards = some []) (ha : PDA X (e :: es) taa ra) (hg : Gl X x := by rfl) (hdb : (x == ("__debug__" : Str)) = false := by decide)
    (he : starEach (e :: es) X.env = (false, eval e X.env) :: starEach es X.env := by rfl) (hpl : (backTo pos (starEach es X.env)).any (·.1) = false := by rfl) : PD X (.Call (.Name x p) (e :: es) [] pos) (tCall (spC X.K C) [] E0 taa) (dCall C ra) := by
  obtain ⟨f, fd, Fu, F, hm, hb⟩ := G.ex
  refine ⟨⟨fun pins s σ H Q I h => ?_⟩, snd_call ha.snd⟩
  apply wpAny_Call_Name_kw (ld_glob I hg hm ?_ hdb)
  apply PySem.W.callWith_K (h₀ := X.base) I.ok.mod.kin Fu.kp (thn (ha.pa.run pos pins s σ H _ I h) ?_) he hpl
  rintro us s1 ⟨vs, H1, I1, r, q⟩
  rw [List.append_nil] at q
  refine ⟨I1.kIn, runG (args := ⟨us, []⟩) F hr hgd ?_ I1 r q⟩
  have hl : (us ++ []).length = ps.length := by rw [List.append_nil, ← r.length]; exact F.len _ _ _ _ q
  have z := hb s1 us I1.kIn hl
  rw [List.append_nil] at z
  exact z
theorem d_call0 (G : Fn X.prog X.w X.K X.mg X.base k x st ps C) (hr : Room k X.A) (hgd : X.A.guards = some []) (hg : Gl X x := by rfl) (hdb : (x == ("__debug__" : Str)) = false := by decide) : PD X (.Call (.Name x p) [] [] pos) (tCall (spC X.K C) [] E0 tNil) (dCall C dNil) := by
  obtain ⟨f, fd, Fu, F, hm, hb⟩ := G.ex
  refine ⟨⟨fun pins s σ H Q I h => ?_⟩, snd_call (fun c W σ s Qv Qd R h k => k [] W [] s R (Pr.refl _) .nil h)⟩
  apply wpAny_Call_Name_kw (ld_glob I hg hm ?_ hdb)
  apply PySem.W.callWith_K0 I.kIn Fu.kp
  have h : spC X.K C [] H Q E0 := h
  have hl : ([] : List Value).length = ps.length := F.len _ _ _ E0 h
  exact runG (args := ⟨[], []⟩) F hr hgd (hb s [] I.kIn hl) I .nil h
/-! ### keywords -/
/-- the keywords' values, as many as there are keywords -/
structure PKL (X : Cx) (kws : List Keyword) (t : TA) : Prop where
  run : ∀ (pos : Pos) (pins : List (Addr × Obj)) (s : Shared) (σ : St) (H : Hp) (Q : List V → Hp → Prop), Inv X pins σ H s → t σ H Q →
    wpAny (model X.prog X.w) X.A (evalAll ((backToKw pos (keywordEach kws X.env)).map (·.2))) (fun us s' => ∃ vs H', Inv X pins σ H' s' ∧ Vals vs us ∧ vs.length = kws.length ∧ Q vs H') X.xe s
theorem pkl_nil : PKL X [] tNil where
  run := fun _ _ _ _ H _ I h => wpAny_evalAll_nil ⟨[], H, I, .nil, rfl, h⟩
theorem pkl_cons {nm : Option Str} {kpos : Pos} {te : TE} {t : TA} (ha : PE X e te) (hr : PKL X kws t) : PKL X (⟨nm, e, kpos⟩ :: kws) (tCons te t) where
  run := by
    intro pos pins s σ H Q I h
    show wpAny _ _ (evalAll ((eval e X.env >>= fun v => standAt pos >>= fun _ => pure v) :: List.map (·.2) (backToKw pos (keywordEach kws X.env)))) _ _ s
    apply wpAny_evalAll_cons
    apply wpAny_bind
    apply thn (ha.run pins s σ H _ I h)
    rintro u s1 ⟨x, H1, I1, r1, q1⟩
    apply wpAny_bind
    apply wpAny_standAt
    apply wpAny_pure
    apply thn (hr.run pos pins s1 σ H1 _ I1 q1)
    rintro us s2 ⟨xs, H2, I2, r2, l2, q2⟩
    exact ⟨x :: xs, H2, I2, .cons r1 r2, congrArg Nat.succ l2, q2⟩
structure PDK (X : Cx) (kws : List Keyword) (ta : TA) (t : DA) : Prop where
  pk : PKL X kws ta
  snd : SndA X.K ta t
theorem dk_nil : PDK X [] tNil dNil := ⟨pkl_nil, fun c W σ s Qv Qd R h k => k [] W [] s R (Pr.refl _) .nil h⟩
theorem dk_cons {nm : Option Str} {kpos : Pos} {te : TE} {t : DE} (h1 : PD X e te t) (h2 : PDK X kws taa ra) : PDK X (⟨nm, e, kpos⟩ :: kws) (tCons te taa) (dCons t ra) := ⟨pkl_cons h1.pe h2.pk, snd_cons h1.snd h2.snd⟩
/-- the values in the parameters' order -/
def ord {α : Type} (is : List Nat) (xs : List α) : List α := is.filterMap fun i => xs[i]?
theorem ord_vals {is : List Nat} {vs : List V} {us : List Value} (r : Vals vs us) : Vals (ord is vs) (ord is us) := by
  induction is with
  | nil => exact .nil
  | cons i is ih =>
    unfold ord at ih ⊢
    rw [List.filterMap_cons, List.filterMap_cons]
    cases h : vs[i]? with
    | none =>
      rw [r.none_of h]
      exact ih
    | some v =>
      obtain ⟨u, h2, rv⟩ := r.get h
      rw [h2]
      exact .cons rv ih
def tCallO (sp : Sp) (is : List Nat) (E : XK) (t tk : TA) : TE := fun σ H Q => t σ H fun vs H1 => tk σ H1 fun zs H2 => sp (ord is (vs ++ zs)) H2 Q E
theorem unslots_ord {s : DS} {is : List Nat} {ds : List D} : unslots s (ord is ds) = unslots s (ord is ds) := rfl
/-- f(e, .., k = v, ..) over data: as f of the values in order -/
def dCallO (C : Ctr) (is : List Nat) (ra rk : DA) : DE := dCall C fun s Q => ra s fun ds s1 => rk s1 fun es s2 => Q (ord is (ds ++ es)) s2
theorem RepsT.append {K : PySem.W.Frag} {W : Wd} {σ : St} : ∀ {vs ws : List V} {ds es : List D}, RepsT K W σ vs ds → RepsT K W σ ws es → RepsT K W σ (vs ++ ws) (ds ++ es)
  | _, _, _, _, .nil, s => s
  | _, _, _, _, .cons a r, s => .cons a (r.append s)
theorem RepsT.get {K : PySem.W.Frag} {W : Wd} {σ : St} : ∀ {vs : List V} {ds : List D} {i : Nat}, RepsT K W σ vs ds → (vs[i]? = none ∧ ds[i]? = none) ∨ ∃ v d, vs[i]? = some v ∧ ds[i]? = some d ∧ RepT K W σ v d
  | _, _, _, .nil => .inl ⟨by simp, by simp⟩
  | _, _, 0, .cons (v := v) (d := d) a _ => .inr ⟨v, d, rfl, rfl, a⟩
  | _, _, i + 1, .cons _ r => r.get (i := i)
theorem ord_repsT {K : PySem.W.Frag} {W : Wd} {σ : St} {is : List Nat} {vs : List V} {ds : List D} (r : RepsT K W σ vs ds) : RepsT K W σ (ord is vs) (ord is ds) := by
  induction is with
  | nil => exact .nil
  | cons i is ih =>
    unfold ord at ih ⊢
    rw [List.filterMap_cons, List.filterMap_cons]
    rcases r.get (i := i) with ⟨h1, h2⟩ | ⟨v, d, h1, h2, rv⟩
    · rw [h1, h2]
      exact ih
    · rw [h1, h2]
      exact .cons rv ih
theorem snd_ord {K : PySem.W.Frag} {is : List Nat} (ha : SndA K taa ra) (hk : SndA K tk rk) : SndA K (fun σ H Q => taa σ H fun vs H1 => tk σ H1 fun zs H2 => Q (ord is (vs ++ zs)) H2) (fun s Q => ra s fun ds s1 => rk s1 fun es s2 => Q (ord is (ds ++ es)) s2) := by
  intro c W σ s Qv Qd R h k
  refine ha c W σ s _ _ R h fun vs W1 ds s1 R1 p1 r1 q1 => ?_
  refine hk c W1 σ s1 _ _ R1 q1 fun zs W2 es s2 R2 p2 r2 q2 => ?_
  exact k _ W2 _ s2 R2 (p1.trans p2) (ord_repsT ((r1.mono p2).append r2)) q2
theorem snd_callO {K : PySem.W.Frag} {is : List Nat} {E : XK} (ha : SndA K taa ra) (hk : SndA K tk rk) : SndE K (tCallO (spC K C) is E taa tk) (dCallO C is ra rk) := by
  have h := snd_call (C := C) (E := E) (snd_ord (is := is) ha hk)
  intro c W σ s Qv Qd R hq k
  have q := h c W σ s Qv Qd R hq k
  have e : ∀ (vs : List V), vs ++ [] = vs := fun vs => List.append_nil vs
  simpa only [tCall, tCallO, List.append_nil] using q
/-- f(e, .., k = v, ..), one positional argument at least -/
theorem d_callK {is : List Nat} (G : Fn X.prog X.w X.K X.mg X.base k x st ps C) (hr : Room k X.A) (hgd : X.A.guards = some []) (ha : PDA X (e :: es) taa ra) (hkw : PDK X kws tk rk)
    (hbd : ∀ (kV doc pm : Value) (an : Option Addr) (cdv ct : Value) (us ws : List Value), us.length = (e :: es).length → ws.length = kws.length → bindArgs (PySem.W.fnOf x x (defArgs st) (defBody st) (defScope st) .none kV doc pm an cdv ct) ⟨us, ks.zip ws⟩ = pure (ps.zip (ord is (us ++ ws))))
    (hg : Gl X x := by rfl) (hall : (backToKw pos (keywordEach kws X.env)).all (·.1.isSome) = true := by rfl) (hks : (backToKw pos (keywordEach kws X.env)).filterMap (·.1) = ks := by rfl)
    (hdb : (x == ("__debug__" : Str)) = false := by decide) (he : starEach (e :: es) X.env = (false, eval e X.env) :: starEach es X.env := by rfl)
    (hpl : ((backTo pos (starEach (e :: es) X.env)).any (·.1) || (backToKw pos (keywordEach kws X.env)).any (·.1.isNone)) = false := by rfl) :
    PD X (.Call (.Name x p) (e :: es) kws pos) (tCallO (spC X.K C) is E0 taa tk) (dCallO C is ra rk) := by
  obtain ⟨f, fd, Fu, F, hm, hb⟩ := G.ex
  refine ⟨⟨fun pins s σ H Q I h => ?_⟩, snd_callO ha.snd hkw.snd⟩
  apply wpAny_Call_Name_kw (ld_glob I hg hm ?_ hdb)
  apply PySem.W.callWith_KW (h₀ := X.base) I.ok.mod.kin Fu.kp hall (thn (ha.pal.run pos pins s σ H _ I h) ?_) hpl he
  rintro us s1 ⟨vs, H1, I1, r, n1, q⟩
  apply thn (hkw.pk.run pos pins s1 σ H1 _ I1 q)
  rintro ws s2 ⟨zs, H2, I2, rz, n2, q2⟩
  refine ⟨I2.kIn, ?_⟩
  rw [hks]
  refine runG (args := ⟨us, ks.zip ws⟩) (us := ord is (us ++ ws)) F hr hgd ?_ I2 (ord_vals (r.append rz)) q2
  obtain ⟨_, _, kV, doc, pm, an, cdv, ct, _, rfl, _, _⟩ := Fu.ex
  exact .of_eq (hbd kV doc pm an cdv ct us ws (r.length.symm.trans n1) (rz.length.symm.trans n2))
/-- f(k = v, ..) -/
theorem d_callK0 {is : List Nat} (G : Fn X.prog X.w X.K X.mg X.base k x st ps C) (hr : Room k X.A) (hgd : X.A.guards = some []) (hkw : PDK X kws tk rk)
    (hbd : ∀ (kV doc pm : Value) (an : Option Addr) (cdv ct : Value) (ws : List Value), ws.length = kws.length → bindArgs (PySem.W.fnOf x x (defArgs st) (defBody st) (defScope st) .none kV doc pm an cdv ct) ⟨[], ks.zip ws⟩ = pure (ps.zip (ord is ws)))
    (hg : Gl X x := by rfl) (hall : (backToKw pos (keywordEach kws X.env)).all (·.1.isSome) = true := by rfl) (hks : (backToKw pos (keywordEach kws X.env)).filterMap (·.1) = ks := by rfl)
    (hdb : (x == ("__debug__" : Str)) = false := by decide) (hpl : ((backTo pos (starEach [] X.env)).any (·.1) || (backToKw pos (keywordEach kws X.env)).any (·.1.isNone)) = false := by rfl) :
    PD X (.Call (.Name x p) [] kws pos) (tCallO (spC X.K C) is E0 tNil tk) (dCallO C is dNil rk) := by
  obtain ⟨f, fd, Fu, F, hm, hb⟩ := G.ex
  refine ⟨⟨fun pins s σ H Q I h => ?_⟩, snd_callO (fun c W σ s Qv Qd R h k => k [] W [] s R (Pr.refl _) .nil h) hkw.snd⟩
  apply wpAny_Call_Name_kw (ld_glob I hg hm ?_ hdb)
  have h' : tk σ H fun zs H2 => spC X.K C (ord is zs) H2 Q E0 := h
  apply PySem.W.callWith_KW0 (h₀ := X.base) I.ok.mod.kin Fu.kp hall (thn (hkw.pk.run pos pins s σ H _ I h') ?_) hpl
  rintro ws s2 ⟨zs, H2, I2, rz, n2, q2⟩
  refine ⟨I2.kIn, ?_⟩
  rw [hks]
  refine runG (args := ⟨[], ks.zip ws⟩) (us := ord is ws) F hr hgd ?_ I2 (ord_vals rz) q2
  obtain ⟨_, _, kV, doc, pm, an, cdv, ct, _, rfl, _, _⟩ := Fu.ex
  exact .of_eq (hbd kV doc pm an cdv ct ws (rz.length.symm.trans n2))
end
end DL

namespace DL
open PySem L2
section
variable {X : Cx} {K : PySem.W.Frag} {e : Expr} {es : List Expr} {te : TE} {t : DE} {pos p : Pos}
theorem repsT_one {W : Wd} {σ : St} {vs : List V} {d : D} (r : RepsT K W σ vs [d]) : ∃ v, vs = [v] ∧ RepT K W σ v d := by
  cases r with
  | cons a r =>
    cases r
    exact ⟨_, rfl, a⟩
theorem repsT_two {W : Wd} {σ : St} {vs : List V} {d e : D} (r : RepsT K W σ vs [d, e]) : ∃ v w, vs = [v, w] ∧ RepT K W σ v d ∧ RepT K W σ w e := by
  cases r with
  | cons a r =>
    cases r with
    | cons b r =>
      cases r
      exact ⟨_, _, rfl, a, b⟩
/-! ### abs, int, bool, len, max and min of two -/
def fAbs : DCl := fun _ ds Q => match ds with
  | [.int i] => Q (.int (if i < 0 then -i else i))
  | _ => False
theorem b_abs : CallR X (.builtin "abs") (fun xs H Q => ∃ i, xs = [.int i] ∧ Q (.int (if i < 0 then -i else i)) H) ∧ SndC X.K (fun xs H Q => ∃ i, xs = [.int i] ∧ Q (.int (if i < 0 then -i else i)) H) fAbs := by
  refine ⟨call_abs, fun c W σ s xs ds Qv Qd R r h k => ?_⟩
  unfold fAbs at h
  split at h
  · cases repsT1 r
    exact ⟨_, rfl, k _ W _ R (Pr.refl _) (Rep.int _).t h⟩
  · exact h.elim
def fInt : DCl := fun _ ds Q => match ds with
  | [.int i] => Q (.int i)
  | [.bl b] => Q (.int (if b then 1 else 0))
  | _ => False
theorem b_int : CallR X (.type "int") (fun xs H Q => (∃ i, xs = [.int i] ∧ Q (.int i) H) ∨ ∃ k, xs = [.bl k] ∧ Q (.int (if k then 1 else 0)) H) ∧ SndC X.K (fun xs H Q => (∃ i, xs = [.int i] ∧ Q (.int i) H) ∨ ∃ k, xs = [.bl k] ∧ Q (.int (if k then 1 else 0)) H) fInt := by
  refine ⟨call_int1, fun c W σ s xs ds Qv Qd R r h k => ?_⟩
  unfold fInt at h
  split at h
  · cases repsT1 r
    exact .inl ⟨_, rfl, k _ W _ R (Pr.refl _) (Rep.int _).t h⟩
  · obtain ⟨v, rfl, rv⟩ := repsT_one r
    cases rv
    exact .inr ⟨_, rfl, k _ W _ R (Pr.refl _) (Rep.int _).t h⟩
  · exact h.elim
def fLen : DCl := fun s ds Q => match ds with
  | [.str y] => y.length ≤ sizeLine ∧ Q (.int y.length)
  | [d] => match asSeq s d with
    | some xs => Q (.int xs.length)
    | none => False
  | _ => False
theorem b_len : CallR X (.builtin "len") (fun xs H Q => ∃ x n, xs = [x] ∧ LenV X.K x H n ∧ Q (.int n) H) ∧ SndC X.K (fun xs H Q => ∃ x n, xs = [x] ∧ LenV X.K x H n ∧ Q (.int n) H) fLen := by
  refine ⟨call_len, fun c W σ s xs ds Qv Qd R r h k => ?_⟩
  unfold fLen at h
  split at h
  · obtain ⟨v, rfl, rv⟩ := repsT_one r
    cases rv
    exact ⟨_, _, rfl, ⟨h.1, rfl⟩, k _ W _ R (Pr.refl _) (Rep.int _).t h.2⟩
  · rename_i d _
    obtain ⟨v, rfl, rv⟩ := repsT_one r
    cases q : asSeq s d with
    | none => rw [q] at h; exact h.elim
    | some ys =>
      rw [q] at h
      obtain ⟨l, vs, rfl, hs, rr⟩ := asSeq_spec R rv q
      refine ⟨_, vs.length, rfl, ?_, k _ W _ R (Pr.refl _) (Rep.int _).t (by rw [rr.length]; exact h)⟩
      rcases hs with hs | hs
      · exact .inl ⟨vs, hs, rfl⟩
      · exact .inr ⟨vs, hs.sq, rfl⟩
  · exact h.elim
def fMax2 : DCl := fun _ ds Q => match ds with
  | [.int i, .int j] => Q (.int (if j > i then j else i))
  | _ => False
theorem b_max2 (hc : X.calm = true) : CallR X (.builtin "max") (fun xs H Q => ∃ i j, xs = [.int i, .int j] ∧ Q (.int (if j > i then j else i)) H) ∧ SndC X.K (fun xs H Q => ∃ i j, xs = [.int i, .int j] ∧ Q (.int (if j > i then j else i)) H) fMax2 := by
  refine ⟨call_max2 hc, fun c W σ s xs ds Qv Qd R r h k => ?_⟩
  unfold fMax2 at h
  split at h
  · cases repsT2 r
    exact ⟨_, _, rfl, k _ W _ R (Pr.refl _) (Rep.int _).t h⟩
  · exact h.elim
def fMin2 : DCl := fun _ ds Q => match ds with
  | [.int i, .int j] => Q (.int (if j < i then j else i))
  | _ => False
theorem b_min2 (hc : X.calm = true) : CallR X (.builtin "min") (fun xs H Q => ∃ i j, xs = [.int i, .int j] ∧ Q (.int (if j < i then j else i)) H) ∧ SndC X.K (fun xs H Q => ∃ i j, xs = [.int i, .int j] ∧ Q (.int (if j < i then j else i)) H) fMin2 := by
  refine ⟨call_min2 hc, fun c W σ s xs ds Qv Qd R r h k => ?_⟩
  unfold fMin2 at h
  split at h
  · cases repsT2 r
    exact ⟨_, _, rfl, k _ W _ R (Pr.refl _) (Rep.int _).t h⟩
  · exact h.elim
/-! ### tuple(..), list(..) -/
def fTup : DCl := fun s ds Q => match ds with
  | [.tup xs] => Q (.tup xs)
  | [.kon xs] => Q (.kon xs)
  | [d] => match asL s d with
    | some xs => Q (.tup xs)
    | none => False
  | _ => False
theorem b_tuple : CallR X (.type "tuple") (fun xs H Q => ∃ p ys, xs = [.ref p] ∧ ((SqL X.K H p ys ∧ ∀ l, H l = none → Q (.ref l) (upd H l (.tup ys))) ∨ (SqT X.K H p ys ∧ Q (.ref p) H))) ∧
    SndC X.K (fun xs H Q => ∃ p ys, xs = [.ref p] ∧ ((SqL X.K H p ys ∧ ∀ l, H l = none → Q (.ref l) (upd H l (.tup ys))) ∨ (SqT X.K H p ys ∧ Q (.ref p) H))) fTup := by
  refine ⟨call_tuple_of, fun c W σ s xs ds Qv Qd R r h k => ?_⟩
  unfold fTup at h
  split at h
  · obtain ⟨v, rfl, rv⟩ := repsT_one r
    cases rv with
    | tup hs rr => exact ⟨_, _, rfl, .inr ⟨TupV.sq (.inl hs), k _ W (.tup _) R (Pr.refl _) (Rep.tup hs rr) h⟩⟩
  · obtain ⟨v, rfl, rv⟩ := repsT_one r
    cases rv with
    | kon hs rr => exact ⟨_, _, rfl, .inr ⟨TupV.sq (.inr hs), k _ W (.kon _) R (Pr.refl _) (Rep.kon hs rr) h⟩⟩
  · rename_i d _ _
    obtain ⟨v, rfl, rv⟩ := repsT_one r
    cases q : asL s d with
    | none => rw [q] at h; exact h.elim
    | some ys =>
      rw [q] at h
      obtain ⟨l, vs, rfl, hs, rr⟩ := asL_spec R rv q
      exact ⟨l, vs, rfl, .inl ⟨SqL.of hs, fun p hp => k (.ref p) ⟨W.M, upd W.H p (.tup vs), W.pa⟩ (.tup ys) (R.same (same_new hp)) (Pr.new hp) (Rep.tup upd_same (rr.mono (Pr.new hp))) h⟩⟩
  · exact h.elim
def rListOf (K : PySem.W.Frag) : List V → Hp → VK → Prop := fun xs H Q => ∃ p ys, xs = [.ref p] ∧ (SqL K H p ys ∨ SqT K H p ys) ∧ ∀ l, H l = none → Q (.ref l) (upd H l (.lst ys))
def seq1 (s : DS) : List D → Option (List D)
  | [d] => asSeq s d
  | _ => none
def dlListOf (r : DA) : DL_ := fun s Q => r s fun ds s1 => match seq1 s1 ds with
  | some xs => Q xs s1
  | none => False
/-- list(..), a new list -/
theorem dl_listOf {taa : TA} {ra : DA} (hm : X.mg "list" = none) (ha : PDA X (e :: es) taa ra) (hg : Gl X "list" := by rfl) (he : starEach (e :: es) X.env = (false, eval e X.env) :: starEach es X.env := by rfl) (hpl : (backTo pos (starEach es X.env)).any (·.1) = false := by rfl) :
    PL X (.Call (.Name "list" p) (e :: es) [] pos) (tCB (rListOf X.K) taa) (dlListOf ra) := by
  refine ⟨pe_callTy call_list_of hg hm (by decide +kernel) ha.pa (by decide) (by decide) he hpl, fun c W σ s Qv Qd R hq k => ?_⟩
  refine ha.snd c W σ s _ _ R hq fun vs W1 ds s1 R1 p1 r1 q1 => ?_
  have q2 : match seq1 s1 ds with
    | some xs => Qd xs s1
    | none => False := q1
  cases q : seq1 s1 ds with
  | none => rw [q] at q2; exact q2.elim
  | some ys =>
    rw [q] at q2
    match ds, q with
    | [d], q =>
      obtain ⟨v, rfl, rv⟩ := repsT_one r1
      obtain ⟨l, ws, rfl, hs, rr⟩ := asSeq_spec R1 rv q
      exact ⟨l, ws, rfl, hs.imp id TupV.sq, newL R1 p1 rr q2 k⟩
/-! ### sums and extremes of ints -/
def toInts : List D → Option (List Int)
  | [] => some []
  | .int i :: r => (toInts r).map fun is => i :: is
  | _ :: _ => none
theorem toInts_spec : ∀ {ds : List D} {is : List Int}, toInts ds = some is → ds = is.map D.int
  | [], _, h => by cases h; rfl
  | .int i :: r, is, h => by
    have h' : (toInts r).map (fun is => i :: is) = some is := h
    cases q : toInts r with
    | none => rw [q] at h'; cases h'
    | some js =>
      rw [q] at h'
      cases h'
      rw [toInts_spec q]
      rfl
  | .non :: _, _, h => by cases h
  | .bl _ :: _, _, h => by cases h
  | .str _ :: _, _, h => by cases h
  | .tup _ :: _, _, h => by cases h
  | .kon _ :: _, _, h => by cases h
  | .lst _ :: _, _, h => by cases h
  | .obj _ _ :: _, _, h => by cases h
  | .exc _ _ :: _, _, h => by cases h
  | .dT _ :: _, _, h => by cases h
  | .dK _ :: _, _, h => by cases h
  | .raw _ :: _, _, h => by cases h
  | .paw :: _, _, h => by cases h
  | .slot _ :: _, _, h => by cases h
theorem toInts_map {is : List Int} : toInts (is.map D.int) = some is := by
  induction is with
  | nil => rfl
  | cons i is ih => show (toInts (is.map D.int)).map _ = _; rw [ih]; rfl
def fL1 (g : List Int → (D → Prop) → Prop) : DCl := fun s ds Q => match ds with
  | [d] => match asL s d with
    | some xs => match toInts xs with
      | some is => g is Q
      | none => False
    | none => False
  | _ => False
theorem fL1_spec {c : C0} {W : Wd} {σ : St} {s : DS} {xs : List V} {ds : List D} {g : List Int → (D → Prop) → Prop} {Qd : D → Prop} (R : Rel K c W σ s) (r : RepsT K W σ xs ds) (h : fL1 g s ds Qd) : ∃ (a : Addr) (ns : List Int), xs = [V.ref a] ∧ SqL K W.H a (ns.map V.int) ∧ g ns Qd := by
  unfold fL1 at h
  split at h
  · rename_i d
    obtain ⟨v, rfl, rv⟩ := repsT_one r
    cases q : asL s d with
    | none => rw [q] at h; exact h.elim
    | some ys =>
      rw [q] at h
      simp only at h
      cases q2 : toInts ys with
      | none => rw [q2] at h; exact h.elim
      | some ns =>
        rw [q2] at h
        obtain ⟨l, vs, rfl, hs, rr⟩ := asL_spec R rv q
        rw [toInts_spec q2] at rr
        have e := reps_ints rr
        subst e
        exact ⟨l, ns, rfl, SqL.of hs, h⟩
  · exact h.elim
def fSum : DCl := fL1 fun ns Q => Q (.int ns.sum)
theorem b_sum : SndC K (rSum K) fSum := fun c W σ s xs ds Qv Qd R r h k => by
  obtain ⟨a, ns, e, hs, q⟩ := fL1_spec R r h
  exact ⟨a, ns, e, hs, k _ W _ R (Pr.refl _) (Rep.int _).t q⟩
def fMaxL : DCl := fL1 fun ns Q => 0 < ns.length ∧ ∀ m, m ∈ ns → (∀ y, y ∈ ns → y ≤ m) → Q (.int m)
theorem b_maxL : SndC K (rMax K) fMaxL := fun c W σ s xs ds Qv Qd R r h k => by
  obtain ⟨a, ns, e, hs, hl, q⟩ := fL1_spec R r h
  exact ⟨a, ns, e, hs, hl, fun m hm hy => k _ W _ R (Pr.refl _) (Rep.int _).t (q m hm hy)⟩
def fMinL : DCl := fL1 fun ns Q => 0 < ns.length ∧ ∀ m, m ∈ ns → (∀ y, y ∈ ns → m ≤ y) → Q (.int m)
theorem b_minL : SndC K (rMin K) fMinL := fun c W σ s xs ds Qv Qd R r h k => by
  obtain ⟨a, ns, e, hs, hl, q⟩ := fL1_spec R r h
  exact ⟨a, ns, e, hs, hl, fun m hm hy => k _ W _ R (Pr.refl _) (Rep.int _).t (q m hm hy)⟩

/-! ### isinstance -/
/-- the type of plain data -/
def tyD (s : DS) : D → Option String
  | .non => some "NoneType"
  | .bl _ => some "bool"
  | .int _ => some "int"
  | .str _ => some "str"
  | .tup _ => some "tuple"
  | .kon _ => some "tuple"
  | .lst _ => some "list"
  | .dT _ => some "dict"
  | .dK _ => some "dict"
  | .slot i => match s.sl[i]? with
    | some (.own _) => some "list"
    | some (.ownT _) => some "dict"
    | some (.ownK _) => some "dict"
    | _ => none
  | _ => none
theorem tyx_tup {H : Hp} {a : Addr} {xs : List V} (h : TupV K H a xs) : TyX K H (.ref a) (.type "tuple") := by
  rcases h with h | ⟨o, its, n, h, hc, _⟩
  · exact .base (.tup h)
  · exact .kTuple h hc
theorem tyD_spec {c : C0} {W : Wd} {σ : St} {s : DS} {v : V} {d : D} {n : String} (R : Rel K c W σ s) (r : RepT K W σ v d) (h : tyD s d = some n) : TyX K W.H v (.type n) := by
  cases d with
  | non => cases r; cases h; exact .base .non
  | bl _ => cases r; cases h; exact .base (.bl _)
  | int _ => cases r; cases h; exact .base (.int _)
  | str _ => cases r; cases h; exact .base (.str _)
  | tup _ => cases h; cases r with | tup q _ => exact tyx_tup (.inl q)
  | kon _ => cases h; cases r with | kon q _ => exact tyx_tup (.inr q)
  | lst _ => cases h; cases r with | lst q _ _ => exact .base (.lst q)
  | dT _ => cases h; cases r with | dT q _ _ _ => exact .base (.dT q)
  | dK _ => cases h; cases r with | dK q _ _ _ => exact .base (.dK q)
  | slot i =>
    have h' : (match s.sl[i]? with
      | some (.own _) => some "list"
      | some (.ownT _) => some "dict"
      | some (.ownK _) => some "dict"
      | _ => none) = some n := h
    have r' : σ[i]? = some (some v) := r
    cases q : s.sl[i]? with
    | none => rw [q] at h'; cases h'
    | some en =>
      rw [q] at h'
      have en_ok := R.ent i _ q
      cases en with
      | own xs =>
        obtain ⟨l, vs, a1, _, _, a4, _⟩ := en_ok
        rw [r'] at a1; cases a1; cases h'
        exact .base (.lst a4)
      | ownT xs =>
        obtain ⟨l, vs, a1, _, _, a4, _⟩ := en_ok
        rw [r'] at a1; cases a1; cases h'
        exact .base (.dT a4)
      | ownK xs =>
        obtain ⟨l, vs, a1, _, _, a4, _⟩ := en_ok
        rw [r'] at a1; cases a1; cases h'
        exact .base (.dK a4)
      | _ => cases h'
  | _ => cases h
def rIsiA (K : PySem.W.Frag) : List V → Hp → VK → Prop := fun xs H Q => rIsi K xs H Q ∨ rIsiT K xs H Q ∨ rIsiK K xs H Q
theorem call_isiA : CallR X (.builtin "isinstance") (rIsiA X.K) := by
  intro pins s σ H xs us Q I r h
  rcases h with h | h | h
  · exact call_isi pins s σ H xs us Q I r h
  · exact call_isiT pins s σ H xs us Q I r h
  · exact call_isiK pins s σ H xs us Q I r h
def kitBs (a : String) : List String → Option Bool
  | [] => some false
  | c :: r => match kitB a c with
    | some true => some true
    | some false => kitBs a r
    | none => none
def rawTys : List D → Option (List String)
  | [] => some []
  | .raw (.ty n) :: r => (rawTys r).map fun ns => n :: ns
  | _ => none
/-- isinstance(x, T), isinstance(x, (T, ..)): plain data, built-in types -/
def fIsi : DCl := fun s ds Q => match ds with
  | [x, .raw (.ty n)] => match tyD s x with
    | some t => match kitB t n with
      | some b => Q (.bl b)
      | none => False
    | none => False
  | [x, .tup cs] => match tyD s x, rawTys cs with
    | some t, some ns => match kitBs t ns with
      | some b => Q (.bl b)
      | none => False
    | _, _ => False
  | _ => False
theorem kitBs_any {t : String} : ∀ {ns : List String} {b : Bool}, kitBs t ns = some b → PySem.W.kitAny K (.type t) (ns.map Value.type) = some b
  | [], b, h => by cases h; exact kitAny_nil
  | c :: r, b, h => by
    have h' : (match kitB t c with
      | some true => some true
      | some false => kitBs t r
      | none => none) = some b := h
    cases q : kitB t c with
    | none => rw [q] at h'; cases h'
    | some k =>
      rw [q] at h'
      refine kitAny_cons (kit_ty q) (fun e => ?_) fun e => ?_
      · subst e
        exact kitBs_any h'
      · subst e
        cases h'
        rfl
theorem rawTys_spec {W : Wd} : ∀ {cs : List D} {ns : List String} {vs : List V}, Reps K W vs cs → rawTys cs = some ns → vs = ns.map V.ty
  | [], _, _, .nil, h => by cases h; rfl
  | .raw (.ty n) :: r, ns, _, .cons a rr, h => by
    have h' : (rawTys r).map (fun ns => n :: ns) = some ns := h
    cases q : rawTys r with
    | none => rw [q] at h'; cases h'
    | some ms =>
      rw [q] at h'
      cases h'
      cases a
      rw [rawTys_spec rr q]
      rfl
theorem vals_tys : ∀ {ns : List String} {us : List Value}, Vals (ns.map V.ty) us → us = ns.map Value.type
  | [], _, .nil => rfl
  | n :: ns, _, .cons a r => by
    rw [vals_tys r]
    cases (show _ = Value.type n from a)
    rfl
theorem paired_tys : ∀ {ns : List String}, Paired ClsV (ns.map V.ty) (ns.map Value.type)
  | [] => .nil
  | n :: _ => .cons (.ty n) paired_tys
theorem b_isi : CallR X (.builtin "isinstance") (rIsiA X.K) ∧ SndC X.K (rIsiA X.K) fIsi := by
  refine ⟨call_isiA, fun c W σ s xs ds Qv Qd R r h k => ?_⟩
  unfold fIsi at h
  split at h
  · rename_i x n
    obtain ⟨v, w, rfl, rv, rw'⟩ := repsT_two r
    cases rw'
    cases q : tyD s x with
    | none => rw [q] at h; exact h.elim
    | some t =>
      rw [q] at h
      simp only at h
      cases q2 : kitB t n with
      | none => rw [q2] at h; exact h.elim
      | some b =>
        rw [q2] at h
        exact .inl ⟨v, .ty n, .type t, .type n, b, rfl, .ty n, tyD_spec R rv q, kit_ty q2, k _ W _ R (Pr.refl _) (Rep.bl _).t h⟩
  · rename_i x cs
    obtain ⟨v, w, rfl, rv, rw'⟩ := repsT_two r
    cases q : tyD s x with
    | none => rw [q] at h; exact h.elim
    | some t =>
      cases q3 : rawTys cs with
      | none => rw [q, q3] at h; exact h.elim
      | some ns =>
        rw [q, q3] at h
        simp only at h
        cases q2 : kitBs t ns with
        | none => rw [q2] at h; exact h.elim
        | some b =>
          rw [q2] at h
          cases rw' with
          | tup hq rr =>
            have e := rawTys_spec rr q3
            subst e
            have ka : PySem.W.kitAny X.K (.type t) (ns.map Value.type) = some b := kitBs_any q2
            exact .inr (.inl ⟨v, _, _, _, _, b, rfl, hq, paired_tys, tyD_spec R rv q, ka, k _ W _ R (Pr.refl _) (Rep.bl _).t h⟩)
  · exact h.elim
end
end DL

namespace DL
open PySem L2
section
variable {X : Cx} {K : PySem.W.Frag}
/-! ### repr of plain data -/
mutual
theorem toPy_noDict : ∀ {d : D} {p : PyData}, toPy d = some p → p.hasDict = false
  | .non, _, h => by cases h; rfl
  | .bl _, _, h => by cases h; rfl
  | .int _, _, h => by cases h; rfl
  | .str _, _, h => by cases h; rfl
  | .tup xs, p, h => by
    rw [toPy] at h
    cases e : toPys xs with
    | none => rw [e] at h; cases h
    | some ps =>
      rw [e] at h
      cases h
      rw [PyData.hasDict]
      exact toPys_noDict e
  | .kon xs, p, h => by
    rw [toPy] at h
    cases e : toPys xs with
    | none => rw [e] at h; cases h
    | some ps =>
      rw [e] at h
      cases h
      rw [PyData.hasDict]
      exact toPys_noDict e
  | .lst xs, p, h => by
    rw [toPy] at h
    cases e : toPys xs with
    | none => rw [e] at h; cases h
    | some ps =>
      rw [e] at h
      cases h
      rw [PyData.hasDict]
      exact toPys_noDict e
  | .obj _ _, _, h => by rw [toPy] at h; cases h
  | .exc _ _, _, h => by rw [toPy] at h; cases h
  | .dT _, _, h => by rw [toPy] at h; cases h
  | .dK _, _, h => by rw [toPy] at h; cases h
  | .raw _, _, h => by rw [toPy] at h; cases h
  | .paw, _, h => by rw [toPy] at h; cases h
  | .slot _, _, h => by rw [toPy] at h; cases h
theorem toPys_noDict : ∀ {ds : List D} {ps : List PyData}, toPys ds = some ps → PyData.hasDictAll ps = false
  | [], _, h => by rw [toPys] at h; cases h; rfl
  | d :: ds, ps, h => by
    rw [toPys] at h
    cases e : toPy d with
    | none => rw [e] at h; cases h
    | some p =>
      rw [e] at h
      cases e2 : toPys ds with
      | none => rw [e2] at h; cases h
      | some qs =>
        rw [e2] at h
        cases h
        rw [PyData.hasDictAll, toPy_noDict e, toPys_noDict e2]
        rfl
end
theorem toPyT_noDict {s : DS} {d : D} {p : PyData} (h : toPyT s d = some p) : p.hasDict = false := by
  cases d with
  | slot i =>
    have h' : (match s.sl[i]? with
      | some (.own xs) => (toPys xs).map PyData.list
      | _ => none) = some p := h
    cases e : s.sl[i]? with
    | none => rw [e] at h'; cases h'
    | some x =>
      rw [e] at h'
      cases x with
      | own ys =>
        have h'' : (toPys ys).map PyData.list = some p := h'
        cases e2 : toPys ys with
        | none => rw [e2] at h''; cases h''
        | some ps =>
          rw [e2] at h''
          cases h''
          rw [PyData.hasDict]
          exact toPys_noDict e2
      | _ => cases h'
  | raw _ => cases h
  | paw => cases h
  | obj _ _ => cases h
  | exc _ _ => cases h
  | dT _ => cases h
  | dK _ => cases h
  | non => exact toPy_noDict h
  | bl _ => exact toPy_noDict h
  | int _ => exact toPy_noDict h
  | str _ => exact toPy_noDict h
  | tup _ => exact toPy_noDict h
  | kon _ => exact toPy_noDict h
  | lst _ => exact toPy_noDict h
def rRepr (K : PySem.W.Frag) : List V → Hp → VK → Prop := fun xs H Q => ∃ x d, xs = [x] ∧ Dp K H x d ∧ d.hasDict = false ∧ d.showable = true ∧ d.depth ≤ 60 ∧ d.shown.length ≤ sizeLine ∧ Q (.str d.shown) H
theorem call_reprD (hg : X.A.guards = some []) (hu : X.A.units + 64 < cLine) : CallR X (.builtin "repr") (rRepr X.K) := by
  intro pins s σ H xs us Q I r h
  obtain ⟨x, d, rfl, hd, hn, hs, hdp, hz, q⟩ := h
  obtain ⟨u, rfl, rx⟩ := vals1 r
  cases hd with
  | non => cases rx; exact PySem.P.repr_of_none ⟨.str _, H, I.tok _, ⟨_, rfl⟩, q⟩
  | bl b => cases rx; exact PySem.P.repr_of_bool ⟨.str _, H, I.tok _, ⟨_, rfl⟩, q⟩
  | int i =>
    obtain ⟨t, rfl⟩ := rx
    have hs' : i.natAbs.log2 < 1920 := by simpa [PyData.showable] using hs
    exact PySem.P.repr_of_int hs' ⟨.str _, H, I.tok _, ⟨_, rfl⟩, q⟩
  | str y =>
    obtain ⟨t, rfl⟩ := rx
    exact PySem.P.repr_of_str ⟨.str _, H, I.tok _, ⟨_, rfl⟩, q⟩ hz
  | lst h1 h2 =>
    obtain ⟨as, rd⟩ := Dp.reads I _ _ _ (.lst h1 h2) rx
    cases rx
    exact repr_of_reads' rd hs (PyData.noDict_hsm hn) hg (by omega) (fun b o e => e) (fun h' u tk hk => ⟨.str _, H, I.kept (t' := tk) hk, ⟨_, rfl⟩, q⟩) hz
  | tup h1 h2 =>
    obtain ⟨as, rd⟩ := Dp.reads I _ _ _ (.tup h1 h2) rx
    cases rx
    exact repr_of_reads' rd hs (PyData.noDict_hsm hn) hg (by omega) (fun b o e => e) (fun h' u tk hk => ⟨.str _, H, I.kept (t' := tk) hk, ⟨_, rfl⟩, q⟩) hz
def fRepr : DCl := fun s ds Q => match ds with
  | [d] => match toPyT s d with
    | some p => p.showable = true ∧ p.depth ≤ 60 ∧ p.shown.length ≤ sizeLine ∧ Q (.str p.shown)
    | none => False
  | _ => False
theorem b_repr (hg : X.A.guards = some []) (hu : X.A.units + 64 < cLine) : CallR X (.builtin "repr") (rRepr X.K) ∧ SndC X.K (rRepr X.K) fRepr := by
  refine ⟨call_reprD hg hu, fun c W σ s xs ds Qv Qd R r h k => ?_⟩
  unfold fRepr at h
  split at h
  · rename_i d
    obtain ⟨v, rfl, rv⟩ := repsT_one r
    cases q : toPyT s d with
    | none => rw [q] at h; exact h.elim
    | some p =>
      rw [q] at h
      obtain ⟨h1, h2, h3, h4⟩ := h
      exact ⟨v, p, rfl, toPyT_spec R rv q, toPyT_noDict q, h1, h2, h3, k _ W _ R (Pr.refl _) (Rep.str _).t h4⟩
  · exact h.elim
end
end DL

namespace DL
open PySem L2
section
variable {X : Cx} {K : PySem.W.Frag} {c : C0} {a b e elt tg iter : Expr} {es ifs : List Expr} {te tea teb tec : TE} {t ta tb tc : DE} {pos : Pos} {tt : TT} {dt : DT} {wi : TI} {ti : DI} {g : TG} {dg : DG}
/-! ### chains -/
def dChain (f f' : DR) (ta tb tc : DE) : DE := fun s Q => ta s fun d1 s1 => tb s1 fun d2 s2 => d2.isSlot = false ∧ f s2 d1 d2 fun d => match d with
  | .bl k => if k = true then tc s2 fun d3 s3 => f' s3 d2 d3 fun d => Q d s3 else Q (.bl false) s2
  | _ => False
theorem snd_chain {r r' : R2} {f f' : DR} (h : SndR K r f) (h' : SndR K r' f') (ha : SndE K tea ta) (hb : SndE K teb tb) (hc : SndE K tec tc) : SndE K (tChain r r' tea teb tec) (dChain f f' ta tb tc) := by
  intro c W σ s Qv Qd R hq k
  refine ha c W σ s _ _ R hq fun x W1 d1 s1 R1 p1 r1 q1 => ?_
  refine hb c W1 σ s1 _ _ R1 q1 fun y W2 d2 s2 R2 p2 r2 q2 => ?_
  refine h c W2 σ s2 x y d1 d2 _ _ R2 (r1.mono p2) r2 q2.2 fun v W3 d R3 p3 r3 q3 => ?_
  cases d with
  | bl k' =>
    cases r3
    refine ⟨k', rfl, ?_⟩
    cases k' with
    | true => exact hc c W3 σ s2 _ _ R3 q3 fun z W4 d3 s3 R4 p4 r4 q4 => h' c W4 σ s3 y z d2 d3 _ _ R4 ((r2.mono p3).mono p4) r4 q4 fun v W5 d R5 p5 r5 q5 => k v W5 d s3 R5 ((((p1.trans p2).trans p3).trans p4).trans p5) r5 q5
    | false => exact k _ W3 _ s2 R3 ((p1.trans p2).trans p3) (Rep.bl false).t q3
  | _ => exact q3.elim
theorem d_chain {op op' : CmpOp} {r r' : R2} {f f' : DR} {cc : Expr} (h : OpR X (compareOp op) r ∧ SndR X.K r f) (h' : OpR X (compareOp op') r' ∧ SndR X.K r' f') (ha : PD X a tea ta) (hb : PD X b teb tb) (hc : PD X cc tec tc)
    (hm : lastMarks [op, op'] [b, cc] = false := by with_unfolding_all rfl) : PD X (.Compare a [op, op'] [b, cc] pos) (tChain r r' tea teb tec) (dChain f f' ta tb tc) := ⟨pe_chain h.1 h'.1 ha.pe hb.pe hc.pe hm, snd_chain h.2 h'.2 ha.snd hb.snd hc.snd⟩
theorem dt_chain {op op' : CmpOp} {r r' : R2} {f f' : DR} {cc : Expr} (h : OpR X (compareOp op) r ∧ SndR X.K r f) (h' : OpR X (compareOp op') r' ∧ SndR X.K r' f') (ha : PD X a tea ta) (hb : PD X b teb tb) (hc : PD X cc tec tc)
    (hm : lastMarks [op, op'] [b, cc] = false := by with_unfolding_all rfl) : PDT X (.Compare a [op, op'] [b, cc] pos) (tTest (tChain r r' tea teb tec)) (dB (dChain f f' ta tb tc)) := ⟨pt_chain h.1 h'.1 ha.pe hb.pe hc.pe hm, snd_test (snd_chain h.2 h'.2 ha.snd hb.snd hc.snd)⟩
/-! ### dicts that are written -/
def dDict0 : DE := fun s Q => Q (.dK []) s
theorem d_dict0 : PD X (.Dict [] [] pos) tDNewK dDict0 := by
  refine ⟨pe_dnewK, fun c W σ s Qv Qd R h k p hp => ?_⟩
  exact k (.ref p) ⟨W.M, upd W.H p (.dK []), W.pa⟩ (.dK []) s (R.same (same_new hp)) (Pr.new hp) (Rep.dK (vs := []) upd_same (R.fresh hp) rfl .nil) h
def dDict0T : DE := fun s Q => Q (.dT []) s
theorem d_dict0T : PD X (.Dict [] [] pos) tDNewT dDict0T := by
  refine ⟨pe_dnewT, fun c W σ s Qv Qd R h k p hp => ?_⟩
  exact k (.ref p) ⟨W.M, upd W.H p (.dT []), W.pa⟩ (.dT []) s (R.same (same_new hp)) (Pr.new hp) (Rep.dT (vs := []) upd_same (R.fresh hp) rfl .nil) h
/-- keys that are ints and texts -/
def asKey : D → Option Key
  | .int i => some (.inl i)
  | .str x => some (.inr x)
  | _ => none
theorem asKey_spec {W : Wd} {σ : St} {v : V} {d : D} {k : Key} (r : RepT K W σ v d) (h : asKey d = some k) : v = kV k := by
  cases d with
  | int i => cases r; cases h; rfl
  | str x => cases r; cases h; rfl
  | _ => cases h
def dPairs : List (DE × DE) → DS → (List (Key × D) → DS → Prop) → Prop
  | [], s, Q => Q [] s
  | (tk, tv) :: r, s, Q => tk s fun dk s1 => tv s1 fun dv s2 => match asKey dk with
    | some k => dv.isSlot = false ∧ dPairs r s2 fun ps s3 => Q ((k, dv) :: ps) s3
    | none => False
structure PDP (X : Cx) (pos : Pos) (keys : List (Option Expr)) (values : List Expr) (trs : List (TE × TE)) (ds : List (DE × DE)) : Prop where
  pps : PPs X pos keys values trs
  snd : ∀ (c : C0) (W : Wd) (σ : St) (s : DS) (Qv : List (V × V) → Hp → Prop) (Qd : List (Key × D) → DS → Prop), Rel X.K c W σ s → dPairs ds s Qd →
    (∀ (vs : List (Key × V)) W' ps s', Rel X.K c W' σ s' → Pr W W' → vs.map (·.1) = ps.map (·.1) → Reps X.K W' (vs.map (·.2)) (ps.map (·.2)) → Qd ps s' → Qv (vs.map fun kv => (kV kv.1, kv.2)) W'.H) → tPairs trs σ W.H Qv
theorem dp_nil : PDP X pos [] [] [] [] := ⟨pps_nil, fun c W σ s Qv Qd R h k => k [] W [] s R (Pr.refl _) rfl .nil h⟩
theorem dp_cons {ky v : Expr} {ks : List (Option Expr)} {vs : List Expr} {tk tv : TE} {dk dv : DE} {trs : List (TE × TE)} {ds : List (DE × DE)} (hk : PD X ky tk dk) (hv : PD X v tv dv) (hr : PDP X pos ks vs trs ds) : PDP X pos (some ky :: ks) (v :: vs) ((tk, tv) :: trs) ((dk, dv) :: ds) := by
  refine ⟨pps_cons hk.pe hv.pe hr.pps, fun c W σ s Qv Qd R h k => ?_⟩
  refine hk.snd c W σ s _ _ R h fun x W1 d1 s1 R1 p1 r1 q1 => ?_
  refine hv.snd c W1 σ s1 _ _ R1 q1 fun y W2 d2 s2 R2 p2 r2 q2 => ?_
  have q2 : match asKey d1 with
    | some k => d2.isSlot = false ∧ dPairs ds s2 fun ps s3 => Qd ((k, d2) :: ps) s3
    | none => False := q2
  cases ek : asKey d1 with
  | none => rw [ek] at q2; exact q2.elim
  | some kk =>
    rw [ek] at q2
    obtain ⟨n2, q2⟩ := q2
    have e := asKey_spec r1 ek
    subst e
    refine hr.snd c W2 σ s2 _ _ R2 q2 fun ws W3 ps s3 R3 p3 hm rr q3 => ?_
    exact k ((kk, y) :: ws) W3 ((kk, d2) :: ps) s3 R3 ((p1.trans p2).trans p3) (congrArg (List.cons kk) hm) (.cons ((r2.to n2).mono p3) rr) q3
theorem put_end {k : Key} {v : V} : ∀ {l : List (Key × V)}, k ∉ l.map (·.1) → putK l k v = l ++ [(k, v)] := fun {l} h => by
  unfold putK
  rw [if_neg]
  intro z
  rw [List.any_eq_true] at z
  obtain ⟨p, hp, e⟩ := z
  exact h (List.mem_map.mpr ⟨p, hp, of_decide_eq_true e⟩)
theorem merge_nodup : ∀ {r l : List (Key × V)}, ((l ++ r).map (·.1)).Nodup → mergeK l r = l ++ r
  | [], l, _ => by rw [List.append_nil]; rfl
  | p :: r, l, h => by
    have hk : p.1 ∉ l.map (·.1) := fun m => by
      rw [List.map_append, List.map_cons] at h
      exact (List.nodup_append.mp h).2.2 _ m _ (List.mem_cons_self ..) rfl
    show mergeK (putK l p.1 p.2) r = l ++ p :: r
    rw [put_end hk]
    have e : (l ++ [(p.1, p.2)]) ++ r = l ++ p :: r := by rw [List.append_assoc]; rfl
    rw [merge_nodup (by rw [e]; exact h), e]
def dDict (ds : List (DE × DE)) : DE := fun s Q => dPairs ds s fun ps s1 => ps.length ≤ 15 ∧ (ps.map (·.1)).Nodup ∧ Q (.dK ps) s1
theorem d_dict {keys : List (Option Expr)} {values : List Expr} {trs : List (TE × TE)} {ds : List (DE × DE)} (h : PDP X pos keys values trs ds) (hall : keys.all (·.isSome) = true := by rfl) (hl : keys.length = values.length := by rfl) (h0 : keys ≠ [] := by exact fun z => by cases z)
    (h15 : keys.length ≤ 15 := by decide) : PD X (.Dict keys values pos) (tDisp trs) (dDict ds) := by
  refine ⟨pe_disp h.pps hall hl h0 h15, fun c W σ s Qv Qd R hq k p hp => ?_⟩
  have hz : c.H0 p = none := R.new0 hp
  have R1 : Rel X.K c ⟨fun a => W.M a ∨ a = p, upd W.H p (.dK []), W.pa⟩ σ s := R.laid (.dK []) hp
  have RH := R1.hold hz (.inr rfl) upd_same (R.newOwn hp)
  refine h.snd (c.hold p (.dK [])) _ σ s _ _ RH hq fun vs W2 ps s2 R2 p2 hm rr q2 => ?_
  obtain ⟨R3, h3, m3, n3⟩ := R1.unhold hz R2
  obtain ⟨hlen, hnd, q2⟩ := q2
  have hvl : vs.length = ps.length := by
    have e := congrArg List.length hm
    rw [List.length_map, List.length_map] at e
    exact e
  refine ⟨h3, vs, rfl, by rw [hvl]; exact hlen, ?_⟩
  have em : mergeK [] vs = vs := merge_nodup (l := []) (by rw [List.nil_append, hm]; exact hnd)
  rw [em]
  have P4 : Pr W2 ⟨W2.M, upd W2.H p (.dK vs), W2.pa⟩ := Pr.mut m3 h3 fun z => z
  have R4 : Rel X.K c ⟨W2.M, upd W2.H p (.dK vs), W2.pa⟩ σ s2 := R3.poke hz m3 h3 (fun z => z) n3
  obtain ⟨R5, P5⟩ := R4.freeze hz n3
  exact k (.ref p) ⟨fun a => W2.M a ∧ a ≠ p, upd W2.H p (.dK vs), W2.pa⟩ (.dK ps) s2 R5 (((Pr.laid hp).trans p2).trans (P4.trans P5)) (Rep.dK (vs := vs) upd_same (fun z => z.2 rfl) hm ((rr.mono P4).mono P5)) q2
/-! ### a, b, c = x, y, z -/
def dPar3 (i j l : Nat) (r : DA) : DTS := fun F s => r s fun ds s1 => match ds with
  | [a, b, c] => (a.isSlot = false ∧ b.isSlot = false ∧ c.isSlot = false) ∧ F.nx { s1 with sl := ((s1.sl.set i (.fz a)).set j (.fz b)).set l (.fz c) }
  | _ => False
theorem snd_par3 {i j l : Nat} {taa : TA} {r : DA} (ha : SndA K taa r) : SndS K (tPar3 i j l taa) (dPar3 i j l r) := by
  intro c W σ s E F R C h
  refine ha c W σ s _ _ R h fun vs W1 ds s1 R1 p1 r1 q1 => ?_
  cases r1 with
  | nil => exact q1.elim
  | cons ra r1 =>
    cases r1 with
    | nil => exact q1.elim
    | cons rb r1 =>
      cases r1 with
      | nil => exact q1.elim
      | cons rc r1 =>
        cases r1 with
        | nil =>
          obtain ⟨⟨n1, n2, n3⟩, q⟩ := q1
          refine ⟨_, _, _, rfl, ?_⟩
          exact C.nx W1 _ _ (((R1.putFz i (ra.to n1)).putFz j (rb.to n2)).putFz l (rc.to n3)) p1 q
        | cons _ _ => exact q1.elim
theorem ds_par3 {i j l : Nat} {x y z : Str} {a b cc : Expr} {taa : TA} {r : DA} {px py pz pt : Pos} {kt k2 pt2} (hc : X.calm = true) (hN : X.N.Nodup) (hi : X.N[i]? = some x) (hj : X.N[j]? = some y) (hl : X.N[l]? = some z) (hij : i ≠ j) (hil : i ≠ l) (hjl : j ≠ l)
    (hx : X.env.scope.names.lookup x = some .local) (hy : X.env.scope.names.lookup y = some .local) (hz : X.env.scope.names.lookup z = some .local) (ha : PDA X [a, b, cc] taa r)
    (hw : swappedStores [.Tuple [.Name x px, .Name y py, .Name z pz] kt pt] (.Tuple [a, b, cc] k2 pt2) X.env = pure (some [x, y, z]))
    (hs : swapsWithSole [.Tuple [.Name x px, .Name y py, .Name z pz] kt pt] (.Tuple [a, b, cc] k2 pt2) pos.line X.env = pure false := by rfl) :
    PDS X (.Assign [.Tuple [.Name x px, .Name y py, .Name z pz] kt pt] (.Tuple [a, b, cc] k2 pt2) pos) (tPar3 i j l taa) (dPar3 i j l r) :=
  ⟨ps_par3 hc hN hi hj hl hij hil hjl hx hy hz ha.pa hw hs, snd_par3 ha.snd⟩
/-! ### y = [..] as data -/
theorem ds_setLc {i : Nat} {y : Str} {py spos : Pos} {scope : Scope} {own : List (Str × Nat)} (hc : X.calm = true) (hN : X.N.Nodup) (hy : X.N[i]? = some y) (hyl : X.env.scope.names.lookup y = some .local)
    (hsw : swapsWith (.ListComp elt [⟨tg, iter, ifs, 0⟩] scope pos) (some (.Name y py)) spos.line X.env = pure true) (hi : PDI X tg iter wi ti) (ok : BlkOk X.N X.env.scope scope own) (gk : GOk g (own.map (·.2)))
    (hg : ∀ (s : Shared) (H : Hp) (C : Addr) (cl : List (Str × Addr)) (fp : List Addr), PDG (X.blk s H scope (compEnvC scope cl C X.env) fp) tg g dg) (ht : ∀ (s : Shared) (H : Hp) (C : Addr) (cl : List (Str × Addr)) (fp : List Addr), PDTs (X.blk s H scope (compEnvC scope cl C X.env) fp) ifs tt dt)
    (he : ∀ (s : Shared) (H : Hp) (C : Addr) (cl : List (Str × Addr)) (fp : List Addr), PD (X.blk s H scope (compEnvC scope cl C X.env) fp) elt te t) (hs : ∀ x, foldedSetIterable iter X.env x = pure x := by intro _; rfl) :
    PDS X (.Assign [.Name y py] (.ListComp elt [⟨tg, iter, ifs, 0⟩] scope pos) spos) (tAsg (tLc wi g tt te (own.map (·.2))) (gName i)) (dAsg (dOfL (dLc ti dg dt t (own.map (·.2)))) (dgName i)) := by
  have h := ds_ownLc hc hN hy hyl hsw hi ok gk hg ht he hs
  have hl : SndL X.K (tLc wi g tt te (own.map (·.2))) (dLc ti dg dt t (own.map (·.2))) := snd_lc hi.snd (hg X.s_0 (fun _ => none) 0 [] []).snd gk (ht X.s_0 (fun _ => none) 0 [] []).snd (he X.s_0 (fun _ => none) 0 [] []).snd
  refine ⟨h.ps, snd_asg (fun c W σ s Qv Qd R hq k => ?_) snd_gName⟩
  refine hl c W σ s _ _ R hq fun p vs W1 xs s1 R1 p1 hm hp r h0 no q => ?_
  obtain ⟨R2, p2⟩ := R1.freeze h0 no
  exact k (.ref p) ⟨fun a => W1.M a ∧ a ≠ p, W1.H, W1.pa⟩ (.lst xs) s1 R2 (p1.trans p2) (Rep.lst hp (fun z => z.2 rfl) (r.mono p2)) q
end
/-! ### a def by its place -/
structure Dfn (K : PySem.W.Frag) (mg : Str → Option Value) (x : Str) (st : Stmt) (ps : List Str) : Prop where
  ex : ∃ f fd, Fun K x x st f fd ∧ mg x = some (.ref f) ∧ Binds K fd ps []
theorem dfn_mk {K : PySem.W.Frag} {h : Heap} {mg : Str → Option Value} {x : Str} {st : Stmt} {ps : List Str} {f : Addr} {od an : Option Addr} {sl : Array (Option Value)} {oc kV dc pm cd ct : Value} (X : K.In h) (G : h.Ns mainGlobals mg)
    (b : ∀ (kV doc pm : Value) (an : Option Addr) (cdv ct : Value) (us : List Value), us.length = ps.length → bindArgs (PySem.W.fnOf x x (defArgs st) (defBody st) (defScope st) .none kV doc pm an cdv ct) ⟨us, []⟩ = pure (ps.zip us))
    (a : PySem.W.nsIn K mainGlobals x = some (some (.ref f))) (l : K.lookup f = some ⟨oc, od, .func (PySem.W.fnOf x x (defArgs st) (defBody st) (defScope st) .none kV dc pm an cd ct), sl⟩) (c : PySem.W.codeIn K cd x = true) (k : PySem.W.keepIn K (.ref f) = true) :
    Dfn K mg x st ps := ⟨f, _, fun_mk l c k, PySem.W.mg_of X G a, (fun_mk l c k).binds b⟩
theorem fnC {P : Program} {w : World} {K : PySem.W.Frag} {mg : Str → Option Value} {base : Heap} {x : Str} {st : Stmt} {N ps : List Str} {k : Nat} {C : Ctr} (D : Dfn K mg x st ps) (S : FnScope N ps (defScope st)) (len : ∀ ds b Q, C ds b Q → ds.length = ps.length)
    (hbody : ∀ (f : Addr) (cdv : Value) (A : Around) (outer : List Env) (s : Shared) (H : Hp) (E : XK), Room k (A.deeper (PyProof.Rows.envOfC x (defScope st) s.heap.objs.size f cdv)) → (A.deeper (PyProof.Rows.envOfC x (defScope st) s.heap.objs.size f cdv)).guards = some [] →
      ∃ ts t, PDSs (cxOf CX0 P w K mg base N x (defScope st) f cdv A outer s H E).nox (defBody st) ts t ∧ ∀ ds b Qd, C ds b Qd → t (endsC Qd) (startD N ds b)) : Fn P w K mg base (k + 1) x st ps C := by
  obtain ⟨f, fd, F, hm, hb⟩ := D.ex
  exact ⟨f, fd, F, FunCG F S len fun cdv A outer s H E hr hg => hbody f cdv A outer s H E hr hg, hm, hb⟩
end DL

namespace DL
open PySem L2
/-! ### readings by what is known -/
theorem isi_ty {s : DS} {x : D} {n t : String} {b : Bool} {Q : D → Prop} (h1 : tyD s x = some t) (h2 : kitB t n = some b) (q : Q (.bl b)) : fIsi s [x, .raw (.ty n)] Q := by
  show (match tyD s x with
    | some t => match kitB t n with
      | some b => Q (.bl b)
      | none => False
    | none => False)
  rw [h1]
  show (match kitB t n with
      | some b => Q (.bl b)
      | none => False)
  rw [h2]
  exact q
theorem isi_tup {s : DS} {x : D} {cs : List D} {ns : List String} {t : String} {b : Bool} {Q : D → Prop} (h0 : rawTys cs = some ns) (h1 : tyD s x = some t) (h2 : kitBs t ns = some b) (q : Q (.bl b)) : fIsi s [x, .tup cs] Q := by
  show (match tyD s x, rawTys cs with
    | some t, some ns => match kitBs t ns with
      | some b => Q (.bl b)
      | none => False
    | _, _ => False)
  rw [h1, h0]
  show (match kitBs t ns with
      | some b => Q (.bl b)
      | none => False)
  rw [h2]
  exact q
/-! ### the draws' own defs, at the level of the heap -/
/-- [[int(cell) for cell in script[:n]], 0, 0] -/
def spDen (K : PySem.W.Frag) : Sp := fun vs H Q _ => ∃ (a : Addr) (ns : List Int), vs = [.ref a] ∧ SqL K H a (ns.map V.int) ∧ ns.length ≤ 63 ∧
  ∀ (pa pl : Addr) (H' : Hp) (ms : List Int), Same H H' → H pa = none → H pl = none → pa ≠ pl → ms.length ≤ 63 → H' pl = some (.lst (ms.map V.int)) → H' pa = some (.lst [.ref pl, .int 0, .int 0]) → Q (.ref pa) H'
/-- what a draw promises: any number below many -/
def CTell : Ctr := fun ds b Q => ∃ n : Int, ds = [.paw, .int n] ∧ 0 < n ∧ n < 1073741824 ∧ 1 ≤ b ∧ ∀ r : Int, 0 ≤ r → r < n → Q (.int r) (b - 1)
theorem ctell_len : ∀ ds b Q, CTell ds b Q → ds.length = 2 := by
  rintro ds b Q ⟨n, rfl, _⟩
  rfl
/-- an entry of the well's own list -/
theorem pow5 {x : Int} (h0 : 0 ≤ x) (h : x < 2 ^ 62) : CPow x 5 := ⟨by decide, by decide, by omega⟩
theorem pow3 {x : Int} (h0 : 0 ≤ x) (h : x < 2 ^ 63) : CPow x 3 := ⟨by decide, by decide, by omega⟩
/-- the ends of a law that has drawn its well: the rest of its body over data -/
theorem lawRest {K : PySem.W.Frag} {ts : TS} {t : DTS} {H1 : Hp} {pa pl : Addr} {σ : L2.St} {n : Nat} {E : Ends} (h : SndS K ts t) (hl : σ.length = n + 2) (hs : σ[1]? = some (some (.ref pa))) {ms : List Int} (hm : ms.length ≤ 63) (h1 : H1 pl = some (.lst (ms.map V.int))) (h2 : H1 pa = some (.lst [.ref pl, .int 0, .int 0])) (ne : pa ≠ pl)
    (hE : ∀ H, E.rt (.bl true) H) (q : t { nx := fun _ => False, rt := fun d _ => d = .bl true } ⟨.un :: .fz .paw :: List.replicate n .un, 1000000⟩) : ts E σ H1 := by
  have R : Rel K ⟨fun a => a = pa, H1, pa, pl, fun a => a = pa⟩ ⟨fun a => a = pa, H1, pa⟩ σ ⟨.un :: .fz .paw :: List.replicate n .un, 1000000⟩ := by
    have ent : ∀ (i : Nat) (e : EV), (EV.un :: .fz .paw :: List.replicate n EV.un)[i]? = some e → e = .un ∨ (i = 1 ∧ e = .fz .paw) := by
      intro i e h
      match i, h with
      | 0, h => cases h; exact .inl rfl
      | 1, h => cases h; exact .inr ⟨rfl, rfl⟩
      | i + 2, h =>
        have h' : (List.replicate n EV.un)[i]? = some e := h
        rw [List.getElem?_replicate] at h'
        split at h'
        · cases h'; exact .inl rfl
        · cases h'
    refine ⟨by simp [hl], fun a h => ?_, rfl, fun i e h => ?_, fun i j l a _ => ?_, fun _ h => h, fun a o h _ => h, fun a h => ?_, fun a _ h => h, fun a h => h, fun a h => ?_, rfl, rfl, fun z => ne z.symm, ⟨0, 0, ms, h2, h1, hm, by decide, (by show (0 : Int) + (1000000 : Nat) ≤ 1000000; decide), by decide⟩⟩
    · have e : a = pa := h
      subst e
      show H1 a ≠ none
      rw [h2]
      exact fun z => by cases z
    · rcases ent i e h with z | ⟨z1, z2⟩
      · subst z; trivial
      · subst z1; subst z2
        exact ⟨.ref pa, hs, .paw⟩
    · obtain ⟨⟨e, a1, a2⟩, _⟩ := a
      rcases ent i e a1 with z | ⟨z1, z2⟩
      · subst z; cases a2
      · subst z2; cases a2
    · have e : a = pa := h
      exact ⟨_, e ▸ h2⟩
    · have e : a = pa := h
      subst e
      show H1 a ≠ none
      rw [h2]
      exact fun z => by cases z
  refine h _ _ σ _ E { nx := fun _ => False, rt := fun d _ => d = .bl true } R ⟨fun _ _ _ _ _ z => z.elim, fun v W' σ' d s' R' P r z => ?_, fun _ _ _ _ _ z => z.elim, fun _ _ _ _ _ z => z.elim⟩ q
  subst z
  cases r
  exact hE _
/-! ### lists of ints as data -/
theorem dp_nums {K : PySem.W.Frag} {H : Hp} : ∀ {ns : List Int}, DpAll K H (ns.map V.int) (ns.map PyData.int)
  | [] => .nil
  | n :: _ => .cons (.int n) dp_nums
theorem lay_nums : ∀ {ns : List Int}, PyData.canLayAll0 (ns.map PyData.int) = true
  | [] => rfl
  | n :: ns => by
    show (PyData.canLay0 (.int n) && PyData.canLayAll0 (ns.map PyData.int)) = true
    rw [lay_nums]
    rfl
theorem depth_nums : ∀ {ns : List Int}, PyData.depthAll (ns.map PyData.int) = 0
  | [] => rfl
  | n :: ns => by
    show max (PyData.depth (.int n)) (PyData.depthAll (ns.map PyData.int)) = 0
    rw [depth_nums]
    rfl
theorem shaped_nums {ns : List Int} : SeqAt.shaped (.list (ns.map PyData.int)) = true := by
  unfold SeqAt.shaped
  rw [Bool.and_eq_true]
  refine ⟨?_, decide_eq_true ?_⟩
  · rw [PyData.canLay0]
    exact lay_nums
  · rw [PyData.depth, depth_nums]
    decide
theorem eqv_nil {ns : List Int} : PyData.eqv (.list (ns.map PyData.int)) (.list []) = ns.isEmpty := by
  cases ns with
  | nil => simp [PyData.eqv, PyData.eqvAll]
  | cons n ns => simp [PyData.eqv, PyData.eqvAll]
theorem use_go {G : Int → Prop} {A : Prop} (h : ∀ c, G c) (k : (∀ c, G c) → A) : A := k h
theorem use_end {E A : Prop} (h : E) (k : E → A) : A := k h
theorem exact_last {E : Prop} (h : E) : E := h
end DL

namespace DL
open PySem L2
section
variable {X : Cx} {K : PySem.W.Frag} {es : List Expr} {pos : Pos}
/-! ### (a, b, ..) = a tuple or a list of that length -/
theorem pg_either {e : Expr} {g g' : TG} (h : PG X e g) (h' : PG X e g') : PG X e (fun v σ H Q => g v σ H Q ∨ g' v σ H Q) :=
  ⟨fun pins s σ H v u Q I r hw => hw.elim (h.run pins s σ H v u Q I r) (h'.run pins s σ H v u Q I r)⟩
def dgUnp (n : Nat) (t : DGs) : DG := fun d s Q => match d with
  | .tup ds => ds.length = n ∧ t ds s Q
  | .kon ds => ds.length = n ∧ t ds s Q
  | .lst ds => ds.length = n ∧ t ds s Q
  | _ => False
theorem dg_unp {k n : Nat} {gs : TGs} {a : DGs} (hc : X.calm = true) (h : PDGs X es gs a) (hn : (assignEach es X.env).length = n := by rfl) (hst : (assignEach es X.env).findIdx? (·.1) = none := by rfl) :
    PDG X (.Tuple es k pos) (fun v σ H Q => gTup X.K n gs v σ H Q ∨ gUnl X.K n gs v σ H Q) (dgUnp n a) := by
  refine ⟨pg_either (pg_tup hc h.pgs hn hst) (pg_unl hc h.pgs hn hst), fun c W σ s v d Qv Qd R r hw k => ?_⟩
  cases r with
  | kon q r => exact .inl ⟨_, _, rfl, TupV.sq (.inr q), by rw [r.length]; exact hw.1, h.snd c W σ s _ _ _ _ R r hw.2 k⟩
  | tup q r => exact .inl ⟨_, _, rfl, TupV.sq (.inl q), by rw [r.length]; exact hw.1, h.snd c W σ s _ _ _ _ R r hw.2 k⟩
  | lst q _ r => exact .inr ⟨_, _, rfl, SqL.of q, by rw [r.length]; exact hw.1, h.snd c W σ s _ _ _ _ R r hw.2 k⟩
  | _ => exact hw.elim
end
/-! ### a call by any promise -/
structure FnS (P : Program) (w : World) (K : PySem.W.Frag) (mg : Str → Option Value) (base : Heap) (k : Nat) (x : Str) (st : Stmt) (ps : List Str) (sp : Sp) : Prop where
  ex : ∃ f fd, Fun K x x st f fd ∧ FnOkG P w K mg base k f fd ps sp ∧ mg x = some (.ref f) ∧ Binds K fd ps []
section
variable {X : Cx} {e : Expr} {es : List Expr} {taa : TA} {pos p : Pos} {k : Nat} {x : Str} {ps : List Str} {st : Stmt} {sp : Sp}
theorem pe_callS (G : FnS X.prog X.w X.K X.mg X.base k x st ps sp) (hr : Room k X.A) (hgd : X.A.guards = some []) (ha : PA X (e :: es) taa) (hg : Gl X x := by rfl) (hdb : (x == ("__debug__" : Str)) = false := by decide)
    (he : starEach (e :: es) X.env = (false, eval e X.env) :: starEach es X.env := by rfl) (hpl : (backTo pos (starEach es X.env)).any (·.1) = false := by rfl) : PE X (.Call (.Name x p) (e :: es) [] pos) (tCall sp [] E0 taa) := by
  obtain ⟨f, fd, Fu, F, hm, hb⟩ := G.ex
  refine ⟨fun pins s σ H Q I h => ?_⟩
  apply wpAny_Call_Name_kw (ld_glob I hg hm ?_ hdb)
  apply PySem.W.callWith_K (h₀ := X.base) I.ok.mod.kin Fu.kp (thn (ha.run pos pins s σ H _ I h) ?_) he hpl
  rintro us s1 ⟨vs, H1, I1, r, q⟩
  rw [List.append_nil] at q
  refine ⟨I1.kIn, runG (args := ⟨us, []⟩) F hr hgd ?_ I1 r q⟩
  have hl : (us ++ []).length = ps.length := by rw [List.append_nil, ← r.length]; exact F.len _ _ _ _ q
  have z := hb s1 us I1.kIn hl
  rw [List.append_nil] at z
  exact z
end
section
variable {P : Program} {w : World} {K : PySem.W.Frag} {mg : Str → Option Value} {base : Heap} {k : Nat} {x : Str} {st : Stmt} {ps : List Str}
/-- a def that keeps its promise at the level of the heap -/
theorem fnS {sp : Sp} (D : Dfn K mg x st ps) (h : ∀ (f : Addr) (fd : FuncData), Fun K x x st f fd → FnOk P w K mg base CX0 k f fd ps sp) : FnS P w K mg base k x st ps sp := by
  obtain ⟨f, fd, F, hm, hb⟩ := D.ex
  exact ⟨f, fd, F, FnOk.g (h f fd F), hm, hb⟩
theorem fnOf_ok {C : Ctr} (D : Dfn K mg x st ps) (h : ∀ (f : Addr) (fd : FuncData), Fun K x x st f fd → FnOk P w K mg base CX0 k f fd ps (spC K C)) : Fn P w K mg base k x st ps C := by
  obtain ⟨f, fd, F, hm, hb⟩ := D.ex
  exact ⟨f, fd, F, FnOk.g (h f fd F), hm, hb⟩
end
/-! ### readings -/
theorem forL_ind {dg : DG} {d : DTS} {F : DEnds} {chk : DS → Prop} {I : List D → DS → Prop} (h0 : ∀ s, I [] s → chk s ∧ F.nx s)
    (hs : ∀ x xs s, I (x :: xs) s → (∀ s', I xs s' → forL dg d F chk xs s') → chk s ∧ dg x s fun s1 => d { nx := forL dg d F chk xs, ct := forL dg d F chk xs, bk := F.nx, rt := F.rt } s1) : ∀ (xs : List D) (s : DS), I xs s → forL dg d F chk xs s
  | [], s, h => h0 s h
  | x :: xs, s, h => hs x xs s h fun s' h' => forL_ind h0 hs xs s' h'
/-- plain values that are no places and no own classes -/
def plainD : D → Bool
  | .non => true
  | .bl _ => true
  | .int _ => true
  | .str _ => true
  | .tup _ => true
  | .lst _ => true
  | .dT _ => true
  | .dK _ => true
  | _ => false

section
variable {X : Cx} {pos : Pos}
/-- a number of the module -/
theorem d_globI {x : Str} {i : Int} (hm : ∃ t, X.mg x = some (.int i t)) (hg : Gl X x := by rfl) (hd : (x == ("__debug__" : Str)) = false := by decide) : PD X (.Name x pos) (tC (.int i)) (dC (.int i)) := by
  obtain ⟨t, hm⟩ := hm
  exact d_glob hg hm (v := .int i) ⟨t, rfl⟩ (fun _ => .int i) hd
end
theorem eqv_int {i j : Int} : PyData.eqv (.int i) (.int j) = (i == j) := by simp [PyData.eqv]
theorem shaped_int {i : Int} : SeqAt.shaped (.int i) = true := by simp [SeqAt.shaped, PyData.canLay0, PyData.depth]
theorem shaped_str {x : Str} (h : PyData.strOk x = true) : SeqAt.shaped (.str x) = true := by simp [SeqAt.shaped, PyData.canLay0, PyData.depth, h]
theorem eqv_str {x y : Str} : PyData.eqv (.str x) (.str y) = (x == y) := by simp [PyData.eqv]
/-- != of ints, of texts -/
theorem ne_int {s : DS} {i j : Int} {Q : D → Prop} (q : Q (.bl (!(i == j)))) : fEq true s (.int i) (.int j) Q := by
  refine ⟨shaped_int, shaped_int, ?_⟩
  rw [if_pos rfl, eqv_int]
  exact q
theorem eq_int {s : DS} {i j : Int} {Q : D → Prop} (q : Q (.bl (i == j))) : fEq false s (.int i) (.int j) Q := by
  refine ⟨shaped_int, shaped_int, ?_⟩
  rw [eqv_int]
  exact q
theorem ne_str {s : DS} {i j : Str} {Q : D → Prop} (hi : PyData.strOk i = true) (hj : PyData.strOk j = true) (q : Q (.bl (!(i == j)))) : fEq true s (.str i) (.str j) Q := by
  refine ⟨shaped_str hi, shaped_str hj, ?_⟩
  rw [if_pos rfl, eqv_str]
  exact q
/-- the same text on both sides: not unlike -/
theorem ne_same {s : DS} {i : Str} {Q : D → Prop} (hi : PyData.strOk i = true) (q : Q (.bl false)) : fEq true s (.str i) (.str i) Q := by
  refine ne_str hi hi ?_
  have e : (i == i) = true := by simp
  rw [e]
  exact q
theorem strOk_bl {a : Bool} : PyData.strOk (PyData.shown (.bool a)) = true := by cases a <;> decide +kernel
theorem strOk_bl2 {a b : Bool} : PyData.strOk (PyData.shown (.list [.bool a, .bool b])) = true := by cases a <;> cases b <;> decide +kernel
/-- what is written of a list of truths -/
theorem repr_bl {s : DS} {b : Bool} {Q : D → Prop} (q : Q (.str (PyData.shown (.bool b)))) : fRepr s [.bl b] Q := by
  refine ⟨by simp [PyData.showable], by simp [PyData.depth], ?_, q⟩
  cases b <;> decide +kernel
theorem repr_bl2 {s : DS} {a b : Bool} {Q : D → Prop} (q : Q (.str (PyData.shown (.list [.bool a, .bool b])))) : fRepr s [.lst [.bl a, .bl b]] Q := by
  refine ⟨by simp [PyData.showable, PyData.showableAll], by simp [PyData.depth, PyData.depthAll], ?_, q⟩
  cases a <;> cases b <;> decide +kernel
/-! ### calls with plain arguments -/
theorem plain_slot {d : D} (h : plainD d = true) : d.isSlot = false := by cases d <;> first | rfl | cases h
theorem unslots_no {s : DS} : ∀ {ds : List D}, noSlots ds = true → unslots s ds = some ds
  | [], _ => rfl
  | d :: ds, h => by
    have h' : (!d.isSlot && noSlots ds) = true := h
    rw [Bool.and_eq_true] at h'
    have e : unslot s d = some d := by
      cases d <;> first | rfl | (exact absurd h'.1 (by simp [D.isSlot]))
    show (unslot s d).bind (fun e => (unslots s ds).map fun es => e :: es) = some (d :: ds)
    rw [e, unslots_no h'.2]
    rfl
theorem noSlots_cons {d : D} {ds : List D} (h : d.isSlot = false) (r : noSlots ds = true) : noSlots (d :: ds) = true := by
  show (!d.isSlot && noSlots ds) = true
  rw [h, r]
  rfl
theorem dcall_go {C : Ctr} {ra : DA} {s s1 : DS} {ds : List D} {Q : D → DS → Prop} (hra : ∀ R : List D → DS → Prop, R ds s1 → ra s R) (hn : noSlots ds = true) (h : C ds s1.bud fun d b => Q d { s1 with bud := b }) : dCall C ra s Q := by
  refine hra _ ?_
  show match unslots s1 ds with
    | some ds' => C ds' s1.bud fun d b => (noSlots ds || d.flat) = true ∧ Q d { s1 with bud := b }
    | none => False
  rw [unslots_no hn]
  have e : (fun (d : D) (b : Nat) => (noSlots ds || d.flat) = true ∧ Q d { s1 with bud := b }) = fun d b => Q d { s1 with bud := b } := by
    funext d b
    rw [hn, Bool.true_or]
    exact propext ⟨fun h => h.2, fun h => ⟨rfl, h⟩⟩
  show C ds s1.bud fun d b => (noSlots ds || d.flat) = true ∧ Q d { s1 with bud := b }
  rw [e]
  exact h
theorem rtD_of {Q : D → Nat → Prop} {d : D} {s : DS} (h : d.isSlot = false) (q : Q d s.bud) : rtD Q d s := by cases d <;> first | exact q | cases h
theorem noSlots_mem : ∀ {ds : List D} {d : D}, noSlots ds = true → d ∈ ds → d.isSlot = false
  | [], _, _, h => by simp at h
  | e :: ds, d, h, hm => by
    have h' : (!e.isSlot && noSlots ds) = true := h
    rw [Bool.and_eq_true] at h'
    rcases List.mem_cons.mp hm with q | q
    · rw [q]
      simpa using h'.1
    · exact noSlots_mem h'.2 q
end DL

namespace DL
open PySem L2
/-! ### reading a denotation bit by bit -/
section
variable {F : DEnds} {s : DS} {a b d e : DTS} {t u ta tb tc : DE} {q q' : DT} {r rk : DA} {l : DL_} {Q : D → DS → Prop} {QT : Bool → DS → Prop} {QA : List D → DS → Prop} {g : DG} {f f' : DR} {i j n : Nat} {x : D}
theorem r_seq (h : a { F with nx := b F } s) : dSeq a b F s := h
theorem r_next (h : F.nx s) : dNext F s := h
theorem r_ret (h : t s F.rt) : dRet t F s := h
theorem r_drop (h : t s fun _ s1 => F.nx s1) : dDrop t F s := h
theorem r_ifS (h : q s fun k s1 => if k = true then a F s1 else b F s1) : dIfS q a b F s := h
theorem r_asg (h : t s fun d s1 => d.isSlot = false ∧ g d s1 F.nx) : dAsg t g F s := h
theorem r_c {d : D} (h : Q d s) : dC d s Q := h
theorem r_var {d : D} (hs : s.sl[i]? = some (.fz d)) (h : Q d s) : dVar i s Q := by
  unfold dVar
  rw [hs]
  exact h
theorem r_nil (h : QA [] s) : dNil s QA := h
theorem r_cons (h : t s fun d s1 => r s1 fun ds s2 => QA (d :: ds) s2) : dCons t r s QA := h
theorem r_op (h : ta s fun d1 s1 => tb s1 fun d2 s2 => f s2 d1 d2 fun d => Q d s2) : dOp f ta tb s Q := h
theorem r_cb {f : DCl} (h : r s fun ds s1 => f s1 ds fun d => Q d s1) : dCB f r s Q := h
theorem r_ofL (h : l s fun xs s1 => Q (.lst xs) s1) : dOfL l s Q := h
theorem r_lst {QL : List D → DS → Prop} (h : r s fun ds s1 => ds.length ≤ sizeLine ∧ noSlots ds = true ∧ QL ds s1) : dlLst r s QL := h
theorem r_tup (h : r s fun ds s1 => ds.length ≤ sizeLine ∧ noSlots ds = true ∧ Q (.tup ds) s1) : dTup r s Q := h
theorem r_b (h : t s fun d s1 => match d with
    | .bl k => QT k s1
    | _ => False) : dB t s QT := h
theorem r_not (h : q s fun b s1 => QT (!b) s1) : dNot q s QT := h
theorem r_and (h : q s fun b s1 => if b = true then q' s1 QT else QT false s1) : dAnd q q' s QT := h
theorem r_or (h : q s fun b s1 => if b = true then QT true s1 else q' s1 QT) : dOr q q' s QT := h
theorem r_andV (h : t s fun d s1 => match d with
    | .bl b => if b = true then u s1 Q else Q (.bl false) s1
    | _ => False) : dAndV t u s Q := h
theorem r_orV (h : t s fun d s1 => match d with
    | .bl b => if b = true then Q (.bl true) s1 else u s1 Q
    | _ => False) : dOrV t u s Q := h
theorem r_notV (h : t s fun d s1 => match d with
    | .bl b => Q (.bl (!b)) s1
    | _ => False) : dNotV t s Q := h
theorem r_neg (h : t s fun d s1 => match d with
    | .int i => Q (.int (-i)) s1
    | _ => False) : dNeg t s Q := h
theorem r_par {i j : Nat} (h : r s fun ds s1 => match ds with
    | [a, b] => a.isSlot = false ∧ b.isSlot = false ∧ F.nx { s1 with sl := (s1.sl.set i (.fz a)).set j (.fz b) }
    | _ => False) : dPar i j r F s := h
theorem r_par3 {i j l : Nat} (h : r s fun ds s1 => match ds with
    | [a, b, c] => (a.isSlot = false ∧ b.isSlot = false ∧ c.isSlot = false) ∧ F.nx { s1 with sl := ((s1.sl.set i (.fz a)).set j (.fz b)).set l (.fz c) }
    | _ => False) : dPar3 i j l r F s := h
theorem r_gname {QS : DS → Prop} (h : QS { s with sl := s.sl.set i (.fz x) }) : dgName i x s QS := h
theorem r_callO {C : Ctr} {is : List Nat} (h : dCall C (fun s Q => r s fun ds s1 => rk s1 fun es s2 => Q (ord is (ds ++ es)) s2) s Q) : dCallO C is r rk s Q := h
/-- a call with plain arguments: what they are, then the promise -/
theorem r_call {C : Ctr} {ds : List D} {s1 : DS} (hra : ∀ R : List D → DS → Prop, R ds s1 → r s R) (hn : noSlots ds = true) (h : C ds s1.bud fun d b => Q d { s1 with bud := b }) : dCall C r s Q := dcall_go hra hn h
theorem r_if1 {A B : Prop} (h : A) : if true = true then A else B := h
theorem r_if0 {A B : Prop} (h : B) : if false = true then A else B := h
end
section
variable {P : Program} {w : World} {K : PySem.W.Frag} {mg : Str → Option Value} {base : Heap} {X : Cx} {e : Expr} {es : List Expr} {taa : TA} {ra : DA} {pos p : Pos} {C : Ctr} {k : Nat} {x : Str} {ps : List Str} {st : Stmt}
/-- a call in a comprehension: the room is that around it -/
theorem d_callX (G : Fn P w K mg base k x st ps C) (hr : Room k X.A) (hgd : X.A.guards = some []) (ha : PDA X (e :: es) taa ra) (hX : X.prog = P ∧ X.w = w ∧ X.K = K ∧ X.mg = mg ∧ X.base = base := by exact ⟨rfl, rfl, rfl, rfl, rfl⟩) (hg : Gl X x := by rfl) (hdb : (x == ("__debug__" : Str)) = false := by decide)
    (he : starEach (e :: es) X.env = (false, eval e X.env) :: starEach es X.env := by rfl) (hpl : (backTo pos (starEach es X.env)).any (·.1) = false := by rfl) : PD X (.Call (.Name x p) (e :: es) [] pos) (tCall (spC K C) [] E0 taa) (dCall C ra) := by
  obtain ⟨h1, h2, h3, h4, h5⟩ := hX
  subst h1 h2 h3 h4 h5
  exact d_call G hr hgd ha hg hdb he hpl
end
section
variable {P : Program} {w : World} {K : PySem.W.Frag} {mg : Str → Option Value} {base : Heap}
/-- a def by its body, the guards known, any promise -/
theorem FunS {x qual : Str} {st : Stmt} {f : Addr} {fd : FuncData} {N ps : List Str} {k : Nat} {sp : Sp} (F : Fun K x qual st f fd) (S : FnScope N ps (defScope st)) (len : ∀ vs H Q E, sp vs H Q E → vs.length = ps.length)
    (hb : ∀ (cdv : Value) (A : Around) (outer : List Env) (s : Shared) (H : Hp) (vs : List V) (Q : VK) (E : XK), Room k (A.deeper (PyProof.Rows.envOfC qual (defScope st) s.heap.objs.size f cdv)) → A.guards = some [] → sp vs H Q E →
      ∃ t, PSs (cxOf CX0 P w K mg base N qual (defScope st) f cdv A outer s H E) (defBody st) t ∧ t { nx := fun _ H' => Q .non H', rt := Q } (L2.start N vs) H) : FnOkG P w K mg base (k + 1) f fd ps sp := by
  obtain ⟨oc, od, kV, doc, pm, an, cdv, ct, osl, rfl, lk, hcd⟩ := F.ex
  exact fnG lk hcd S len fun A outer s H vs Q E hr hg h => hb cdv A outer s H vs Q E hr hg h
/-- what a law promises: true, from any script -/
def spLaw (K : PySem.W.Frag) : Sp := fun vs H Q _ => ∃ (a : Addr) (ns : List Int), vs = [.ref a] ∧ SqL K H a (ns.map V.int) ∧ ns.length ≤ 63 ∧ ∀ H', Q (.bl true) H'
theorem spLaw_len {K : PySem.W.Frag} : ∀ vs H Q E, spLaw K vs H Q E → vs.length = 1 := by
  rintro vs H Q E ⟨a, ns, rfl, _⟩
  rfl
theorem spDen_len {K : PySem.W.Frag} : ∀ vs H Q E, spDen K vs H Q E → vs.length = 1 := by
  rintro vs H Q E ⟨a, ns, rfl, _⟩
  rfl
/-- the first statement of a law draws its well; then the rest over data -/
theorem lawStart {N : List Str} {n : Nat} {H : Hp} {a : Addr} {ns : List Int} {E : Ends} {ts : TS} {t : DTS} (hN : N.length = n + 2) (hS : SqL K H a (ns.map V.int)) (hl : ns.length ≤ 63) (hE : ∀ H, E.rt (.bl true) H) (h : SndS K ts t)
    (q : t { nx := fun _ => False, rt := fun d _ => d = .bl true } ⟨.un :: .fz .paw :: List.replicate n .un, 1000000⟩) :
    tSeq (tAsg (tCall (spDen K) [] E0 (tCons (tVar 0) tNil)) (gName 1)) ts E (L2.start N [.ref a]) H := by
  obtain ⟨x, N1, rfl⟩ : ∃ x N1, N = x :: N1 := by
    cases N with
    | nil => cases hN
    | cons x N1 => exact ⟨x, N1, rfl⟩
  obtain ⟨y, N2, rfl⟩ : ∃ y N2, N1 = y :: N2 := by
    cases N1 with
    | nil => cases hN
    | cons x N1 => exact ⟨x, N1, rfl⟩
  refine ⟨_, rfl, a, ns, rfl, hS, hl, fun pa pl H' ms s0 h1 h2 ne hm e1 e2 => ?_⟩
  show ts E ((L2.start (x :: y :: N2) [.ref a]).set 1 (some (.ref pa))) H'
  have hN2 : N2.length = n := by
    simp only [List.length_cons] at hN
    omega
  refine lawRest (n := n) h ?_ ?_ hm e1 e2 ne hE q
  · rw [List.length_set]
    unfold L2.start
    simp only [List.length_append, List.length_map, List.length_replicate, List.length_cons, List.length_nil]
    omega
  · rw [List.getElem?_set_self]
    unfold L2.start
    simp only [List.length_append, List.length_map, List.length_replicate, List.length_cons, List.length_nil]
    omega
end
end DL


namespace DL
open PySem L2
/-! ### defs that ask for no text of an object: called anywhere -/
structure FnF (P : Program) (w : World) (K : PySem.W.Frag) (mg : Str → Option Value) (base : Heap) (k : Nat) (x : Str) (st : Stmt) (ps : List Str) (C : Ctr) : Prop where
  ex : ∃ f fd, Fun K x x st f fd ∧ FnOk P w K mg base CX0 k f fd ps (spC K C) ∧ mg x = some (.ref f) ∧ Binds K fd ps []
section
variable {P : Program} {w : World} {K : PySem.W.Frag} {mg : Str → Option Value} {base : Heap} {x : Str} {st : Stmt} {N ps : List Str} {k : Nat} {C : Ctr}
theorem FnF.fn (G : FnF P w K mg base k x st ps C) : Fn P w K mg base k x st ps C := by
  obtain ⟨f, fd, F, ok, hm, hb⟩ := G.ex
  exact ⟨f, fd, F, FnOk.g ok, hm, hb⟩
theorem fnFC (D : Dfn K mg x st ps) (S : FnScope N ps (defScope st)) (len : ∀ ds b Q, C ds b Q → ds.length = ps.length)
    (hbody : ∀ (f : Addr) (cdv : Value) (A : Around) (outer : List Env) (s : Shared) (H : Hp) (E : XK), Room k (A.deeper (PyProof.Rows.envOfC x (defScope st) s.heap.objs.size f cdv)) →
      ∃ ts t, PDSs (cxOf CX0 P w K mg base N x (defScope st) f cdv A outer s H E).nox (defBody st) ts t ∧ ∀ ds b Qd, C ds b Qd → t (endsC Qd) (startD N ds b)) : FnF P w K mg base (k + 1) x st ps C := by
  obtain ⟨f, fd, F, hm, hb⟩ := D.ex
  exact ⟨f, fd, F, FunC F S len fun cdv A outer s H E hr => hbody f cdv A outer s H E hr, hm, hb⟩
theorem fnF_ok (D : Dfn K mg x st ps) (h : ∀ (f : Addr) (fd : FuncData), Fun K x x st f fd → FnOk P w K mg base CX0 k f fd ps (spC K C)) : FnF P w K mg base k x st ps C := by
  obtain ⟨f, fd, F, hm, hb⟩ := D.ex
  exact ⟨f, fd, F, h f fd F, hm, hb⟩
end
section
variable {P : Program} {w : World} {K : PySem.W.Frag} {mg : Str → Option Value} {base : Heap} {X : Cx} {e o value : Expr} {es : List Expr} {te to tv : TE} {t u : DE} {taa tk : TA} {ra rk : DA} {pos pos' p : Pos} {C : Ctr} {k : Nat} {x : Str} {ps : List Str} {st : Stmt} {kws : List Keyword}
theorem pass0' {X : Cx} : Passes CX0 X E0 := fun _ _ _ _ _ _ _ h => h.elim
theorem d_callF (G : FnF P w K mg base k x st ps C) (hr : Room k X.A) (ha : PDA X (e :: es) taa ra) (hX : X.prog = P ∧ X.w = w ∧ X.K = K ∧ X.mg = mg ∧ X.base = base := by exact ⟨rfl, rfl, rfl, rfl, rfl⟩) (hg : Gl X x := by rfl) (hdb : (x == ("__debug__" : Str)) = false := by decide)
    (he : starEach (e :: es) X.env = (false, eval e X.env) :: starEach es X.env := by rfl) (hpl : (backTo pos (starEach es X.env)).any (·.1) = false := by rfl) : PD X (.Call (.Name x p) (e :: es) [] pos) (tCall (spC K C) [] E0 taa) (dCall C ra) := by
  obtain ⟨h1, h2, h3, h4, h5⟩ := hX
  subst h1 h2 h3 h4 h5
  obtain ⟨f, fd, Fu, F, hm, hb⟩ := G.ex
  exact ⟨pe_call F hr hg hm Fu.kp hb .nil pass0' ha.pa hdb he hpl, snd_call ha.snd⟩
/-! ### attributes -/
theorem look_reps {W : Wd} {f : Str} : ∀ {vs : List (Str × V)} {fs : List (Str × D)} {d : D}, vs.map (·.1) = fs.map (·.1) → Reps K W (vs.map (·.2)) (fs.map (·.2)) → fs.lookup f = some d → ∃ v, vs.lookup f = some v ∧ Rep K W v d
  | [], [], _, _, _, h => by cases h
  | [], _ :: _, _, h, _, _ => by cases h
  | _ :: _, [], _, h, _, _ => by cases h
  | (g, v) :: vs, (g', e) :: fs, d, hn, r, h => by
    have hn' : g :: vs.map (·.1) = g' :: fs.map (·.1) := hn
    injection hn' with h1 h2
    subst h1
    have r' : Reps K W (v :: vs.map (·.2)) (e :: fs.map (·.2)) := r
    cases r' with
    | cons rv rr =>
      unfold List.lookup at h ⊢
      cases q : f == g with
      | true =>
        rw [q] at h
        cases h
        exact ⟨v, rfl, rv⟩
      | false =>
        rw [q] at h
        exact look_reps h2 rr h
/-- the fields of an object, or of the one that a slot owns -/
def fldsOf (s : DS) : D → Option (Addr × List (Str × D))
  | .obj C fs => some (C, fs)
  | .slot i => match s.sl[i]? with
    | some (.ownI _ _ C fs) => some (C, fs)
    | _ => none
  | _ => none
theorem flds_spec {c : C0} {W : Wd} {σ : St} {s : DS} {v : V} {d : D} {C : Addr} {fs : List (Str × D)} (R : Rel K c W σ s) (r : RepT K W σ v d) (h : fldsOf s d = some (C, fs)) :
    ∃ a dx vs, v = .ref a ∧ W.H a = some (.ins C dx vs) ∧ vs.map (·.1) = fs.map (·.1) ∧ Reps K W (vs.map (·.2)) (fs.map (·.2)) := by
  cases d with
  | obj C' fs' =>
    cases h
    cases r with
    | obj h1 h2 h3 h4 => exact ⟨_, _, _, rfl, h1, h3, h4⟩
  | slot i =>
    have h' : (match s.sl[i]? with
      | some (.ownI _ _ C fs) => some (C, fs)
      | _ => none) = some (C, fs) := h
    cases q : s.sl[i]? with
    | none => rw [q] at h'; cases h'
    | some en =>
      rw [q] at h'
      cases en with
      | ownI LL DD C' fs' =>
        cases h'
        obtain ⟨l, dx, vs, g1, _, _, g4, g5, g6⟩ := R.ent i _ q
        have r' : σ[i]? = some (some v) := r
        rw [g1] at r'
        cases r'
        exact ⟨l, dx, vs, rfl, g4, g5.2, g6⟩
      | _ => cases h'
  | _ => cases h
def dFld (C : Addr) (f : Str) (t : DE) : DE := fun s Q => t s fun d s1 => match fldsOf s1 d with
  | some (C', fs) => C' = C ∧ match fs.lookup f with
    | some d => Q d s1
    | none => False
  | none => False
theorem d_fld {Ca : Addr} {f : Str} (hK : X.K = K) (c : Cls K Ca) (n : NoAttr K Ca f) (he : PD X e te t) (hb : attributeBase e f X.env (eval e X.env) = eval e X.env := by rfl) : PD X (.Attribute e f pos) (tFld K te f) (dFld Ca f t) := by
  subst hK
  refine ⟨pe_fld he.pe hb, fun c0 W σ s Qv Qd R h kq => ?_⟩
  refine he.snd c0 W σ s _ _ R h fun v W1 d s1 R1 p1 r1 q1 => ?_
  have q2 : match fldsOf s1 d with
    | some (C', fs) => C' = Ca ∧ match fs.lookup f with
      | some d => Qd d s1
      | none => False
    | none => False := q1
  cases e1 : fldsOf s1 d with
  | none => rw [e1] at q2; exact q2.elim
  | some cf =>
    obtain ⟨C', fs⟩ := cf
    rw [e1] at q2
    obtain ⟨rfl, q3⟩ := q2
    obtain ⟨a, dx, vs, rfl, g4, g5, g6⟩ := flds_spec R1 r1 e1
    cases e2 : fs.lookup f with
    | none => rw [e2] at q3; exact q3.elim
    | some y =>
      rw [e2] at q3
      obtain ⟨v, l1, rv⟩ := look_reps g5 g6 e2
      exact ⟨a, C', dx, vs, v, rfl, g4, c, n, l1, kq v W1 y s1 R1 p1 rv.t q3⟩
end
end DL

namespace DL
open PySem L2
/-! ### self.f = e, self the slot's own -/
def putD (f : Str) (d : D) : List (Str × D) → List (Str × D)
  | [] => [(f, d)]
  | (g, x) :: r => if g = f then (g, d) :: r else (g, x) :: putD f d r
section
variable {P : Program} {w : World} {K : PySem.W.Frag} {mg : Str → Option Value} {base : Heap} {X : Cx} {e o value : Expr} {es : List Expr} {te to tv : TE} {t u : DE} {taa tk : TA} {ra rk : DA} {pos pos' p : Pos} {C : Ctr} {k : Nat} {x : Str} {ps : List Str} {st : Stmt} {kws : List Keyword}
theorem put_reps {W : Wd} {f : Str} {v : V} {d : D} (rv : Rep K W v d) : ∀ {vs : List (Str × V)} {fs : List (Str × D)}, vs.map (·.1) = fs.map (·.1) → Reps K W (vs.map (·.2)) (fs.map (·.2)) →
    (putF f v vs).map (·.1) = (putD f d fs).map (·.1) ∧ Reps K W ((putF f v vs).map (·.2)) ((putD f d fs).map (·.2))
  | [], [], _, _ => ⟨rfl, .cons rv .nil⟩
  | [], _ :: _, h, _ => by cases h
  | _ :: _, [], h, _ => by cases h
  | (g, y) :: vs, (g', z) :: fs, hn, r => by
    have hn' : g :: vs.map (·.1) = g' :: fs.map (·.1) := hn
    injection hn' with h1 h2
    subst h1
    have r' : Reps K W (y :: vs.map (·.2)) (z :: fs.map (·.2)) := r
    cases r' with
    | cons ry rr =>
      unfold putF putD
      by_cases q : g = f
      · rw [if_pos q, if_pos q]
        exact ⟨hn, .cons rv rr⟩
      · rw [if_neg q, if_neg q]
        obtain ⟨a, b⟩ := put_reps (f := f) rv h2 rr
        exact ⟨by show g :: _ = g :: _; rw [a], .cons ry b⟩
def dSetFld (Ca : Addr) (f : Str) (i : Nat) (t : DE) : DTS := fun F s => t s fun d s1 => d.isSlot = false ∧ match s1.sl[i]? with
  | some (.ownI lx dxx C' fs) => C' = Ca ∧ fs.length < 1000 ∧ F.nx { s1 with sl := s1.sl.set i (.ownI lx dxx Ca (putD f d fs)) }
  | _ => False
theorem ds_fld {Ca : Addr} {f y : Str} {i : Nat} {py : Pos} (hK : X.K = K) (c : Cls K Ca) (n : NoAttr K Ca f) (hv : PD X value tv t) (hN : X.N[i]? = some y := by rfl) (hvis : Vis X.env.scope y := by first | exact Or.inl rfl | exact Or.inr (Or.inl rfl) | exact Or.inr (Or.inr rfl))
    (hd : (y == ("__debug__" : Str)) = false := by decide) (hcd : (y == ("__classdict__" : Str)) = false := by decide) (hs : swapsWith value (some (.Attribute (.Name y py) f pos')) pos.line X.env = pure false := by rfl) :
    PDS X (.Assign [.Attribute (.Name y py) f pos'] value pos) (sFld K (tVar i) tv f) (dSetFld Ca f i t) := by
  subst hK
  refine ⟨ps_fld (pe_var hN hvis hd hcd) hv.pe hs, fun c0 W σ s E F R Cm h => ?_⟩
  refine hv.snd c0 W σ s _ _ R h fun v W1 d s1 R1 p1 r1 q1 => ?_
  obtain ⟨nd, q2⟩ := q1
  cases e1 : s1.sl[i]? with
  | none => rw [e1] at q2; exact q2.elim
  | some en =>
    rw [e1] at q2
    cases en with
    | ownI lx dxx C' fs =>
      obtain ⟨rfl, hl, q3⟩ := q2
      have ow := R1.ent i _ e1
      obtain ⟨l, dx, vs, g1, g2, g3, g4, ⟨⟨g7, g8⟩, g5⟩, g6⟩ := ow
      have own : Owns s1 σ i l := ⟨⟨_, e1, rfl⟩, g1⟩
      have hlen : vs.length = fs.length := by
        have := congrArg List.length g5
        rwa [List.length_map, List.length_map] at this
      refine ⟨.ref l, g1, l, C', dx, vs, rfl, g4, c, n, by rw [hlen]; exact hl, ?_⟩
      obtain ⟨a, b⟩ := put_reps (f := f) (r1.to nd) g5 g6
      have P : Pr W1 ⟨W1.M, upd W1.H l (.ins C' dx (putF f v vs)), W1.pa⟩ := Pr.mut g2 g4 fun z => z
      have R3 : Rel X.K c0 ⟨W1.M, upd W1.H l (.ins C' dx (putF f v vs)), W1.pa⟩ σ { s1 with sl := s1.sl.set i (.ownI lx dxx C' (putD f d fs)) } :=
        R1.write (.ownI lx dxx C' (putD f d fs)) own (own.npl R1) ⟨l, dx, putF f v vs, g1, g2, g3, upd_same, ⟨⟨g7, g8⟩, a⟩, b.mono P⟩ rfl
      exact Cm.nx _ _ _ R3 (p1.trans P) q3
    | _ => exact q2.elim
/-! ### what an __init__ promises: the fields behind it -/
abbrev CtrI := List D → Nat → (List (Str × D) → Nat → Prop) → Prop
def spI (K : PySem.W.Frag) (Ca : Addr) (C : CtrI) : Sp := fun vs H Q _ => ∃ (H1 : Hp) (x dx : Addr) (ws : List V) (M : Addr → Prop) (pa pl : Addr) (ds : List D) (b : Nat) (Qd : List (Str × D) → Nat → Prop),
  vs = .ref x :: ws ∧ H = upd (upd H1 dx (.own x)) x (.ins Ca dx []) ∧ H1 x = none ∧ H1 dx = none ∧ dx ≠ x ∧
  Reps K ⟨M, H1, pa⟩ ws ds ∧ M pa ∧ ¬ M pl ∧ (∀ a, M a → H1 a ≠ none) ∧ PawOk K pa pl b H1 ∧ C ds b Qd ∧
  ∀ H' vs' fs b', Kept pa H1 H' → PawOk K pa pl b' H' → H' x = some (.ins Ca dx vs') → vs'.map (·.1) = fs.map (·.1) → Reps K ⟨M, H', pa⟩ (vs'.map (·.2)) (fs.map (·.2)) → Qd fs b' → Q .non H'
def nxI (x dx Ca : Addr) (Q : List (Str × D) → Nat → Prop) (s : DS) : Prop := match s.sl[0]? with
  | some (EV.ownI x' dx' C' fs) => (x' = x ∧ dx' = dx ∧ C' = Ca) ∧ Q fs s.bud
  | _ => False
def endsI (x dx Ca : Addr) (Q : List (Str × D) → Nat → Prop) : DEnds := { nx := nxI x dx Ca Q, rt := fun _ _ => False }
def startI (x dx Ca : Addr) (N : List Str) (ds : List D) (b : Nat) : DS := ⟨.ownI x dx Ca [] :: (ds.map EV.fz ++ List.replicate (N.length - 1 - ds.length) .un), b⟩
theorem okI_len {Ca : Addr} {C : CtrI} {n : Nat} (len : ∀ ds b Q, C ds b Q → ds.length + 1 = n) : ∀ vs H Q E, spI K Ca C vs H Q E → vs.length = n := by
  rintro vs H Q E ⟨H1, x, dx, ws, M, pa, pl, ds, b, Qd, rfl, _, _, _, _, r, _, _, _, _, hc, _⟩
  rw [List.length_cons, r.length]
  exact len _ _ _ hc
theorem rel_startI {Ca : Addr} {N : List Str} {M : Addr → Prop} {H1 : Hp} {x dx pa pl : Addr} {ws : List V} {ds : List D} {b : Nat} (hx : H1 x = none) (hdx : H1 dx = none) (ne : dx ≠ x) (r : Reps K ⟨M, H1, pa⟩ ws ds) (mp : M pa) (npl : ¬ M pl) (m0 : ∀ a, M a → H1 a ≠ none) (pw : PawOk K pa pl b H1) (hl : ds.length + 1 ≤ N.length) :
    Rel K ⟨M, H1, pa, pl, fun a => a = pa⟩ ⟨fun a => M a ∨ a = x, upd (upd H1 dx (.own x)) x (.ins Ca dx []), pa⟩ (L2.start N (.ref x :: ws)) (startI x dx Ca N ds b) := by
  have S : Same H1 (upd (upd H1 dx (.own x)) x (.ins Ca dx [])) := fun a o e => by
    rw [upd_ne (ne_of_none e hx), upd_ne (ne_of_none e hdx)]
    exact e
  have P : Pr ⟨M, H1, pa⟩ ⟨fun a => M a ∨ a = x, upd (upd H1 dx (.own x)) x (.ins Ca dx []), pa⟩ := ⟨fun a o h _ => ⟨S a o h, fun n z => z.elim n fun q => by
    subst q
    have h' : H1 a = some o := h
    rw [hx] at h'
    cases h'⟩, rfl⟩
  have hlen := r.length
  have sl_or : ∀ (i : Nat) (e : EV), (startI x dx Ca N ds b).sl[i]? = some e → (i = 0 ∧ e = .ownI x dx Ca []) ∨ e = .un ∨ ∃ j d, i = j + 1 ∧ e = .fz d ∧ ds[j]? = some d := by
    intro i e h
    cases i with
    | zero =>
      have h' : some (EV.ownI x dx Ca []) = some e := h
      cases h'
      exact .inl ⟨rfl, rfl⟩
    | succ j =>
      have h' : (ds.map EV.fz ++ List.replicate (N.length - 1 - ds.length) EV.un)[j]? = some e := h
      by_cases hi : j < ds.length
      · rw [List.getElem?_append_left (by simpa using hi), List.getElem?_map] at h'
        cases q : ds[j]? with
        | none => rw [q] at h'; cases h'
        | some d =>
          rw [q] at h'
          cases h'
          exact .inr (.inr ⟨j, d, rfl, rfl, q⟩)
      · rw [List.getElem?_append_right (by simpa using hi), List.getElem?_replicate] at h'
        split at h'
        · cases h'; exact .inr (.inl rfl)
        · cases h'
  refine ⟨?_, m0, rfl, fun i e h => ?_, fun i j l a b' => ?_, fun a h => .inl h, fun a o h _ => S a o h, fun a h => ?_, fun a h z => ?_, fun a h => ?_, fun a h => ?_, rfl, .inl mp, fun z => ?_, pw.same S⟩
  · show (EV.ownI x dx Ca [] :: (ds.map EV.fz ++ List.replicate (N.length - 1 - ds.length) EV.un)).length = (L2.start N (.ref x :: ws)).length
    unfold L2.start
    simp only [List.length_cons, List.length_append, List.length_map, List.length_replicate]
    omega
  · rcases sl_or i e h with ⟨rfl, rfl⟩ | rfl | ⟨j, d, rfl, rfl, hd⟩
    · exact ⟨x, dx, [], rfl, .inr rfl, ⟨fun z => m0 pa mp ((show x = pa from z) ▸ hx), .inl hx⟩, upd_same, ⟨⟨rfl, rfl⟩, rfl⟩, .nil⟩
    · trivial
    · obtain ⟨v, hv, rv⟩ := r.get hd
      refine ⟨v, ?_, rv.mono P⟩
      unfold L2.start
      show ((V.ref x :: ws).map some ++ _)[j + 1]? = _
      rw [List.getElem?_append_left (by simpa using (List.getElem?_eq_some_iff.mp hv).1), List.getElem?_map, List.getElem?_cons_succ, hv]
      rfl
  · obtain ⟨⟨e, h1, h2⟩, _⟩ := a
    obtain ⟨⟨e', h1', h2'⟩, _⟩ := b'
    rcases sl_or i e h1 with ⟨q, _⟩ | q | ⟨_, _, _, q, _⟩
    · rcases sl_or j e' h1' with ⟨q', _⟩ | q' | ⟨_, _, _, q', _⟩
      · rw [q, q']
      · subst q'; cases h2'
      · subst q'; cases h2'
    · subst q; cases h2
    · subst q; cases h2
  · rcases h with h | h
    · cases e : H1 a with
      | none => exact absurd e (m0 a h)
      | some o => exact ⟨o, S a o e⟩
    · subst h
      exact ⟨_, upd_same⟩
  · rcases z with z | z
    · exact z
    · subst z
      exact absurd hx h
  · have h' : a = pa := h
    rw [h']
    exact .inl mp
  · have h' : a = pa := h
    rw [h']
    exact m0 pa mp
  · rcases z with z | z
    · exact npl z
    · subst z
      obtain ⟨_, _, _, _, h2, _⟩ := pw
      rw [hx] at h2
      cases h2
end
section
variable {P : Program} {w : World} {K : PySem.W.Frag} {mg : Str → Option Value} {base : Heap}
theorem FunI {x qual : Str} {st : Stmt} {f : Addr} {fd : FuncData} {N ps : List Str} {k : Nat} {Ca : Addr} {C : CtrI} (F : Fun K x qual st f fd) (S : FnScope N ps (defScope st)) (len : ∀ ds b Q, C ds b Q → ds.length + 1 = ps.length)
    (hbody : ∀ (cdv : Value) (A : Around) (outer : List Env) (s : Shared) (H : Hp) (E : XK), Room k (A.deeper (PyProof.Rows.envOfC qual (defScope st) s.heap.objs.size f cdv)) →
      ∃ ts t, PDSs (cxOf CX0 P w K mg base N qual (defScope st) f cdv A outer s H E).nox (defBody st) ts t ∧ ∀ ds b Qd, C ds b Qd → ∀ x dx, t (endsI x dx Ca Qd) (startI x dx Ca N ds b)) : FnOk P w K mg base CX0 (k + 1) f fd ps (spI K Ca C) := by
  refine F.ok S (okI_len len) fun cdv A outer s H vs Q E hr h => ?_
  obtain ⟨H1, x, dx, ws, M, pa, pl, ds, b, Qd, rfl, rfl, hx, hdx, ne, r, mp, npl, m0, pw, hc, hk⟩ := h
  obtain ⟨ts, t, hp, ht⟩ := hbody cdv A outer s (upd (upd H1 dx (.own x)) x (.ins Ca dx [])) E hr
  refine ⟨ts, hp.ps, ?_⟩
  have hpl : ds.length + 1 ≤ N.length := by
    rw [len _ _ _ hc]
    have e := congrArg List.length S.pre
    rw [List.length_take] at e
    omega
  refine hp.snd ⟨M, H1, pa, pl, fun a => a = pa⟩ _ (L2.start N (.ref x :: ws)) (startI x dx Ca N ds b) _ (endsI x dx Ca Qd) (rel_startI hx hdx ne r mp npl m0 pw hpl) ⟨fun W' σ' s' R _ q => ?_, fun _ _ _ _ _ _ _ _ z => z.elim, fun _ _ _ _ _ z => z.elim, fun _ _ _ _ _ z => z.elim⟩ (ht ds b Qd hc x dx)
  have q' : match s'.sl[0]? with
    | some (EV.ownI x' dx' C' fs) => (x' = x ∧ dx' = dx ∧ C' = Ca) ∧ Qd fs s'.bud
    | _ => False := q
  cases e1 : s'.sl[0]? with
  | none => rw [e1] at q'; exact q'.elim
  | some en =>
    rw [e1] at q'
    cases en with
    | ownI lx dxx C' fs =>
      obtain ⟨⟨rfl, rfl, rfl⟩, q2⟩ := q'
      obtain ⟨l, dx', vs, g1, g2, g3, g4, ⟨⟨rfl, rfl⟩, g5⟩, g6⟩ := R.ent 0 _ e1
      have P : Pr W' ⟨M, W'.H, pa⟩ := Pr.less R.sub R.wpa
      exact hk W'.H vs fs s'.bud (fun a o h n => R.kp a o h n) R.paw g4 g5 (g6.mono P) q2
    | _ => exact q'.elim
end
end DL

namespace DL
open PySem L2
/-! ### C(e, ..): a new object, data from then on -/
structure MkF (P : Program) (w : World) (K : PySem.W.Frag) (mg : Str → Option Value) (base : Heap) (k : Nat) (x qual : Str) (Ca : Addr) (st : Stmt) (ps : List Str) (C : CtrI) : Prop where
  ex : ∃ f fd, Fun K "__init__" qual st f fd ∧ FnOk P w K mg base CX0 k f fd ps (spI K Ca C) ∧ mg x = some (.ref Ca) ∧ Mk K Ca f ∧ Binds K fd ps []
def dMake (Ca : Addr) (C : CtrI) (ra : DA) : DE := fun s Q => ra s fun ds s1 => noSlots ds = true ∧ C ds s1.bud fun fs b => Q (.obj Ca fs) { s1 with bud := b }
section
variable {P : Program} {w : World} {K : PySem.W.Frag} {mg : Str → Option Value} {base : Heap} {X : Cx} {e o value : Expr} {es : List Expr} {te to tv : TE} {t u : DE} {taa tk : TA} {ra rk : DA} {pos pos' p apos : Pos} {k : Nat} {x qual m : Str} {ps : List Str} {st : Stmt} {kws : List Keyword}
theorem snd_make {Ca : Addr} {C : CtrI} {E : XK} (ha : SndA K taa ra) : SndE K (tMake Ca (spI K Ca C) [] E taa) (dMake Ca C ra) := by
  intro c W σ s Qv Qd R hq kq
  refine ha c W σ s _ _ R hq fun vs W1 ds s1 R1 p1 r1 q1 => ?_
  obtain ⟨hn, q1⟩ := q1
  intro y dy hy hdy ne
  rw [List.append_nil]
  refine ⟨W1.H, y, dy, vs, W1.M, c.pa, c.pl, ds, s1.bud, _, rfl, rfl, hy, hdy, ne, ?_, R1.mp, R1.npl, fun a h z => ?_, R1.paw, q1, fun H' vs' fs b' hk hp hx hnm rv q => ⟨rfl, ?_⟩⟩
  · have h := r1.to hn
    have e3 : W1.pa = c.pa := R1.wpa
    rw [← e3]
    exact h
  · obtain ⟨o, e⟩ := R1.there a h
    rw [e] at z
    cases z
  · obtain ⟨R2, P2⟩ := R1.after hk hp
    have e3 : W1.pa = c.pa := R1.wpa
    refine kq (.ref y) ⟨W1.M, H', W1.pa⟩ (.obj Ca fs) { s1 with bud := b' } R2 (p1.trans P2) (Rep.obj (vs := vs') hx (fun z => ?_) hnm ?_).t q
    · obtain ⟨o, e⟩ := R1.there y z
      rw [hy] at e
      cases e
    · rw [e3]
      exact rv
theorem d_make {Ca : Addr} {C : CtrI} (G : MkF P w K mg base k x qual Ca st ps C) (hr : Room (k + 1) X.A) (ha : PDA X (e :: es) taa ra) (hX : X.prog = P ∧ X.w = w ∧ X.K = K ∧ X.mg = mg ∧ X.base = base := by exact ⟨rfl, rfl, rfl, rfl, rfl⟩) (hg : Gl X x := by rfl) (hdb : (x == ("__debug__" : Str)) = false := by decide)
    (he : starEach (e :: es) X.env = (false, eval e X.env) :: starEach es X.env := by rfl) (hpl : (backTo pos (starEach es X.env)).any (·.1) = false := by rfl) : PD X (.Call (.Name x p) (e :: es) [] pos) (tMake Ca (spI K Ca C) [] E0 taa) (dMake Ca C ra) := by
  obtain ⟨h1, h2, h3, h4, h5⟩ := hX
  subst h1 h2 h3 h4 h5
  obtain ⟨f, fd, Fu, F, hm, M, hb⟩ := G.ex
  exact ⟨pe_make M F hr hg hm hb .nil pass0' ha.pa hdb he hpl, snd_make ha.snd⟩
/-! ### o.m(e, ..), o data -/
structure MeF (P : Program) (w : World) (K : PySem.W.Frag) (mg : Str → Option Value) (base : Heap) (k : Nat) (m qual : Str) (Ca : Addr) (st : Stmt) (ps : List Str) (C : Ctr) : Prop where
  ex : ∃ f fd, Fun K m qual st f fd ∧ FnOk P w K mg base CX0 k f fd ps (spC K C) ∧ Meth K Ca m f ∧ Binds K fd ps []
theorem look_none {W : Wd} {f : Str} : ∀ {vs : List (Str × V)} {fs : List (Str × D)}, vs.map (·.1) = fs.map (·.1) → fs.lookup f = none → vs.lookup f = none
  | [], [], _, _ => rfl
  | [], _ :: _, h, _ => by cases h
  | _ :: _, [], h, _ => by cases h
  | (g, v) :: vs, (g', e) :: fs, hn, h => by
    have hn' : g :: vs.map (·.1) = g' :: fs.map (·.1) := hn
    injection hn' with h1 h2
    subst h1
    unfold List.lookup at h ⊢
    cases q : f == g with
    | true => rw [q] at h; cases h
    | false =>
      rw [q] at h
      exact look_none (W := W) h2 h
def dSelf (Ca : Addr) (m : Str) (t : DE) (ra : DA) : DA := fun s Q => t s fun d s1 => match d with
  | .obj C' fs => (C' = Ca ∧ fs.lookup m = none) ∧ ra s1 fun ds s2 => Q (.obj C' fs :: ds) s2
  | _ => False
def tSelf (Ca : Addr) (m : Str) (ta : TE) (t : TA) : TA := fun σ H Q => ta σ H fun x H1 => ∃ a dx fs, x = .ref a ∧ H1 a = some (.ins Ca dx fs) ∧ fs.lookup m = none ∧ t σ H1 fun vs H2 => Q (x :: vs) H2
theorem snd_self {Ca : Addr} (ho : SndE K to t) (ha : SndA K taa ra) : SndA K (tSelf Ca m to taa) (dSelf Ca m t ra) := by
  intro c W σ s Qv Qd R hq kq
  refine ho c W σ s _ _ R hq fun v W1 d s1 R1 p1 r1 q1 => ?_
  cases d with
  | obj C' fs =>
    obtain ⟨⟨rfl, hl⟩, q2⟩ := q1
    have r1' : Rep K W1 v (.obj C' fs) := r1
    cases r1' with
    | obj h1 h2 h3 h4 =>
      refine ⟨_, _, _, rfl, h1, look_none (W := W1) h3 hl, ha c W1 σ s1 _ _ R1 q2 fun vs W2 ds s2 R2 p2 r2 q3 => ?_⟩
      exact kq _ W2 _ s2 R2 (p1.trans p2) (.cons (r1.mono p2) r2) q3
  | _ => exact q1.elim
def dMeth (Ca : Addr) (m : Str) (C : Ctr) (t : DE) (ra : DA) : DE := dCall C (dSelf Ca m t ra)
theorem d_meth {pl : Sem Bool} {Ca : Addr} {C : Ctr} (G : MeF P w K mg base k m qual Ca st ps C) (c : Cls K Ca) (hr : Room k X.A) (ho : PD X o to t) (ha : PDA X (e :: es) taa ra) (hX : X.prog = P ∧ X.w = w ∧ X.K = K ∧ X.mg = mg ∧ X.base = base := by exact ⟨rfl, rfl, rfl, rfl, rfl⟩)
    (hst : starEach (e :: es) X.env = (false, eval e X.env) :: starEach es X.env := by rfl) (hpl : (backTo pos (starEach es X.env)).any (·.1) = false := by rfl)
    (ht : eval (.Call (.Attribute o m apos) (e :: es) [] pos) X.env = (do let ov ← eval o X.env; standAt apos.atName; let (f, first) ← holding [ov] (getMethod ov m pl); callWith pos f first (backTo pos (starEach (e :: es) X.env)) (backToKw pos (keywordEach [] X.env))) := by rfl) :
    PD X (.Call (.Attribute o m apos) (e :: es) [] pos) (tMeth Ca m (spC K C) [] E0 to taa) (dMeth Ca m C t ra) := by
  obtain ⟨h1, h2, h3, h4, h5⟩ := hX
  subst h1 h2 h3 h4 h5
  obtain ⟨f, fd, Fu, F, M, hb⟩ := G.ex
  exact ⟨pe_meth ho.pe c M F hr hb .nil pass0' ha.pa hst hpl ht, snd_call (snd_self ho.snd ha.snd)⟩
theorem d_meth0 {pl : Sem Bool} {Ca : Addr} {C : Ctr} (G : MeF P w K mg base k m qual Ca st ps C) (c : Cls K Ca) (hr : Room k X.A) (ho : PD X o to t) (hX : X.prog = P ∧ X.w = w ∧ X.K = K ∧ X.mg = mg ∧ X.base = base := by exact ⟨rfl, rfl, rfl, rfl, rfl⟩)
    (ht : eval (.Call (.Attribute o m apos) [] [] pos) X.env = (do let ov ← eval o X.env; standAt apos.atName; let (f, first) ← holding [ov] (getMethod ov m pl); callWith pos f first (backTo pos (starEach [] X.env)) (backToKw pos (keywordEach [] X.env))) := by rfl) :
    PD X (.Call (.Attribute o m apos) [] [] pos) (tMeth Ca m (spC K C) [] E0 to tNil) (dMeth Ca m C t dNil) := by
  obtain ⟨h1, h2, h3, h4, h5⟩ := hX
  subst h1 h2 h3 h4 h5
  obtain ⟨f, fd, Fu, F, M, hb⟩ := G.ex
  exact ⟨pe_meth0 ho.pe c M F hr hb .nil pass0' ht, snd_call (snd_self ho.snd (fun c W σ s Qv Qd R h k => k [] W [] s R (Pr.refl _) .nil h))⟩
end
end DL

/-! DX: own errors over the hand layer: super().__init__(..) in their __init__, made as values, raised, caught. -/
namespace DX
open PySem PySem.Spec PyProof.Rows L2 NdefX
section
variable {X : Cx} {pins : List (Addr × Obj)} {σ : L2.St} {H : Hp} {s : Shared} {a C D u : Addr} {us : List Value} {Q : Value → Shared → Prop} {E : Value → Shared → Prop} {A : Around}
/-- ValueError.__init__ bound to an error that is being made, called -/
theorem call_mw (T : OexC X.K C) (I : Inv X pins σ H s) (e : H a = some (exo a C none)) (hu : s.heap.get? u = some (PySem.W.kxs_mw "ValueError.__init__" a)) (hl : us.length ≤ sizeLine) (h : ∀ s', Inv X pins σ H s' → Q .none s') :
    wpAny (model X.prog X.w) A (call (.ref u) us) Q E s := by
  obtain ⟨nm, q, N, bs, bm, sn, sub, ab, col, dd, k0, k1, k2, k3, k5, hC, hbm⟩ := T.cls
  obtain ⟨t1, ho⟩ := exo_at I.hok e
  have hCh := I.kIn _ _ hC
  have fin : ∀ h', (∀ b o, b ≠ a → s.heap.get? b = some o → h'.get? b = some o) → h'.get? a = some ({ cls := .ref C, dict := none, data := .fields #[.ref s.heap.objs.size, .none, .none, .none, .bool false, .none] } : Obj) → Q .none { s with heap := h' } := fun h' k hx => by
    have J := I.write (t' := s.toks) (x := a) (e := a) (o := exo a C none) (by rw [e]; exact True.intro) (.inl rfl) k ⟨_, hx⟩ (exo_ok hx)
    have eu : upd H a (exo a C none) = H := by
      funext b
      by_cases hb : b = a
      · rw [hb, upd_same, e]
      · rw [upd_ne hb]
    rw [eu] at J
    exact h _ J
  obtain ⟨hh, g, d, tk, os⟩ := s
  refine wpAny_call (codeAny_of_tree ?_)
  show wpAny _ A.in1 (callAny (.ref u) ⟨us, []⟩) _ _ _
  simp only [callAny]
  refine wpAny_bind (wpAny_load hu ?_)
  simp only [PySem.W.kxs_mw, show (Value.type "method-wrapper" == Value.type "method" || Value.type "method-wrapper" == Value.type "builtin_function_or_method" || Value.type "method-wrapper" == Value.type "method-wrapper") = true by decide, if_true]
  refine PySem.W.KFB.if_so (by decide) ?_
  refine wpAny_bind (PySem.W.check_bound_init F.excBase_ValueError.toExcCallFacts hCh ho rfl ?_)
  refine wpAny_bind (wpAny_pure (wpAny_pure ?_))
  refine ⟨plainId_quiet F.excBase_ValueError.init.plain _, codeAny_builtin F.excBase_ValueError.initEntry ?_⟩
  exact PySem.W.exc_init_tree (cls := .ref C) (t0 := t1) (dv := none) (c2 := .none) (c3 := .none) (b4 := .bool false) ho hl fun h' k e' _ => fin h' k e'
/-- what super() within a method of D says of an error of the class C -/
structure SupC (K : PySem.W.Frag) (C D : Addr) : Prop where
  sub : PySem.W.mroIn K C (.ref D) = some true
  sup : PySem.W.ks_superIn K C D "__init__" = some (some (.builtin "ValueError.__init__"))
  ve : PySem.W.subIn K (.ref C) (.type "ValueError") = some true
  opq : PySem.W.nsIn K cStatics "thirdparty.any" = some none
/-- the class D, its code's and its function's record, for a method that runs -/
structure SupM (X : Cx) (D : Addr) : Prop where
  f : ∃ (f : Addr) (oc : Value) (od : Option Addr) (fd : FuncData) (osl : Array (Option Value)) (ar : Arg), X.env.func = some f ∧ X.K.lookup f = some ⟨oc, od, .func fd, osl⟩ ∧ (fd.params.posonlyargs ++ fd.params.args).head? = some ar ∧ ar.arg = "self"
  c : ∃ (cda : Addr) (ccl : Value) (cdd : Option Addr) (vs : Array Value) (ccs : Array (Option Value)) (file : Str) (tf : Tok), X.env.code = .ref cda ∧ X.K.lookup cda = some ⟨ccl, cdd, .fields vs, ccs⟩ ∧ vs[2]? = some (.str file tf) ∧ ((X.prog.main.file : Str) == file) = true
  d : ∃ cdD : ClassData, PySem.W.clsIn X.K D = some cdD
  ks : X.env.kindOf "super" = some .globalImplicit
  kc : X.env.kindOf "__class__" = some .free
  mg : X.mg "super" = none
  top : (X.prog.main.scope.names.lookup ("super" : Str)).isSome = false
theorem ks_free {env : Env} (h : env.kindOf "__class__" = some .free) : env.scope.names.lookup ("__class__" : Str) = some NameKind.free := h
/-- super() in a method: a new object; the bound __init__: another -/
theorem super_ok {body : List Stmt} {p0 p1 : Pos} {whole : Sem Value} {pl : Sem Bool} {j : Nat} {Q : Value × List Value → Shared → Prop} (M : SupM X D) (S : SupC X.K C D) (I : Inv X pins σ H s) (hf0 : X.N[0]? = some ("self" : Str)) (h0 : σ[0]? = some (some (.ref a)))
    (hv : Vis X.env.scope "self") (hj : X.N[j]? = some ("__class__" : Str)) (hd : σ[j]? = some (some (.ref D))) (e : H a = some (exo a C none))
    (h : ∀ u s', Inv X ((u, PySem.W.kxs_mw "ValueError.__init__" a) :: pins) σ H s' → Q (.ref u, []) s') :
    PySem.wpAt (model X.prog X.w) A (.func body X.env) (attributeBase (.Call (.Name "super" p0) [] [] p1) "__init__" X.env whole) (fun ov s1 => wpAny (model X.prog X.w) A (getMethod ov "__init__" pl) Q E s1) E s := by
  obtain ⟨f, oc, od, fd, osl, ar, hfu, hf, hp, har⟩ := M.f
  obtain ⟨cda, ccl, cdd, vs, ccs, file, tf, hco, hcode, hvs, hfile⟩ := M.c
  obtain ⟨cdD, hD⟩ := M.d
  have KI := I.kIn
  refine PySem.ks_wpAt_super_base M.ks M.kc (by decide) hfu (KI _ _ hf) rfl hp hco (KI _ _ hcode) rfl hvs hfile M.top ?_
  obtain ⟨mb, hb1, hb2⟩ := I.mod.blt
  refine PySem.W.ks_loadName_global I.ok.kind M.ks (Calls.loadGlobal_builtin (by rw [I.ok.glob]; exact I.mod.glob.keeps I.bk) M.mg (by rw [I.ok.blt]; exact hb1.keeps I.bk) ((hb2 "super" (by decide)).trans (by decide +kernel)) ⟨rfl, ?_⟩)
  obtain ⟨m, hn, hl⟩ := I.loc
  obtain ⟨u1, r1, l1⟩ := hl j "__class__" (.ref D) hj hd (.inr (.inr (ks_free M.kc)))
  obtain rfl : u1 = Value.ref D := r1
  have lookload : ∀ {x : Str} {v : Value} {Q : Value → Shared → Prop}, Look X.env s.heap m x v → (x == ("__classdict__" : Str)) = false → Q v s → wpAny (model X.prog X.w) A (loadName X.env x) Q E s := by
    intro x v Q l hcd q
    rcases l with ⟨hk, hm⟩ | ⟨hk, c, hc, hcell⟩
    · exact wpAny_loadName_local I.ok.kind hk hn hm q
    · rcases hk with hk | hk
      · exact wpAny_loadName_cell I.ok.kind hk hc hcell q
      · exact wpAny_loadName_free I.ok.kind hk hc hcell q hcd
  refine lookload l1 (by decide) ?_
  rw [har]
  obtain ⟨u2, r2, l2⟩ := hl 0 "self" (.ref a) hf0 h0 hv
  obtain rfl : u2 = Value.ref a := r2
  refine lookload l2 (by decide) ?_
  obtain ⟨t1, ho⟩ := exo_at I.hok e
  obtain ⟨oD, hD1, hD2⟩ : ∃ oD, s.heap.get? D = some oD ∧ oD.data = .cls cdD := by
    unfold PySem.W.clsIn at hD
    split at hD
    · rename_i c d cd' sl ho'
      cases hD
      exact ⟨_, KI _ _ ho', rfl⟩
    · cases hD
  obtain ⟨hh, g, d, t, os⟩ := s
  refine PySem.ks_wpAny_isType_cls hD1 hD2 ⟨rfl, ?_⟩
  refine PySem.ks_wpAny_call_super hD1 hD2 ho rfl (fun c e => by cases e) (PySem.W.looks_mroIn KI S.sub) (fun h' e' k => ?_)
  have I2 : Inv X pins σ H ⟨h', g, d, t, os⟩ := I.kept (t' := t) k
  cases hc : PySem.W.clsIn X.K C with
  | none =>
    have z := S.sup
    unfold PySem.W.ks_superIn at z
    rw [hc] at z
    cases z
  | some cd =>
    have z := S.sup
    unfold PySem.W.ks_superIn at z
    rw [hc] at z
    have z : PySem.W.alongIn X.K "__init__" ((cd.mro.dropWhile (· != .ref D)).drop 1) = some (some (.builtin "ValueError.__init__")) := z
    have IA : PySem.W.InstAt h' a { cls := .ref C, dict := none, data := .fields #[.ref t1, .none, .none, .none, .bool false, .none] } C none := ⟨k _ _ ho, rfl, rfl, trivial⟩
    refine PySem.W.kxs_getMethod PySem.W.kxs_ValueError e' (PySem.W.looks_opaque I2.kIn S.opq) (l₀ := cd.mro) ?_ rfl I2.kIn z (IA.type.andThen (PySem.W.looks_subIn I2.kIn S.ve)) (PySem.W.ks_ne I2.kIn IA hc) (by decide) ?_
    · exact fun A Q E s k q => wpAny_bind ((PySem.W.looks_clsIn I2.kIn hc) A _ E s k (wpAny_pure q))
    · have I3 : Inv X pins σ H ⟨h'.push (PySem.W.kxs_mw "ValueError.__init__" a), g, d, t + 1, os⟩ := I2.kept (t' := t + 1) fun b o e => Heap.get?_push_of_some _ e
      refine h _ _ (I3.pins_of fun p hp => ?_)
      rcases List.mem_cons.mp hp with rfl | hp
      · refine ⟨Heap.get?_push_size h' rfl, I2.hok.fresh (Nat.le_refl _), Nat.ne_of_gt I2.lt, I2.nofs (Nat.le_refl _), fun v => by intro z; cases z⟩
      · exact I3.pin p (List.mem_append_right _ hp)
end
end DX

namespace DX
open PySem PySem.Spec PyProof.Rows L2 NdefX
/-- an __init__ of a class at D, that says super() -/
structure InitF (K : PySem.W.Frag) (P : Program) (qual : Str) (st : Stmt) (D : Addr) (f : Addr) (fd : FuncData) : Prop where
  ex : ∃ (oc kV doc pm ct : Value) (od an : Option Addr) (osl : Array (Option Value)) (cda cc : Addr), fd = PySem.W.fnX "__init__" qual (defArgs st) (defBody st) (defScope st) [("__class__", cc)] .none kV doc pm an (.ref cda) ct ∧
    K.lookup f = some ⟨oc, od, .func fd, osl⟩ ∧ PySem.W.codeIn K (.ref cda) qual = true ∧
    (∃ (ccl : Value) (cdd : Option Addr) (vs : Array Value) (ccs : Array (Option Value)) (file : Str) (tf : Tok), K.lookup cda = some ⟨ccl, cdd, .fields vs, ccs⟩ ∧ vs[2]? = some (.str file tf) ∧ ((P.main.file : Str) == file) = true) ∧
    (∃ (cl : Value) (cld : Option Addr) (csl : Array (Option Value)), K.lookup cc = some ⟨cl, cld, .cell (some (.ref D)), csl⟩)
section
variable {P : Program} {w : World} {K : PySem.W.Frag} {mg : Str → Option Value} {base : Heap} {k : Nat} {f D : Addr} {fd : FuncData} {qual : Str} {st : Stmt} {N ps : List Str} {sp : Sp} {e : Expr} {rest : List Stmt} {p0 p1 p2 p3 p4 : Pos}
theorem fnSup (F : InitF K P qual st D f fd) (S : NScope N ps ["__class__"] (defScope st)) (hN : ps.head? = some ("self" : Str))
    (hst : defBody st = .Expr (.Call (.Attribute (.Call (.Name "super" p0) [] [] p1) "__init__" p2) [e] [] p3) p4 :: rest)
    (har : ∃ ar : Arg, ((defArgs st).posonlyargs ++ (defArgs st).args).head? = some ar ∧ ar.arg = "self") (hD : ∃ cdD : ClassData, PySem.W.clsIn K D = some cdD)
    (hks : (defScope st).names.lookup ("super" : Str) = some .globalImplicit) (hm : mg "super" = none) (htop : (P.main.scope.names.lookup ("super" : Str)).isSome = false)
    (hse : ∀ env : Env, starEach [e] env = [(false, eval e env)])
    (hev : ∀ env : Env, ∃ pl : Sem Bool, eval (.Call (.Attribute (.Call (.Name "super" p0) [] [] p1) "__init__" p2) [e] [] p3) env = (do
      let ov ← attributeBase (.Call (.Name "super" p0) [] [] p1) "__init__" env (eval (.Call (.Name "super" p0) [] [] p1) env)
      standAt p2.atName
      let (f, first) ← holding [ov] (getMethod ov "__init__" pl)
      callWith p3 f first (backTo p3 (starEach [e] env)) [])) (len : ∀ vs H Q E, sp vs H Q E → vs.length = ps.length)
    (hb : ∀ (F' : NF) (A : Around) (outer : List Env) (s : Shared) (H : Hp) (vs : List V) (Q : VK) (E : XK), F'.qual = qual → F'.scope = defScope st → Room k (A.deeper (envF F' f s.heap.objs.size)) → sp vs H Q E →
      ∃ (a C : Addr) (ws : List V) (te : TE) (tr : TS), vs = .ref a :: ws ∧ OexC K C ∧ SupC K C D ∧ H a = some (exo a C none) ∧ PE (ncx CX0 P w K mg base N F' f A outer s H E) e te ∧ PSs (ncx CX0 P w K mg base N F' f A outer s H E) rest tr ∧
        te (startF N vs [some (.ref D)]) H (fun _ H1 => H1 a = some (exo a C none) ∧ tr { nx := fun _ H' => Q .non H', rt := Q } (startF N vs [some (.ref D)]) H1)) :
    FnOk P w K mg base CX0 (k + 1) f fd ps sp := by
  obtain ⟨oc, kV, doc, pm, ct, od, an, osl, cda, cc, rfl, lk, hcd, ⟨ccl, cdd, cvs, ccs, file, tf, hcode, hvs, hfile⟩, ⟨cl, cld, csl, hcell⟩⟩ := F.ex
  refine ⟨len, fun A outer s H args us vs Q E hr e0 hbind r hsp => ?_⟩
  have hl := len _ _ _ _ hsp
  have KX : K.In s.heap := e0.mod.kin.keeps fun b o e => And.left (e0.bs b o e)
  have lim : s.heap.NoLimit := e0.mod.nolimit.keeps fun b o e => (e0.bs b o e).1
  refine codeAny_call_function hr.depth (KX _ _ lk) rfl S.co S.gen rfl (PySem.W.codeRec_of KX hcd) ?_
  apply hbind
  refine wpAny_newFunctionEnv S.nocell (fun ⟨n, _⟩ hy => S.par n (List.of_mem_zip hy).1) (fun h₁ hns hsb => ⟨lim.fresh _ hsb, ?_⟩) S.kind
  have kp : ∀ b o, s.heap.get? b = some o → h₁.get? b = some o := fun b o e => hsb.extBut b o (Nat.ne_of_lt (Heap.lt_size e)) (Heap.get?_push_of_some _ e)
  let F' : NF := ⟨"__init__", qual, defArgs st, defBody st, defScope st, [("__class__", cc)], cda⟩
  show codeAny _ _ (.func (defBody st) (envF F' f s.heap.objs.size)) _ _
  have hcc : H cc = none := (e0.bs cc _ (e0.mod.kin _ _ hcell)).2
  have CA : CellsAt F'.cl ["__class__"] [some (.ref D)] s.heap H := by
    refine ⟨rfl, fun y c hy => ?_, fun x y c hx hy => ?_, fun i y hi => ?_⟩
    · have hy : List.lookup y [(("__class__" : Str), cc)] = some c := hy
      have : c = cc := by
        unfold List.lookup at hy
        split at hy
        · exact (Option.some.inj hy).symm
        · cases hy
      subst this
      exact ⟨hcc, some (.ref D), _, KX _ _ hcell, rfl⟩
    · have hx : List.lookup x [(("__class__" : Str), cc)] = some c := hx
      have hy : List.lookup y [(("__class__" : Str), cc)] = some c := hy
      unfold List.lookup at hx hy
      split at hx
      · rename_i h1
        split at hy
        · rename_i h2
          rw [eq_of_beq h1, eq_of_beq h2]
        · cases hy
      · cases hx
    · cases i with
      | zero =>
        have hy : some ("__class__" : Str) = some y := hi
        cases hy
        exact ⟨cc, rfl, fun v hv => ⟨.ref D, by
          have hv : some (some (V.ref D)) = some (some v) := hv
          cases hv
          rfl, _, KX _ _ hcell, rfl⟩⟩
      | succ i => cases hi
  obtain ⟨a, C, ws, te, tr, rfl, T, SC, ea, hPE, hPS, hq⟩ := hb F' A outer s H vs Q E rfl rfl (hr.deeper _) hsp
  have I : Inv (ncx CX0 P w K mg base N F' f A outer s H E) [] (startF N (.ref a :: ws) [some (.ref D)]) H { s with heap := h₁, toks := s.toks + (ps.zip us).length } := inv_startN S hr.hd e0 hl r CA hns kp
  have hpl : ps.length + 1 ≤ N.length := by
    have q := congrArg List.length S.pre
    rw [List.length_take, List.length_append] at q
    simp only [List.length_cons, List.length_nil] at q
    omega
  have hps : 0 < ps.length := by
    rw [← hl]
    exact Nat.succ_pos _
  have nAt : ∀ i : Nat, i < ps.length + 1 → N[i]? = (ps ++ [("__class__" : Str)])[i]? := fun i hi => by
    rw [← S.pre, List.getElem?_take_of_lt (by simpa using hi)]
  have hN0 : N[0]? = some ("self" : Str) := by
    rw [nAt 0 (by omega), List.getElem?_append_left hps, ← List.head?_eq_getElem?]
    exact hN
  have hNj : N[ps.length]? = some ("__class__" : Str) := by
    rw [nAt _ (by omega), List.getElem?_append_right (Nat.le_refl _), Nat.sub_self]
    rfl
  have hσ0 : (startF N (.ref a :: ws) [some (.ref D)])[0]? = some (some (V.ref a)) := rfl
  have hσj : (startF N (.ref a :: ws) [some (.ref D)])[ps.length]? = some (some (V.ref D)) := by
    unfold startF
    rw [List.getElem?_append_right (by rw [List.length_map, hl]; omega), List.length_map, hl, Nat.sub_self]
    rfl
  have M : SupM (ncx CX0 P w K mg base N F' f A outer s H E) D := by
    refine ⟨?_, ⟨cda, ccl, cdd, cvs, ccs, file, tf, rfl, hcode, hvs, hfile⟩, hD, hks, S.frk _ (List.mem_singleton.mpr rfl), hm, htop⟩
    obtain ⟨ar, h1, h2⟩ := har
    exact ⟨f, oc, od, _, osl, ar, rfl, lk, h1, h2⟩
  have vself : Vis (ncx CX0 P w K mg base N F' f A outer s H E).env.scope "self" := .inl (S.par "self" (List.mem_of_mem_head? hN))
  refine ks_codeAny_funcAt ?_
  show PySem.wpAt _ _ (.func (defBody st) (ncx CX0 P w K mg base N F' f A outer s H E).env) (execs (defBody st) (ncx CX0 P w K mg base N F' f A outer s H E).env) _ _ _
  have hex : execs (defBody st) (ncx CX0 P w K mg base N F' f A outer s H E).env = execs (.Expr (.Call (.Attribute (.Call (.Name "super" p0) [] [] p1) "__init__" p2) [e] [] p3) p4 :: rest) (ncx CX0 P w K mg base N F' f A outer s H E).env := by rw [hst]
  rw [hex]
  obtain ⟨pl, hpl2⟩ := hev (ncx CX0 P w K mg base N F' f A outer s H E).env
  refine ks_wpAt_execs_cons (ks_wpAt_Expr_any (ks_wpAt_MethodCall (pl := pl) (super_ok M SC I hN0 hσ0 vself hNj hσj ea fun u s' J => ?_) hpl2) I.quiet)
  have ha : PA (ncx CX0 P w K mg base N F' f A outer s H E) [e] (tCons te tNil) := pa_cons hPE pa_nil (hse _)
  have hsl : (backTo p3 (starEach [e] (ncx CX0 P w K mg base N F' f A outer s H E).env)).any (·.1) = false := by rw [hse]; rfl
  have hrun := ha.run p3 _ s' _ H (fun zs H1 => zs.length = 1 ∧ H1 a = some (exo a C none) ∧ tr { nx := fun _ H' => Q .non H', rt := Q } (startF N (.ref a :: ws) [some (.ref D)]) H1) J (by
    show te _ H fun y H1 => _
    exact cast (by congr 1; funext y H1; simp [tNil]) hq)
  refine PySem.W.kxs_callWith (i := "ValueError.__init__") (x := a) hsl ?_
  rw [hse] at hrun ⊢
  refine Calls.evalArgs_plain (thn hrun fun zs s2 ⟨vs2, H1, J2, r2, hz, e1, q2⟩ => ⟨(J2.pin (u, _) (List.mem_append_right _ (List.mem_cons_self ..))).1, ?_⟩)
  show wpAny _ _ (call (.ref u) zs) _ _ _
  have J3 : Inv (ncx CX0 P w K mg base N F' f A outer s H E) [] (startF N (.ref a :: ws) [some (.ref D)]) H1 s2 := J2.pins_of fun p hp => nomatch hp
  refine call_mw T J3 e1 (J2.pin (u, _) (List.mem_append_right _ (List.mem_cons_self ..))).1 ?_ fun s3 J4 => ?_
  · rw [← r2.length, hz]; decide
  · show PySem.wpAt _ _ _ (execs rest _) _ _ s3
    refine PySem.wpAt_of_wpAny (wpAny_mono (hPS.run [] s3 _ H1 _ J4 q2) (fun fl s4 hs => ?_) fun e s4 hs => hs)
    have fin : ∀ {σ' : L2.St} {H' : Hp} {v : V} {u : Value}, Inv (ncx CX0 P w K mg base N F' f A outer s H E) [] σ' H' s4 → L2.RelV v u → Q v H' → CE outer P w H s Q u s4 :=
      fun {σ' H' v u} J rv q => ⟨v, H', J.os, J.bare, J.base, J.hok, rv, q⟩
    cases fl with
    | ret u =>
      obtain ⟨v, σ', H', J, rv, q⟩ := hs
      exact fin J rv q
    | next =>
      obtain ⟨σ', H', J, q⟩ := hs
      exact fin (v := V.non) (u := Value.none) J rfl q
    | brk =>
      obtain ⟨_, _, _, q⟩ := hs
      exact False.elim q
    | cont =>
      obtain ⟨_, _, _, q⟩ := hs
      exact False.elim q
end
end DX

namespace PySem
namespace DXK
open PySem.HandSPX
section
variable {M : Model} {A : Around} {E : Value → Shared → Prop} {h : Heap} {g : Array GenState} {d : Drawn} {t : Nat} {os : OsState}
variable {nm q : Str} {C N : Addr} {bs bm bmB : List Value} {hdct : Bool} {sn : List Str} {sub : List Value} {ab : Bool} {col : Option Bool} {dd : Option Addr} {k0 k1 k2 k3 k5 : Option Value} {B newId initId : String}

theorem check_new_own {kw : List (Str × Value)} (F : ExcBaseFacts B newId initId bmB) (hT : ∀ X : String, bm.contains (.type X) = bmB.contains (.type X)) {rest : List Value} {Q : Unit → Shared → Prop}
    (hC : h.get? C = some (excClassObj nm q C N bs bm hdct sn sub ab col dd k0 k1 k2 k3 k5 newId)) (hq : Q () ⟨h, g, d, t, os⟩) : wpAny M A (checkBuiltinCall newId ⟨.ref C :: rest, kw⟩) Q E ⟨h, g, d, t, os⟩ := by
  have hcont : (Value.ref C :: bm).contains (.type B) = true := by rw [List.contains_cons, hT, F.hasB, Bool.or_true]
  have hstar := F.noStar
  simp only [checkBuiltinCall, F.newKind, F.newSplit, F.newRow]
  repeat (first | refine wpAny_loadPart_at hC ?_ | (refine wpAny_isSubtype_exc hC ?_; rw [hcont]) | refine wpAny_staticBase_exc hC ?_ | refine wpAny_madeBy_exc hC ?_ | simp only [bne_self_eq_false, Bool.false_eq_true, if_false] | wp_step)
  exact hq
end
section
variable {prog : Program} {w : World} {A : Around} {E : Value → Shared → Prop} {R : Result → Shared → Prop} {h : Heap} {g : Array GenState} {d : Drawn} {t : Nat} {os : OsState}
variable {nm q : Str} {C N : Addr} {bs bm bmB : List Value} {hdct : Bool} {sn : List Str} {sub : List Value} {ab : Bool} {col : Option Bool} {dd : Option Addr} {k0 k1 k2 k3 k5 : Option Value} {B newId initId : String}
theorem new_own {kw : List (Str × Value)} (F : ExcBaseFacts B newId initId bmB) (hT : ∀ X : String, bm.contains (.type X) = bmB.contains (.type X)) {rest : List Value}
    (hC : h.get? C = some (excClassObj nm q C N bs bm hdct sn sub ab col dd k0 k1 k2 k3 k5 newId))
    (hq : R (.ok (.ret (.ref (h.objs.size + 1)))) ⟨(h.push { cls := .type "tuple", data := .seq rest.toArray }).push
      { cls := .ref C, data := .fields #[.ref h.objs.size, .none, .none, .none, .bool false, .none] }, g, d, t, os⟩) (hrest : rest.length ≤ sizeLine) :
    codeAny (model prog w) A (.builtin newId ⟨.ref C :: rest, kw⟩) R ⟨h, g, d, t, os⟩ := by
  have hends := F.ends
  have hcB : (Value.ref C :: bm).contains (.type B) = true := by rw [List.contains_cons, hT, F.hasB, Bool.or_true]
  have hcA : (Value.ref C :: bm).contains (.type "AttributeError") = false := by rw [List.contains_cons, hT, F.noAttr]; rfl
  have hcN : (Value.ref C :: bm).contains (.type "NameError") = false := by rw [List.contains_cons, hT, F.noName]; rfl
  refine codeAny_builtinAt F.entry ?_
  unfold Builtin.«BaseException.__new__»
  refine wpAt_bind ?_
  show wpAt _ _ _ (stack >>= _) _ _ _
  refine wpAt_bind (wpAt_stack fun p below => wpAt_of_wpAny ?_)
  wp_walk
  refine wpAt_of_wpAny ?_
  rw [F.owner]
  repeat (first | with_reducible refine wpAny_madeHere_exc F.canon hC ?_ | with_reducible refine wpAny_loadPart_at hC ?_ | (with_reducible refine wpAny_isSubtype_exc hC ?_; first | rw [hcB] | rw [hcA] | rw [hcN]) | wp_step)
  show R _ _
  rw [Heap.size_push]
  exact hq
theorem type_call_own {kw : List (Str × Value)} (F : ExcBaseFacts B newId initId bmB) (hT : ∀ X : String, bm.contains (.type X) = bmB.contains (.type X)) {rest : List Value} {fI : Addr} {Q : Fin → Shared → Prop}
    (hC : h.get? C = some (excClassObj nm q C N bs bm hdct sn sub ab col dd k0 k1 k2 k3 k5 newId))
    (hi : W.Looks (model prog w) h (typeLookup (.ref C) "__init__") (some (.ref fI))) (hb : ∀ self, W.Looks (model prog w) h (bindSpecial (.ref fI) self) (.ref fI, [self])) (hrest : rest.length ≤ sizeLine)
    (hq : codeAny (model prog w) A (.call (.ref fI) ⟨.ref (h.objs.size + 1) :: rest, kw⟩)
      (fun r s' => match r with | .ok (.ret v) => v = .none ∧ Q (.done (.ret (.ref (h.objs.size + 1)))) s' | .ok _ => False | .error e => E e s')
      ⟨(h.push (W.kdv_tup rest)).push (excO C h.objs.size), g, d, t, os⟩) :
    wpAny (model prog w) A (Builtin.«type.__call__» ⟨.ref C :: rest, kw⟩) Q E ⟨h, g, d, t, os⟩ := by
  repeat (first | with_reducible refine wpAny_loadPart_at hC ?_ | with_reducible refine wpAny_madeBy_exc hC ?_ | wp_step)
  refine codeAny_call_builtin_code (Code.quiet_builtin _ F.quiet) (check_new_own F hT hC ?_)
  refine new_own F hT hC ?_ hrest
  show wpAny _ _ _ _ _ _
  have k : ∀ b o, h.get? b = some o → ((h.push (W.kdv_tup rest)).push (excO C h.objs.size)).get? b = some o := fun b o e => Heap.get?_push_of_some _ (Heap.get?_push_of_some _ e)
  have hC₁ := k _ _ hC
  have hget : ((h.push (W.kdv_tup rest)).push (excO C h.objs.size)).get? (h.objs.size + 1) = some (excO C h.objs.size) := by heap_get
  have hcC : (Value.ref C :: bm).contains (.ref C) = true := by simp
  have i1 := hi.keeps k
  have b1 := (hb (.ref (h.objs.size + 1))).keeps k
  unfold isInstance
  repeat (first | with_reducible refine wpAny_loadPart_at hget ?_ | (with_reducible refine wpAny_isSubtype_exc hC₁ ?_; rw [hcC]) | wp_step)
  show wpAny _ _ (typeLookup (.ref C) _) _ _ _
  refine i1.at ?_
  refine wpAny_holding (wpAny_bind (b1.at ?_))
  refine wpAny_bind (wpAny_call (codeAny_mono hq fun r s' z => ?_))
  rcases r with e | (v | _ | _ | _) <;> first | exact z | exact z.elim | skip
  obtain ⟨rfl, z⟩ := z
  first
    | exact wpAny_pure (wpAny_pure z)
    | (wp_walk; exact z)
theorem call_own {kw : List (Str × Value)} (F : ExcBaseFacts B newId initId bmB) (hT : ∀ X : String, bm.contains (.type X) = bmB.contains (.type X)) {rest : List Value} {fI : Addr}
    (hC : h.get? C = some (excClassObj nm q C N bs bm hdct sn sub ab col dd k0 k1 k2 k3 k5 newId))
    (hi : W.Looks (model prog w) h (typeLookup (.ref C) "__init__") (some (.ref fI))) (hb : ∀ self, W.Looks (model prog w) h (bindSpecial (.ref fI) self) (.ref fI, [self])) (hrest : rest.length ≤ sizeLine)
    (hq : codeAny (model prog w) (A.under (.builtin "type.__call__" ⟨.ref C :: rest, kw⟩)) (.call (.ref fI) ⟨.ref (h.objs.size + 1) :: rest, kw⟩) (W.InitBack (h.objs.size + 1) R)
      ⟨(h.push (W.kdv_tup rest)).push (excO C h.objs.size), g, d, t, os⟩) :
    codeAny (model prog w) A (.call (.ref C) ⟨rest, kw⟩) R ⟨h, g, d, t, os⟩ := by
  have f1 := tc_lookup
  have f2 := tc_bind (.ref C)
  have hTy : (⟨h, g, d, t, os⟩ : Shared).TypeIs (.ref C) "type" := ⟨_, hC, rfl⟩
  refine codeAny_of_tree ?_
  show wpAny _ _ (callAny (.ref C) _) _ _ _
  repeat (any_goals (first | assumption | with_reducible refine wpAny_loadPart_at hC ?_ | wp_step))
  refine ⟨rfl, ?_⟩
  refine codeAny_call_builtin_at (Code.quiet_builtin _ (by decide +kernel)) entry_typeCall (wpAny_check_type_call_sub hC (type_call_own F hT hC hi hb hrest ?_))
  refine codeAny_mono hq fun r s' z => ?_
  rcases r with e | (v | _ | _ | _) <;> exact z
end
end DXK
end PySem

namespace DX
open PySem PySem.Spec PyProof.Rows L2 NdefX DL
/-- an own class of errors, whose __init__ keeps its promise -/
structure MkX (P : Program) (w : World) (K : PySem.W.Frag) (mg : Str → Option Value) (base : Heap) (k : Nat) (C : Addr) (ps : List Str) (st : Stmt) (sp : Sp) : Prop where
  T : OexC K C
  ex : ∃ (f : Addr) (fd : FuncData), PySem.W.findIn K (.ref C) "__init__" = some (some (.ref f)) ∧ PySem.W.typeIn K (.ref f) = some (.type "function") ∧ FnOk P w K mg base CX0 k f fd ps sp ∧
    ∃ (q : Str) (kV doc pm cdv ct : Value) (an : Option Addr) (cc : Addr), fd = PySem.W.fnX "__init__" q (defArgs st) (defBody st) (defScope st) [("__class__", cc)] .none kV doc pm an cdv ct
section
variable {X : Cx} {pins : List (Addr × Obj)} {σ : L2.St} {H : Hp} {s : Shared} {C fI : Addr} {k : Nat} {fd : FuncData} {ps : List Str} {sp : Sp} {Q : VK} {us us' : List Value} {vs : List V} {kw : List (Str × Value)}
theorem run_mkx (T : OexC X.K C) (iC : PySem.W.findIn X.K (.ref C) "__init__" = some (some (.ref fI))) (tI : PySem.W.typeIn X.K (.ref fI) = some (.type "function")) (F1 : FnOk X.prog X.w X.K X.mg X.base CX0 k fI fd ps sp) (hr : Room (k + 1) X.A)
    (hb : ∀ (s : Shared) (a : Addr), BindsTo s fd ⟨.ref a :: us, kw⟩ (ps.zip (.ref a :: us'))) (I : Inv X pins σ H s) (r : Vals vs us') (hz : us.length ≤ 1000)
    (h : ∀ a, H a = none → sp (.ref a :: vs) (upd H a (exo a C none)) (fun v H2 => v = .non ∧ Q (.ref a) H2) E0) : wpAny (model X.prog X.w) X.A (call (.ref C) us kw) (EP X pins σ Q) X.xe s := by
  obtain ⟨nm, q, N, bs, bm, sn, sub, ab, col, dd, k0, k1, k2, k3, k5, hC, hbm⟩ := T.cls
  obtain ⟨hp, g, dr, tk, os⟩ := s
  have hsz : hp.objs.size ≤ hp.objs.size + 1 := Nat.le_succ _
  have hn : H (hp.objs.size + 1) = none := I.hok.fresh hsz
  have hq := h (hp.objs.size + 1) hn
  have kk : ∀ b o, hp.get? b = some o → ((hp.push (PySem.W.kdv_tup us)).push (PySem.HandSPX.excO C hp.objs.size)).get? b = some o := fun b o e => Heap.get?_push_of_some _ (Heap.get?_push_of_some _ e)
  have hget : ((hp.push (PySem.W.kdv_tup us)).push (PySem.HandSPX.excO C hp.objs.size)).get? (hp.objs.size + 1) = some (PySem.HandSPX.excO C hp.objs.size) := by heap_get
  have I2 : Inv X pins σ (upd H (hp.objs.size + 1) (exo (hp.objs.size + 1) C none)) ⟨(hp.push (PySem.W.kdv_tup us)).push (PySem.HandSPX.excO C hp.objs.size), g, dr, tk, os⟩ :=
    I.laid (t' := tk) (a := hp.objs.size + 1) (o := exo (hp.objs.size + 1) C none) (h' := (hp.push (PySem.W.kdv_tup us)).push (PySem.HandSPX.excO C hp.objs.size)) kk hsz (exo_ok hget)
  have r2 : Vals (V.ref (hp.objs.size + 1) :: vs) (Value.ref (hp.objs.size + 1) :: us') := .cons rfl r
  have hus : us.length ≤ sizeLine := by
    rw [sizeLine_eq]
    omega
  refine wpAny_call (PySem.DXK.call_own F.excBase_ValueError (fun Y => PySem.HandSPX.refsVE_contains Y bm hbm) (I.kIn _ _ hC) (PySem.W.looks_findIn I.kIn iC) (fun self => PySem.W.bind_fn I.kIn self tI) hus
    (codeAny_mono (F1.run _ X.stack _ _ ⟨Value.ref (hp.objs.size + 1) :: us, kw⟩ (Value.ref (hp.objs.size + 1) :: us') _ _ E0 (hr.make C us kw) (I2.env0.make C us kw) (hb _ _) r2 hq) fun r s' hq' => ?_))
  cases r with
  | error er => exact pass0' pins σ _ _ er s' I2 hq'
  | ok fl =>
    cases fl with
    | ret u =>
      obtain ⟨v, H', I3, rv, ev, q3⟩ := I2.after hq'
      subst ev
      exact ⟨rv, ⟨V.ref (hp.objs.size + 1), H', I3, rfl, q3⟩⟩
    | next => exact False.elim hq'
    | brk => exact False.elim hq'
    | cont => exact False.elim hq'
end
def tMkX (C : Addr) (sp : Sp) (ta : TA) : TE := fun σ H Q => ta σ H fun vs H1 => vs.length ≤ 1000 ∧ ∀ a, H1 a = none → sp (.ref a :: vs) (upd H1 a (exo a C none)) (fun v H2 => v = .non ∧ Q (.ref a) H2) E0
section
variable {X : Cx} {C : Addr} {k : Nat} {ps ks : List Str} {sp : Sp} {st : Stmt} {x : Str} {e : Expr} {es : List Expr} {kws : List Keyword} {ta tk : TA} {p pos : Pos}
/-- C(e, ..) -/
theorem pe_mkx (M : MkX X.prog X.w X.K X.mg X.base k C ps st sp) (hr : Room (k + 1) X.A) (hm : X.mg x = some (.ref C)) (ha : PA X (e :: es) ta)
    (hbd : ∀ (q : Str) (kV doc pm cdv ct : Value) (an : Option Addr) (cc : Addr) (us : List Value), us.length = ps.length → bindArgs (PySem.W.fnX "__init__" q (defArgs st) (defBody st) (defScope st) [("__class__", cc)] .none kV doc pm an cdv ct) ⟨us, []⟩ = pure (ps.zip us))
    (hg : Gl X x := by rfl) (hdb : (x == ("__debug__" : Str)) = false := by decide) (he : starEach (e :: es) X.env = (false, eval e X.env) :: starEach es X.env := by rfl) (hpl : (backTo pos (starEach es X.env)).any (·.1) = false := by rfl) :
    PE X (.Call (.Name x p) (e :: es) [] pos) (tMkX C sp ta) := by
  refine ⟨fun pins s σ H Q I h => ?_⟩
  obtain ⟨f, fd, iC, tI, F1, q, kV, doc, pm, cdv, ct, an, cc, rfl⟩ := M.ex
  refine wpAny_Call_Name_kw (ld_glob I hg hm ?_ hdb)
  refine PySem.W.callWith_K (h₀ := X.base) I.ok.mod.kin M.T.kC (thn (ha.run pos pins s σ H _ I h) fun us s1 ⟨vs, H1, I1, r1, hz, q1⟩ => ⟨I1.kIn, ?_⟩) he hpl
  have hlv := r1.length
  show wpAny _ _ (call (.ref C) us) _ _ _
  refine run_mkx (us' := us) M.T iC tI F1 hr (fun s a => ?_) I1 r1 (by omega) q1
  refine .of_eq (hbd _ _ _ _ _ _ _ _ (.ref a :: us) ?_)
  obtain ⟨a0, ha0⟩ : ∃ a0, H1 a0 = none := ⟨s1.heap.objs.size, I1.hok.fresh (Nat.le_refl _)⟩
  have e := F1.len _ _ _ _ (q1 a0 ha0)
  rw [List.length_cons] at e ⊢
  omega
def ord1 (is : List Nat) (vs : List V) : List V := ord is vs
/-- C(k = e, ..) -/
theorem pe_mkxK {is : List Nat} (M : MkX X.prog X.w X.K X.mg X.base k C ps st sp) (hr : Room (k + 1) X.A) (hm : X.mg x = some (.ref C)) (hkw : PKL X kws tk)
    (hbd : ∀ (q : Str) (kV doc pm cdv ct : Value) (an : Option Addr) (cc : Addr) (u : Value) (ws : List Value), ws.length = kws.length → bindArgs (PySem.W.fnX "__init__" q (defArgs st) (defBody st) (defScope st) [("__class__", cc)] .none kV doc pm an cdv ct) ⟨[u], ks.zip ws⟩ = pure (ps.zip (u :: ord is ws)))
    (hg : Gl X x := by rfl) (hall : (backToKw pos (keywordEach kws X.env)).all (·.1.isSome) = true := by rfl) (hks : (backToKw pos (keywordEach kws X.env)).filterMap (·.1) = ks := by rfl)
    (hdb : (x == ("__debug__" : Str)) = false := by decide) (hpl : ((backTo pos (starEach [] X.env)).any (·.1) || (backToKw pos (keywordEach kws X.env)).any (·.1.isNone)) = false := by rfl) :
    PE X (.Call (.Name x p) [] kws pos) (tMkX C sp (fun σ H Q => tk σ H fun zs H1 => Q (ord is zs) H1)) := by
  refine ⟨fun pins s σ H Q I h => ?_⟩
  obtain ⟨f, fd, iC, tI, F1, q, kV, doc, pm, cdv, ct, an, cc, rfl⟩ := M.ex
  refine wpAny_Call_Name_kw (ld_glob I hg hm ?_ hdb)
  apply PySem.W.callWith_KW0 (h₀ := X.base) I.ok.mod.kin M.T.kC hall (thn (hkw.run pos pins s σ H _ I h) ?_) hpl
  rintro ws s2 ⟨zs, H2, I2, rz, n2, hz, q2⟩
  refine ⟨I2.kIn, ?_⟩
  rw [hks]
  exact run_mkx (us' := ord is ws) M.T iC tI F1 hr (fun s a => .of_eq (hbd _ _ _ _ _ _ _ _ (.ref a) ws (rz.length.symm.trans n2))) I2 (ord_vals rz) (Nat.zero_le _) q2
end
end DX

namespace DX
open PySem PySem.Spec PyProof.Rows L2 NdefX DL
/-! ### e.f, isinstance(e, ..) of a made error -/
theorem exo_inst {P : Program} {w : World} {H : Hp} {h : Heap} {a C d : Addr} {fs : List (Str × V)} (hok : HOk P w H h) (e : H a = some (exo a C (some d))) (ed : H d = some (exd d fs)) :
    ∃ (oe od : Obj) (mA : Str → Option Value), PySem.W.InstAt h a oe C (some od) ∧ h.Ns1 d mA ∧ (∀ f, RelO (fs.lookup f) (mA f)) ∧ h.get? d = some od := by
  obtain ⟨t1, ho⟩ := exo_at hok e
  obtain ⟨mA, hns, hr⟩ := exd_at hok ed
  obtain ⟨od, hod, hl⟩ := lookIn_ns hns
  exact ⟨_, od, mA, ⟨ho, rfl, rfl, hod⟩, hns, hr, hod⟩
def tXat (K : PySem.W.Frag) (f : Str) (te : TE) : TE := fun σ H Q => te σ H fun x H1 => ∃ (a C d : Addr) (fs : List (Str × V)) (v : V), x = .ref a ∧ H1 a = some (exo a C (some d)) ∧ H1 d = some (exd d fs) ∧ XfC K C ∧ PySem.W.findIn K (.ref C) f = some none ∧ fs.lookup f = some v ∧ Q v H1
section
variable {X : Cx} {e : Expr} {te : TE} {pos : Pos} {f : Str}
theorem pe_xat (he : PE X e te) (hb : attributeBase e f X.env (eval e X.env) = eval e X.env := by rfl) : PE X (.Attribute e f pos) (tXat X.K f te) := by
  refine ⟨fun pins s σ H Q I h => ?_⟩
  refine attr_of hb (thn (he.run pins s σ H _ I h) fun u s1 hh => ?_)
  obtain ⟨x, H1, I1, rx, a, C, d, fs, v, ex, ea, ed, T, hno, l, q⟩ := hh
  subst ex
  obtain rfl : u = Value.ref a := rx
  obtain ⟨t1, ho⟩ := exo_at I1.hok ea
  obtain ⟨mA, hns, hr⟩ := exd_at I1.hok ed
  obtain ⟨od, hod, hl⟩ := lookIn_ns hns
  obtain ⟨u, hu, ru⟩ := RelO.some_of (v := v) (o := mA f) (by rw [← l]; exact hr f)
  have J : PySem.W.InstAt s1.heap a { cls := .ref C, dict := some d, data := .fields #[.ref t1, .none, .none, .none, .bool false, .none] } C (some od) := ⟨ho, rfl, rfl, hod⟩
  exact HandSPX.exc_get I1.kIn J T.ga T.gg T.exC (PySem.W.findObj_own T.hdC hno rfl (by rw [hl, hu])) (handed_of ru) ⟨v, H1, I1.tok _, ru, q⟩
end
/-- an error that is told by its class and fields stands at a -/
def ErrAt (H : Hp) (a C : Addr) (fs : List (Str × V)) : Prop := ∃ d, H a = some (exo a C (some d)) ∧ H d = some (exd d fs)
def rIsX (K : PySem.W.Frag) : List V → Hp → VK → Prop := fun xs H Q => ∃ (a C : Addr) (fs : List (Str × V)) (c : V) (b : Bool), xs = [.ref a, c] ∧ ErrAt H a C fs ∧ ExcC K C ∧
  ((∃ cv : Value, (∀ u, RelV c u → u = cv) ∧ PySem.W.kitOne K (.ref C) cv = some b) ∨ ∃ (tp : Addr) (ns : List String), c = .ref tp ∧ H tp = some (.tup (ns.map V.ty)) ∧ PySem.W.kitAny K (.ref C) (ns.map Value.type) = some b) ∧ Q (.bl b) H
section
variable {X : Cx}
theorem kitx {K : PySem.W.Frag} {C : Addr} {a : Addr} {oe : Obj} {od : Option Obj} (T : ExcC K C) : PySem.W.KitX K (.ref a) (.ref C) (fun h => PySem.W.InstAt h a oe C od) :=
  PySem.W.kitx_exc (by obtain ⟨cd, hc, _⟩ := PySem.W.any_some T.hd; rw [hc]; rfl) T.hg T.hk T.hs T.ha T.hn T.ht T.hm
theorem call_isX : CallR X (.builtin "isinstance") (rIsX X.K) := by
  intro pins s σ H xs us Q I r h
  obtain ⟨a, C, fs, c, b, rfl, ⟨d, ea, ed⟩, T, hc, q⟩ := h
  cases r with
  | cons rx rr =>
    cases rr with
    | cons rt rr =>
      cases rr
      cases rx
      obtain ⟨oe, od, mA, J, _⟩ := exo_inst I.hok ea ed
      rcases hc with ⟨cv, hcv, e⟩ | ⟨tp, ns, rfl, htp, e⟩
      · have ec := hcv _ rt
        subst ec
        exact PySem.W.kia_one (kitx T) I.kIn J e (fun z => nomatch z) fun tk => ⟨.bl b, H, I.kept (t' := tk) fun _ _ z => z, rfl, q⟩
      · cases rt
        obtain ⟨its, rv, ⟨⟨cls, dd, data, sl⟩, ho, hcl, n, hdt⟩, z⟩ := I.tuple (xs := ns.map V.ty) (.inl (.inl htp))
        have ev := vals_tys rv
        subst ev
        dsimp only at hcl hdt
        subst hcl hdt
        exact PySem.W.kia_tup (kitx T) I.kIn J ho e (fun z => nomatch z) fun tk => ⟨.bl b, H, I.kept (t' := tk) fun _ _ z => z, rfl, q⟩
end
end DX

namespace DL
open PySem L2
/-! ### repr of data, dicts (keys ints and texts) among it -/
def keyPy : Key → PyData
  | .inl i => .int i
  | .inr x => .str x
mutual
inductive Dq (K : PySem.W.Frag) (H : Hp) : V → PyData → Prop
  | flat {v : V} {d : PyData} : Dp K H v d → d.hasDict = false → Dq K H v d
  | lst {a : Addr} {vs : List V} {ds : List PyData} : H a = some (.lst vs) → DqAll K H vs ds → Dq K H (.ref a) (.list ds)
  | tup {a : Addr} {vs : List V} {ds : List PyData} : H a = some (.tup vs) → DqAll K H vs ds → Dq K H (.ref a) (.tuple ds)
  | dK {a : Addr} {vs : List (Key × V)} {ps : List (PyData × PyData)} : H a = some (.dK vs) → DqKv K H vs ps → Dq K H (.ref a) (.dict ps)
inductive DqAll (K : PySem.W.Frag) (H : Hp) : List V → List PyData → Prop
  | nil : DqAll K H [] []
  | cons {v : V} {vs : List V} {d : PyData} {ds : List PyData} : Dq K H v d → DqAll K H vs ds → DqAll K H (v :: vs) (d :: ds)
inductive DqKv (K : PySem.W.Frag) (H : Hp) : List (Key × V) → List (PyData × PyData) → Prop
  | nil : DqKv K H [] []
  | cons {k : Key} {v : V} {vs : List (Key × V)} {d : PyData} {ps : List (PyData × PyData)} : Dq K H v d → DqKv K H vs ps → DqKv K H ((k, v) :: vs) ((keyPy k, d) :: ps)
end
section
variable {prog : Program} {w : World} {h : Heap}
theorem key_reads {k : Key} {u : Value} (e : (mixKind prog w).is k u = true) : Reads h u (keyPy k) [] ∧ (PyData.showable (keyPy k) = true → (PyData.shown (keyPy k)).length ≤ sizeLine → ReprK prog w [] h 0 u (PyData.shown (keyPy k))) := by
  rcases keyIs_shape e with ⟨i, t, rfl, rfl⟩ | ⟨x, t, rfl, rfl⟩
  · refine ⟨.int i t, fun hs _ => ?_⟩
    have hs' : i.natAbs.log2 < 1920 := by simpa [keyPy, PyData.showable] using hs
    show ReprK prog w [] h 0 (.int i t) (PyData.shown (.int i))
    simp only [PyData.shown]
    exact .of_is (ReprIs.int t hs') _ _ _
  · refine ⟨.str x t, fun _ hz => ?_⟩
    show ReprK prog w [] h 0 (.str x t) (PyData.shown (.str x))
    have hz' : (reprText x).length ≤ sizeLine := by simpa only [keyPy, PyData.shown] using hz
    simp only [PyData.shown]
    exact .of_is (ReprIs.str x t hz') _ _ _
theorem ents_more {as as' : List Addr} {d d' : Nat} (hs : ∀ b ∈ as, b ∈ as') (hd : d ≤ d') : ∀ {es : List DictEntry} {ps : List Str}, ReprEntriesK prog w as h d es ps → ReprEntriesK prog w as' h d' es ps
  | _, _, .nil => .nil
  | _, _, .cons a b r => .cons ((a.more hs).level_le hd) ((b.more hs).level_le hd) (ents_more hs hd r)
theorem depth_key {k : Key} : (keyPy k).depth = 0 := by cases k <;> simp [keyPy, PyData.depth]
end
section
variable {X : Cx} {pins : List (Addr × Obj)} {σ : L2.St} {H : Hp} {s : Shared}
mutual
theorem Dq.rk (I : Inv X pins σ H s) : ∀ {v : V} {d : PyData}, Dq X.K H v d → ∀ u : Value, RelV v u → d.showable = true → d.shown.length ≤ sizeLine →
    ∃ as bs, Reads s.heap u d as ∧ ReadAtMost s.heap d.depth bs ∧ ReprK X.prog X.w bs s.heap d.depth u d.shown
  | v, d, .flat hd hn, u, r, hs, hz => by
    obtain ⟨as, q⟩ := Dp.reads I d v u hd r
    obtain ⟨bs, h1, h2⟩ := ReprK.of_reads (prog := X.prog) (w := X.w) q hs (PyData.noDict_hsm hn) hz
    exact ⟨as, bs, q, h1, h2⟩
  | _, _, .lst (a := a) (vs := vs) (ds := ds) ha hd, u, r, hs, hz => by
    cases r
    obtain ⟨its, rv, ⟨o, n, ho, hc, _, hdt⟩, _⟩ := I.list (xs := vs) (SqL.of ha)
    have tz : (listText (PyData.shownAll ds)).length ≤ sizeLine := by simpa only [PyData.shown] using hz
    obtain ⟨as, bs, q1, q2, q3⟩ := DqAll.rk I hd its rv (by simpa [PyData.showable] using hs) fun t ht => Nat.le_trans (listText_mem_le ht) tz
    have q : Reads s.heap (.ref a) (.list ds) _ := .list ho hc hdt q1
    have na : a ∉ bs := not_mem_of_deeper q (by simp only [PyData.depth]; omega) q2
    refine ⟨_, a :: bs, q, ReadAtMost.cons q (by simp only [PyData.depth]; omega) q2, ?_⟩
    simp only [PyData.depth, PyData.shown]
    cases its with
    | nil =>
      cases q1
      simp only [PyData.shownAll, listText_nil]
      exact ReprK.listEmpty ho hc hdt
    | cons x l => exact ReprK.list ho hc hdt na (by simpa using q3.length_eq) fun i y e => q3.item i y (by simpa using e)
  | _, _, .tup (a := a) (vs := vs) (ds := ds) ha hd, u, r, hs, hz => by
    cases r
    obtain ⟨its, rv, ⟨o, ho, hc, n, hdt⟩, _⟩ := I.tuple (xs := vs) (.inl (.inl ha))
    have tz : (tupleText (PyData.shownAll ds)).length ≤ sizeLine := by simpa only [PyData.shown] using hz
    obtain ⟨as, bs, q1, q2, q3⟩ := DqAll.rk I hd its rv (by simpa [PyData.showable] using hs) fun t ht => Nat.le_trans (tupleText_mem_le ht) tz
    have q : Reads s.heap (.ref a) (.tuple ds) _ := .tuple ho hc hdt q1
    have na : a ∉ bs := not_mem_of_deeper q (by simp only [PyData.depth]; omega) q2
    refine ⟨_, a :: bs, q, ReadAtMost.cons q (by simp only [PyData.depth]; omega) q2, ?_⟩
    simp only [PyData.depth, PyData.shown]
    exact ReprK.tuple ho hc hdt na q3
  | _, _, .dK (a := a) (vs := vs) (ps := ps) ha hd, u, r, hs, hz => by
    cases r
    obtain ⟨_, hsm, ks, hkv, o, es, ep, ho, ⟨hc, _, _⟩, hdt, _, hpr, _⟩ := dk_of I.hok ha
    have tz : (dictText (PyData.shownKv ps)).length ≤ sizeLine := by simpa only [PyData.shown] using hz
    obtain ⟨as, bs, cs, q1, q2, q3, q4⟩ := DqKv.rk I hd ks es.toList hkv hpr (by simpa [PyData.showable] using hs) fun t ht => Nat.le_trans (dictText_mem_le ht) tz
    have q : Reads s.heap (.ref a) (.dict ps) _ := .dict ho hc hdt q1 q2
    have na : a ∉ cs := not_mem_of_deeper q (by simp only [PyData.depth]; omega) q3
    refine ⟨_, a :: cs, q, ReadAtMost.cons q (by simp only [PyData.depth]; omega) q3, ?_⟩
    simp only [PyData.depth, PyData.shown]
    exact ReprK.dict ho hc hdt hsm na q4
theorem DqAll.rk (I : Inv X pins σ H s) : ∀ {vs : List V} {ds : List PyData}, DqAll X.K H vs ds → ∀ us : List Value, Vals vs us → PyData.showableAll ds = true → (∀ t ∈ PyData.shownAll ds, t.length ≤ sizeLine) →
    ∃ as bs, ReadsAll s.heap us ds as ∧ ReadAtMost s.heap (PyData.depthAll ds) bs ∧ ReprAllK X.prog X.w bs s.heap (PyData.depthAll ds) us (PyData.shownAll ds)
  | _, _, .nil, us, r, _, _ => by
    cases r
    exact ⟨[], [], .nil, (fun _ h => nomatch h), by simp only [PyData.shownAll]; exact .nil⟩
  | _, _, .cons (d := d) (ds := ds) h1 h2, us, r, hs, hz => by
    cases r with
    | cons r1 r2 =>
      have hs' : d.showable = true ∧ PyData.showableAll ds = true := by simpa [PyData.showableAll] using hs
      obtain ⟨as, bs, q1, q2, q3⟩ := Dq.rk I h1 _ r1 hs'.1 (hz _ (by simp only [PyData.shownAll]; exact List.mem_cons_self ..))
      obtain ⟨as', bs', q1', q2', q3'⟩ := DqAll.rk I h2 _ r2 hs'.2 fun t ht => hz t (by simp only [PyData.shownAll]; exact List.mem_cons_of_mem _ ht)
      refine ⟨_, bs ++ bs', .cons q1 q1', ?_, ?_⟩
      · simp only [PyData.depthAll]
        exact (q2.mono (Nat.le_max_left _ _)).append (q2'.mono (Nat.le_max_right _ _))
      · simp only [PyData.depthAll, PyData.shownAll]
        exact .cons ((q3.more fun b hb => List.mem_append_left _ hb).level_le (Nat.le_max_left _ _)) (q3'.more_le (fun b hb => List.mem_append_right _ hb) (Nat.le_max_right _ _))
theorem DqKv.rk (I : Inv X pins σ H s) : ∀ {vs : List (Key × V)} {ps : List (PyData × PyData)}, DqKv X.K H vs ps → ∀ (ks : List (Key × Value)) (es : List DictEntry), KV vs ks → Pairs (mixKind X.prog X.w) es ks → PyData.showableKv ps = true → (∀ t ∈ PyData.shownKv ps, t.length ≤ sizeLine) →
    ∃ as bs cs, ReadsAll s.heap (es.map (·.key)) (ps.map (·.1)) as ∧ ReadsAll s.heap (es.map (·.val)) (ps.map (·.2)) bs ∧ ReadAtMost s.heap (PyData.depthKv ps) cs ∧ ReprEntriesK X.prog X.w cs s.heap (PyData.depthKv ps) es (PyData.shownKv ps)
  | _, _, .nil, ks, es, hk, hp, _, _ => by
    cases hk
    cases hp
    exact ⟨[], [], [], .nil, .nil, (fun _ h => nomatch h), by simp only [PyData.shownKv]; exact .nil⟩
  | _, _, .cons (k := k) (v := v) (d := d) (ps := ps) h1 h2, ks, es, hk, hp, hs, hz => by
    cases hk with
    | cons rk hk =>
      cases hp with
      | cons ek ev hp =>
        obtain ⟨e1, e2⟩ := rk
        have hs' : ((keyPy k).showable = true ∧ d.showable = true) ∧ PyData.showableKv ps = true := by simpa [PyData.showableKv] using hs
        have hz1 := hz _ (by simp only [PyData.shownKv]; exact List.mem_cons_self ..)
        rw [strLen_append, strLen_append] at hz1
        have e1 : k = _ := e1
        rw [← e1] at ek
        obtain ⟨kr, kk⟩ := key_reads (h := s.heap) ek
        have kq := kk hs'.1.1 (by omega)
        rw [← ev] at e2
        obtain ⟨as, bs, q1, q2, q3⟩ := Dq.rk I h1 _ e2 hs'.1.2 (by omega)
        obtain ⟨as', bs', cs', q1', q2', q3', q4'⟩ := DqKv.rk I h2 _ _ hk hp hs'.2 fun t ht => hz t (by simp only [PyData.shownKv]; exact List.mem_cons_of_mem _ ht)
        refine ⟨_, _, bs ++ cs', .cons kr q1', .cons q1 q2', ?_, ?_⟩
        · simp only [PyData.depthKv]
          exact (q2.mono (by omega)).append (q3'.mono (by omega))
        · simp only [PyData.depthKv, PyData.shownKv]
          refine .cons ((kq.more fun b hb => nomatch hb).level_le (Nat.zero_le _)) ((q3.more fun b hb => List.mem_append_left _ hb).level_le (by omega)) ?_
          exact ents_more (fun b hb => List.mem_append_right _ hb) (by omega) q4'
end
end
section
variable {X : Cx}
def rReprQ (K : PySem.W.Frag) : List V → Hp → VK → Prop := fun xs H Q => ∃ x d, xs = [x] ∧ Dq K H x d ∧ d.showable = true ∧ d.depth ≤ 60 ∧ d.shown.length ≤ sizeLine ∧ Q (.str d.shown) H
theorem call_reprQ (hg : X.A.guards = some []) (hu : X.A.units + 64 < cLine) : CallR X (.builtin "repr") (rReprQ X.K) := by
  intro pins s σ H xs us Q I r h
  obtain ⟨x, d, rfl, hd, hs, hdp, hz, q⟩ := h
  cases hd with
  | flat h1 h2 => exact call_reprD hg hu pins s σ H _ us Q I r ⟨_, _, rfl, h1, h2, hs, hdp, hz, q⟩
  | lst ha hd =>
    obtain ⟨u, rfl, rx⟩ := vals1 r
    cases rx
    rename_i a vs ds
    obtain ⟨its, rv, ⟨o, n, ho, hc, _, hdt⟩, _⟩ := I.list (xs := vs) (SqL.of ha)
    have tz : (listText (PyData.shownAll ds)).length ≤ sizeLine := by simpa only [PyData.shown] using hz
    obtain ⟨as, bs, q1, q2, q3⟩ := DqAll.rk I hd its rv (by simpa [PyData.showable] using hs) fun t ht => Nat.le_trans (listText_mem_le ht) tz
    have q' : Reads s.heap (.ref a) (.list ds) _ := .list ho hc hdt q1
    have na : a ∉ bs := not_mem_of_deeper q' (by simp only [PyData.depth]; omega) q2
    simp only [PyData.depth] at hdp
    simp only [PyData.shown] at q
    have fin : ∀ h' (u tk : Tok), (∀ b o, s.heap.get? b = some o → h'.get? b = some o) → EP X pins σ Q (.str (listText (PyData.shownAll ds)) u) { s with heap := h', toks := tk } := fun h' u tk hk => ⟨.str _, H, I.kept (t' := tk) hk, ⟨_, rfl⟩, q⟩
    refine call_repr_slot (T := "list") (by omega) ⟨o, ho, hc⟩ F.slot_list_repr.toG ?_
    cases its with
    | nil =>
      cases q1
      simp only [PyData.shownAll, listText_nil] at fin
      exact call_list_repr_empty ⟨o, ho, hc⟩ ho hdt ⟨_, _, rfl, fin s.heap _ _ fun _ _ e => e⟩
    | cons x l =>
      exact call_list_reprK (A := X.A.in1) ho hc hdt na (by simpa using q3.length_eq) (fun i y e => q3.item i y (by simpa using e)) hg (fun b _ => Clear.nil b) (by show X.A.units + 1 + _ < cLine; omega) (fun _ _ e => e) (fun h' u tk hk => ⟨_, _, rfl, fin h' u tk hk⟩) tz
  | tup ha hd =>
    obtain ⟨u, rfl, rx⟩ := vals1 r
    cases rx
    rename_i a vs ds
    obtain ⟨its, rv, ⟨o, ho, hc, n, hdt⟩, _⟩ := I.tuple (xs := vs) (.inl (.inl ha))
    have tz : (tupleText (PyData.shownAll ds)).length ≤ sizeLine := by simpa only [PyData.shown] using hz
    obtain ⟨as, bs, q1, q2, q3⟩ := DqAll.rk I hd its rv (by simpa [PyData.showable] using hs) fun t ht => Nat.le_trans (tupleText_mem_le ht) tz
    have q' : Reads s.heap (.ref a) (.tuple ds) _ := .tuple ho hc hdt q1
    have na : a ∉ bs := not_mem_of_deeper q' (by simp only [PyData.depth]; omega) q2
    simp only [PyData.depth] at hdp
    simp only [PyData.shown] at q
    refine call_repr_slot (T := "tuple") (by omega) ⟨o, ho, hc⟩ F.slot_tuple_repr ?_
    exact call_tuple_reprK (A := X.A.in1) ho hc hdt na q3 hg (fun b _ => Clear.nil b) (by show X.A.units + 1 + _ < cLine; omega) (fun _ _ e => e) (fun h' u tk hk => ⟨_, _, rfl, ⟨.str _, H, I.kept (t' := tk) hk, ⟨_, rfl⟩, q⟩⟩) tz
  | dK ha hd =>
    obtain ⟨u, rfl, rx⟩ := vals1 r
    cases rx
    rename_i a vs ps
    obtain ⟨_, hsm, ks, hkv, o, es, ep, ho, ⟨hc, _, _⟩, hdt, _, hpr, _⟩ := dk_of I.hok ha
    have tz : (dictText (PyData.shownKv ps)).length ≤ sizeLine := by simpa only [PyData.shown] using hz
    obtain ⟨as, bs, cs, q1, q2, q3, q4⟩ := DqKv.rk I hd ks es.toList hkv hpr (by simpa [PyData.showable] using hs) fun t ht => Nat.le_trans (dictText_mem_le ht) tz
    have q' : Reads s.heap (.ref a) (.dict ps) _ := .dict ho hc hdt q1 q2
    have na : a ∉ cs := not_mem_of_deeper q' (by simp only [PyData.depth]; omega) q3
    simp only [PyData.depth] at hdp
    simp only [PyData.shown] at q
    refine call_repr_slot (T := "dict") (by omega) ⟨o, ho, hc⟩ F.slot_dict_repr ?_
    exact call_dict_reprK (A := X.A.in1) ho hc hdt hsm na q4 hg (fun b _ => Clear.nil b) (by show X.A.units + 1 + _ < cLine; omega) (fun _ _ e => e) (fun h' u tk hk => ⟨_, _, rfl, ⟨.str _, H, I.kept (t' := tk) hk, ⟨_, rfl⟩, q⟩⟩) tz
end
end DL

namespace DX
open PySem PySem.Spec PyProof.Rows L2 NdefX DL
/-! ### repr over data -/
mutual
def toPyR : D → Option PyData
  | .tup xs => (toPyRs xs).map .tuple
  | .lst xs => (toPyRs xs).map .list
  | .dK kvs => (toPyKv kvs).map .dict
  | .non => some .none
  | .bl b => some (.bool b)
  | .int i => some (.int i)
  | .str x => some (.str x)
  | .kon _ => none
  | .obj _ _ => none
  | .exc _ _ => none
  | .dT _ => none
  | .raw _ => none
  | .paw => none
  | .slot _ => none
def toPyRs : List D → Option (List PyData)
  | [] => some []
  | x :: xs => (toPyR x).bind fun p => (toPyRs xs).map fun ps => p :: ps
def toPyKv : List (Key × D) → Option (List (PyData × PyData))
  | [] => some []
  | (k, x) :: xs => (toPyR x).bind fun p => (toPyKv xs).map fun ps => (keyPy k, p) :: ps
end
section
variable {K : PySem.W.Frag} {W : Wd}
mutual
theorem Rep.dq : ∀ {v : V} {d : D} {p : PyData}, Rep K W v d → toPyR d = some p → Dq K W.H v p
  | _, _, _, .non, h => by rw [toPyR] at h; cases h; exact .flat .non rfl
  | _, _, _, .bl b, h => by rw [toPyR] at h; cases h; exact .flat (.bl b) rfl
  | _, _, _, .int i, h => by rw [toPyR] at h; cases h; exact .flat (.int i) rfl
  | _, _, _, .str x, h => by rw [toPyR] at h; cases h; exact .flat (.str x) rfl
  | _, _, p, .tup (ds := ds) q r, h => by
    rw [toPyR] at h
    cases e : toPyRs ds with
    | none => rw [e] at h; cases h
    | some ps =>
      rw [e] at h
      cases h
      exact .tup q (Reps.dq r e)
  | _, _, p, .lst (ds := ds) q n r, h => by
    rw [toPyR] at h
    cases e : toPyRs ds with
    | none => rw [e] at h; cases h
    | some ps =>
      rw [e] at h
      cases h
      exact .lst q (Reps.dq r e)
  | _, _, p, .dK (vs := vs) (kvs := kvs) q n e1 r, h => by
    rw [toPyR] at h
    cases e : toPyKv kvs with
    | none => rw [e] at h; cases h
    | some ps =>
      rw [e] at h
      cases h
      exact .dK q (Reps.dkv (vs := vs) e1 r e)
  | _, _, _, .kon _ _, h => by rw [toPyR] at h; cases h
  | _, _, _, .obj _ _ _ _, h => by rw [toPyR] at h; cases h
  | _, _, _, .exc _ _ _ _ _ _, h => by rw [toPyR] at h; cases h
  | _, _, _, .dT _ _ _ _, h => by rw [toPyR] at h; cases h
  | _, _, _, .raw _, h => by rw [toPyR] at h; cases h
  | _, _, _, .paw, h => by rw [toPyR] at h; cases h
theorem Reps.dq : ∀ {vs : List V} {ds : List D} {ps : List PyData}, Reps K W vs ds → toPyRs ds = some ps → DqAll K W.H vs ps
  | _, _, _, .nil, h => by rw [toPyRs] at h; cases h; exact .nil
  | _, _, _, .cons (d := d) (ds := ds) a r, h => by
    rw [toPyRs] at h
    cases e : toPyR d with
    | none => rw [e] at h; cases h
    | some p =>
      rw [e] at h
      cases e2 : toPyRs ds with
      | none => rw [e2] at h; cases h
      | some ps =>
        rw [e2] at h
        cases h
        exact .cons (Rep.dq a e) (Reps.dq r e2)
theorem Reps.dkv : ∀ {vs : List (Key × V)} {kvs : List (Key × D)} {ps : List (PyData × PyData)}, vs.map (·.1) = kvs.map (·.1) → Reps K W (vs.map (·.2)) (kvs.map (·.2)) → toPyKv kvs = some ps → DqKv K W.H vs ps
  | [], [], _, _, _, h => by rw [toPyKv] at h; cases h; exact .nil
  | [], _ :: _, _, e, _, _ => by cases e
  | _ :: _, [], _, e, _, _ => by cases e
  | (k, v) :: vs, (k', d) :: kvs, _, e1, .cons a r, h => by
    have e1' : k :: vs.map (·.1) = k' :: kvs.map (·.1) := e1
    injection e1' with e1a e1b
    subst e1a
    rw [toPyKv] at h
    cases e : toPyR d with
    | none => rw [e] at h; cases h
    | some p =>
      rw [e] at h
      cases e2 : toPyKv kvs with
      | none => rw [e2] at h; cases h
      | some ps =>
        rw [e2] at h
        cases h
        exact .cons (Rep.dq a e) (Reps.dkv e1b r e2)
end
end
def fReprQ : DCl := fun _ ds Q => match ds with
  | [d] => d.isSlot = false ∧ match toPyR d with
    | some p => p.showable = true ∧ p.depth ≤ 60 ∧ p.shown.length ≤ sizeLine ∧ Q (.str p.shown)
    | none => False
  | _ => False
theorem b_reprQ {X : Cx} (hg : X.A.guards = some []) (hu : X.A.units + 64 < cLine) : CallR X (.builtin "repr") (rReprQ X.K) ∧ SndC X.K (rReprQ X.K) fReprQ := by
  refine ⟨call_reprQ hg hu, fun c W σ s xs ds Qv Qd R r h k => ?_⟩
  unfold fReprQ at h
  split at h
  · rename_i d
    obtain ⟨v, rfl, rv⟩ := repsT_one r
    obtain ⟨hs, h⟩ := h
    cases q : toPyR d with
    | none => rw [q] at h; exact h.elim
    | some p =>
      rw [q] at h
      obtain ⟨h1, h2, h3, h4⟩ := h
      exact ⟨v, p, rfl, Rep.dq (rv.to hs) q, h1, h2, h3, k _ W _ R (Pr.refl _) (Rep.str _).t h4⟩
  · exact h.elim
end DX

namespace DX
open PySem PySem.Spec PyProof.Rows L2 NdefX DL
/-! ### errors over data: what an __init__ promises -/
/-- the fields by their places among the arguments -/
def fl {α : Type} (ns : List (Str × Nat)) (xs : List α) : List (Str × α) := ns.filterMap fun p => (xs[p.2]?).map fun x => (p.1, x)
/-- what may be written into a message, or is no text -/
def okA (K : PySem.W.Frag) (H : Hp) (v : V) : Prop := (∃ y : Str, v = .str y ∧ y.length ≤ 1000) ∨ ∃ t : String, TyX K H v (.type t) ∧ kitB t "str" = some false
def spErr (K : PySem.W.Frag) (C : Addr) (n : Nat) (ns : List (Str × Nat)) : Sp := fun vs H Q _ => ∃ (a : Addr) (w0 : V) (ws : List V), vs = .ref a :: w0 :: ws ∧ ws.length + 1 = n ∧ H a = some (exo a C none) ∧ okA K H w0 ∧
  ∀ H' d, (∀ b o, H b = some o → b ≠ a → H' b = some o) → H' a = some (exo a C (some d)) → H' d = some (exd d (fl ns (w0 :: ws))) → H d = none → Q .non H'
def okD : D → Bool
  | .str y => decide (y.length ≤ 1000)
  | .non => true
  | .bl _ => true
  | .int _ => true
  | .tup _ => true
  | .lst _ => true
  | .dK _ => true
  | _ => false
section
variable {K : PySem.W.Frag} {W : Wd}
theorem okA_of {v : V} {d : D} (r : Rep K W v d) (h : okD d = true) : okA K W.H v := by
  cases r with
  | non => exact .inr ⟨"NoneType", .base .non, by decide +kernel⟩
  | bl b => exact .inr ⟨"bool", .base (.bl b), by decide +kernel⟩
  | int i => exact .inr ⟨"int", .base (.int i), by decide +kernel⟩
  | str y => exact .inl ⟨y, rfl, of_decide_eq_true h⟩
  | tup q _ => exact .inr ⟨"tuple", .base (.tup q), by decide +kernel⟩
  | lst q _ _ => exact .inr ⟨"list", .base (.lst q), by decide +kernel⟩
  | dK q _ _ _ => exact .inr ⟨"dict", .base (.dK q), by decide +kernel⟩
  | _ => cases h
theorem fl_names {α β : Type} {vs : List α} {ds : List β} (h : vs.length = ds.length) : ∀ {ns : List (Str × Nat)}, (fl ns vs).map (·.1) = (fl ns ds).map (·.1)
  | [] => rfl
  | (f, i) :: ns => by
    have ih := fl_names h (ns := ns)
    unfold fl at ih ⊢
    rw [List.filterMap_cons, List.filterMap_cons]
    by_cases hi : i < vs.length
    · rw [List.getElem?_eq_getElem hi, List.getElem?_eq_getElem (h ▸ hi)]
      show f :: _ = f :: _
      rw [ih]
    · rw [List.getElem?_eq_none (by omega), List.getElem?_eq_none (by omega)]
      exact ih
theorem fl_reps {vs : List V} {ds : List D} (r : Reps K W vs ds) : ∀ {ns : List (Str × Nat)}, Reps K W ((fl ns vs).map (·.2)) ((fl ns ds).map (·.2))
  | [] => .nil
  | (f, i) :: ns => by
    have ih := fl_reps r (ns := ns)
    unfold fl at ih ⊢
    rw [List.filterMap_cons, List.filterMap_cons]
    by_cases hi : i < ds.length
    · obtain ⟨v, hv, rv⟩ := r.get (List.getElem?_eq_getElem hi)
      rw [hv, List.getElem?_eq_getElem hi]
      exact .cons rv ih
    · rw [List.getElem?_eq_none (by rw [r.length]; omega), List.getElem?_eq_none (by omega)]
      exact ih
end
/-- C(e, ..) over data -/
def dMkX (C : Addr) (n : Nat) (ns : List (Str × Nat)) (ra : DA) : DE := fun s Q => ra s fun ds s1 => noSlots ds = true ∧ match ds with
  | d0 :: ds => ds.length + 1 = n ∧ n ≤ 12 ∧ okD d0 = true ∧ Q (.exc C (fl ns (d0 :: ds))) s1
  | [] => False
theorem snd_mkx {K : PySem.W.Frag} {C : Addr} {n : Nat} {ns : List (Str × Nat)} {ta : TA} {ra : DA} (ha : SndA K ta ra) : SndE K (tMkX C (spErr K C n ns) ta) (dMkX C n ns ra) := by
  intro c W σ s Qv Qd R h kq
  refine ha c W σ s _ _ R h fun vs W1 ds s1 R1 p1 r1 q1 => ?_
  obtain ⟨hn, q1⟩ := q1
  have r2 := r1.to hn
  cases ds with
  | nil => exact q1.elim
  | cons d0 ds =>
    obtain ⟨hl, hn12, ho, q⟩ := q1
    cases r2 with
    | cons ra rr =>
      rename_i v0 ws
      have hlen := rr.length
      refine ⟨by rw [List.length_cons]; omega, fun a hna => ⟨a, v0, ws, rfl, by omega, upd_same, okA_of (W := ⟨W1.M, upd W1.H a (exo a C none), W1.pa⟩) (ra.mono (Pr.new hna)) ho, fun H' d hk e1 e2 hd => ⟨rfl, ?_⟩⟩⟩
      have sm : Same W1.H H' := fun b o e => hk b o (by rw [upd_ne (ne_of_none e hna)]; exact e) (ne_of_none e hna)
      have nda : d ≠ a := fun z => by rw [z, upd_same] at hd; cases hd
      have hd0 : W1.H d = none := by rw [upd_ne nda] at hd; exact hd
      have rs : Reps K ⟨W1.M, H', W1.pa⟩ (v0 :: ws) (d0 :: ds) := (Reps.cons ra rr).mono (Pr.same sm)
      have rx : Rep K ⟨W1.M, H', W1.pa⟩ (.ref a) (.exc C (fl ns (d0 :: ds))) := Rep.exc e1 (R1.fresh hna) e2 (R1.fresh hd0) (fl_names rs.length) (fl_reps rs)
      exact kq (.ref a) ⟨W1.M, H', W1.pa⟩ (.exc C (fl ns (d0 :: ds))) s1 (R1.same sm) (p1.trans (Pr.same sm)) rx.t q
section
variable {X : Cx} {C : Addr} {k : Nat} {ps ks : List Str} {st : Stmt} {x : Str} {e : Expr} {es : List Expr} {kws : List Keyword} {ta tk : TA} {ra rk : DA} {p pos : Pos} {n : Nat} {ns : List (Str × Nat)}
theorem d_mkx (M : MkX X.prog X.w X.K X.mg X.base k C ps st (spErr X.K C n ns)) (hr : Room (k + 1) X.A) (hm : X.mg x = some (.ref C)) (ha : PDA X (e :: es) ta ra)
    (hbd : ∀ (q : Str) (kV doc pm cdv ct : Value) (an : Option Addr) (cc : Addr) (us : List Value), us.length = ps.length → bindArgs (PySem.W.fnX "__init__" q (defArgs st) (defBody st) (defScope st) [("__class__", cc)] .none kV doc pm an cdv ct) ⟨us, []⟩ = pure (ps.zip us))
    (hg : Gl X x := by rfl) (hdb : (x == ("__debug__" : Str)) = false := by decide) (he : starEach (e :: es) X.env = (false, eval e X.env) :: starEach es X.env := by rfl) (hpl : (backTo pos (starEach es X.env)).any (·.1) = false := by rfl) :
    PD X (.Call (.Name x p) (e :: es) [] pos) (tMkX C (spErr X.K C n ns) ta) (dMkX C n ns ra) := ⟨pe_mkx M hr hm ha.pa hbd hg hdb he hpl, snd_mkx ha.snd⟩
theorem d_mkxK {is : List Nat} (M : MkX X.prog X.w X.K X.mg X.base k C ps st (spErr X.K C n ns)) (hr : Room (k + 1) X.A) (hm : X.mg x = some (.ref C)) (hkw : PDK X kws tk rk)
    (hbd : ∀ (q : Str) (kV doc pm cdv ct : Value) (an : Option Addr) (cc : Addr) (u : Value) (ws : List Value), ws.length = kws.length → bindArgs (PySem.W.fnX "__init__" q (defArgs st) (defBody st) (defScope st) [("__class__", cc)] .none kV doc pm an cdv ct) ⟨[u], ks.zip ws⟩ = pure (ps.zip (u :: ord is ws)))
    (hg : Gl X x := by rfl) (hall : (backToKw pos (keywordEach kws X.env)).all (·.1.isSome) = true := by rfl) (hks : (backToKw pos (keywordEach kws X.env)).filterMap (·.1) = ks := by rfl)
    (hdb : (x == ("__debug__" : Str)) = false := by decide) (hpl : ((backTo pos (starEach [] X.env)).any (·.1) || (backToKw pos (keywordEach kws X.env)).any (·.1.isNone)) = false := by rfl) :
    PD X (.Call (.Name x p) [] kws pos) (tMkX C (spErr X.K C n ns) (fun σ H Q => tk σ H fun zs H1 => Q (ord is zs) H1)) (dMkX C n ns (fun s Q => rk s fun es s1 => Q (ord is es) s1)) := by
  refine ⟨pe_mkxK M hr hm hkw.pk hbd hg hall hks hdb hpl, snd_mkx fun c W σ s Qv Qd R h k => ?_⟩
  exact hkw.snd c W σ s _ _ R h fun zs W1 es s1 R1 p1 r1 q1 => k _ W1 _ s1 R1 p1 (ord_repsT r1) q1
end
/-- what the written part says of an own class of errors -/
structure ErrK (K : PySem.W.Frag) (C : Addr) : Prop where
  xf : XfC K C
  ex : ExcC K C
  nf : ∀ f : Str, f ∈ (["part", "what", "most", "line", "item"] : List Str) → PySem.W.findIn K (.ref C) f = some none
def dXat (K : PySem.W.Frag) (f : Str) (t : DE) : DE := fun s Q => t s fun d s1 => match d with
  | .exc C fs => ErrK K C ∧ match fs.lookup f with
    | some y => Q y s1
    | none => False
  | _ => False
section
variable {X : Cx} {e : Expr} {te : TE} {t : DE} {pos : Pos} {f : Str}
theorem d_xat (hf : f ∈ (["part", "what", "most", "line", "item"] : List Str)) (he : PD X e te t) (hb : attributeBase e f X.env (eval e X.env) = eval e X.env := by rfl) : PD X (.Attribute e f pos) (tXat X.K f te) (dXat X.K f t) := by
  refine ⟨pe_xat he.pe hb, fun c0 W σ s Qv Qd R h kq => ?_⟩
  refine he.snd c0 W σ s _ _ R h fun v W1 d s1 R1 p1 r1 q1 => ?_
  cases d with
  | exc C fs =>
    obtain ⟨T, q⟩ := q1
    have r1' : Rep X.K W1 v (.exc C fs) := r1
    cases r1' with
    | exc h1 n1 h2 n2 hn rr =>
      rename_i a d vs
      cases e2 : fs.lookup f with
      | none => rw [e2] at q; exact q.elim
      | some y =>
        rw [e2] at q
        obtain ⟨u, l1, rv⟩ := look_reps hn rr e2
        exact ⟨a, C, d, vs, u, rfl, h1, h2, T.xf, T.nf f hf, l1, kq u W1 y s1 R1 p1 rv.t q⟩
  | _ => exact q1.elim
/-- isinstance of a made error, by what the written part tells -/
def IsA (K : PySem.W.Frag) (C : Addr) (v : V) (b : Bool) : Prop := ∃ cv : Value, (∀ u, RelV v u → u = cv) ∧ PySem.W.kitOne K (.ref C) cv = some b
def fIsX (K : PySem.W.Frag) : DCl := fun _ ds Q => match ds with
  | [.exc C _, .raw v] => ∃ b, ErrK K C ∧ IsA K C v b ∧ Q (.bl b)
  | [.exc C _, .tup cs] => ∃ (b : Bool) (ns : List String), ErrK K C ∧ rawTys cs = some ns ∧ PySem.W.kitAny K (.ref C) (ns.map Value.type) = some b ∧ Q (.bl b)
  | _ => False
theorem b_isX : CallR X (.builtin "isinstance") (rIsX X.K) ∧ SndC X.K (rIsX X.K) (fIsX X.K) := by
  refine ⟨call_isX, fun c W σ s xs ds Qv Qd R r h k => ?_⟩
  unfold fIsX at h
  split at h
  · rename_i C fs v
    obtain ⟨b, T, ⟨cv, h1, h2⟩, q⟩ := h
    obtain ⟨x, y, rfl, rx, ry⟩ := repsT_two r
    have rx' : Rep X.K W x (.exc C fs) := rx
    have ry' : Rep X.K W y (.raw v) := ry
    cases ry'
    cases rx' with
    | exc e1 n1 e2 n2 hn rr => exact ⟨_, C, _, _, b, rfl, ⟨_, e1, e2⟩, T.ex, .inl ⟨cv, h1, h2⟩, k _ W _ R (Pr.refl _) (Rep.bl _).t q⟩
  · rename_i C fs cs
    obtain ⟨b, ns, T, h1, h2, q⟩ := h
    obtain ⟨x, y, rfl, rx, ry⟩ := repsT_two r
    have rx' : Rep X.K W x (.exc C fs) := rx
    have ry' : Rep X.K W y (.tup cs) := ry
    cases ry' with
    | tup hq rr' =>
      have e := rawTys_spec rr' h1
      subst e
      cases rx' with
      | exc e1 n1 e2 n2 hn rr => exact ⟨_, C, _, _, b, rfl, ⟨_, e1, e2⟩, T.ex, .inr ⟨_, ns, rfl, hq, h2⟩, k _ W _ R (Pr.refl _) (Rep.bl _).t q⟩
  · exact h.elim
end
end DX

namespace PySem.W
open PySem PySem.Calls PyProof.Rows Builtin Builtin.ObjectAttr Builtin.Getset_descriptor
section
variable {prog : Program} {w : World} {A : Around} {E : Value → Shared → Prop} {s : Shared} {K : Frag} {R : Result → Shared → Prop} {C : Addr}
/-- the name of an own class, kept in its object -/
theorem kp_name_get {tp : Value} {o : Obj} {nm : Str} {tk : Tok} (X : K.In s.heap) (ht : typeIn K (.ref C) = some (.type "type")) (hl : K.lookup C = some o) (hs : o.slots[2]? = some (some (.str nm tk))) (h : R (.ok (.ret (.str nm tk))) s) :
    codeAny (model prog w) A (.call (.builtin "getset_descriptor.__get__") ⟨[.builtin "type.__name__", .ref C, tp], []⟩) R s := by
  have hC := X _ _ hl
  obtain ⟨hh, g, dr, t, os⟩ := s
  have L0 : Looks (model prog w) hh (typeOf (.ref C)) (.type "type") := looks_typeIn X ht
  have L1 : Looks (model prog w) hh (isSubtype (.type "type") (.type "type")) true := Looks.of_pure (by rw [isSubtype_type]; kernel_rfl)
  refine codeAny_call_builtin KF.slot_gs.plain KF.entry_gs (KF.slot_gs.check _ _ _ _ _ _ _ _ ktyn_type (KF.args_gs _ _ _) ?_)
  unfold Builtin.«getset_descriptor.__get__» descrGet
  rw [dga_obj]
  refine wpAny_bind (wpAny_pure ?_)
  unfold descrGetter descrCheckInstance descrNameAndClass isInstance
  simp only [ktyn_owner]
  repeat lk
  refine ⟨Code.quiet_builtin _ (by decide +kernel), codeAny_builtin ktyn_entry ?_⟩
  unfold Builtin.«type.__name__»
  dsimp only
  unfold keptObject
  dsimp only
  unfold slotAt
  refine wpAny_bind (wpAny_bind (wpAny_loadPart_at hC ?_))
  refine wpAny_pure ?_
  rw [hs]
  exact wpAny_pure h
end
end PySem.W
namespace DL
open PySem L2
/-- what a class must have that its name is read of an instance -/
structure NmK (K : PySem.W.Frag) (C : Addr) (nm : Str) : Prop where
  c : Cls K C
  ha : PySem.W.findIn K (.ref C) "__class__" = some (some (.builtin "object.__class__"))
  hn : PySem.W.specialIn K (.builtin "object.__class__") "__get__" = some (some (.builtin "getset_descriptor.__get__"))
  htk : PySem.W.takesIn K (.builtin "object.__class__") = some true
  hm : PySem.W.mroIn K C (.type "object") = some true
  hr : PySem.W.readsIn K C (.type "type") = true
  ht : PySem.W.typeIn K (.ref C) = some (.type "type")
  e : PySem.W.findCls K (.ref C) (.type "type") "__name__" = some (.get (.builtin "getset_descriptor.__get__") (.builtin "type.__name__") (.ref C) (.type "type"))
  sl : ∃ o tk, K.lookup C = some o ∧ o.slots[2]? = some (some (.str nm tk))
def tNm (K : PySem.W.Frag) (ta : TE) : TE := fun σ H Q => ta σ H fun x H1 => ∃ a C dx fs nm, x = .ref a ∧ H1 a = some (.ins C dx fs) ∧ NmK K C nm ∧ Q (.str nm) H1
section
variable {X : Cx} {e : Expr} {ta : TE} {p1 p2 : Pos} {t : DE}
theorem pe_nm (he : PE X e ta) (h1 : attributeBase e "__class__" X.env (eval e X.env) = eval e X.env := by rfl) (h2 : attributeBase (.Attribute e "__class__" p1) "__name__" X.env (eval (.Attribute e "__class__" p1) X.env) = eval (.Attribute e "__class__" p1) X.env := by rfl) :
    PE X (.Attribute (.Attribute e "__class__" p1) "__name__" p2) (tNm X.K ta) := by
  refine ⟨fun pins s σ H Q I h => ?_⟩
  refine attr_of h2 (attr_of h1 (thn (he.run pins s σ H _ I h) fun u s1 ⟨x, H1, I1, rx, a, C, dx, fs, nm, ex, ea, N, q⟩ => ?_))
  subst ex
  obtain rfl : u = Value.ref a := rx
  obtain ⟨mA, J, _⟩ := ins_get I1.hok ea
  obtain ⟨od, J, _⟩ := J.look
  obtain ⟨m, hF⟩ := I1.fr
  obtain ⟨o, tk, hl, hs⟩ := N.sl
  refine PySem.W.get_class hF I1.ok.mod.kin J (N.c.get _) N.c.hd N.ha N.hn N.htk N.hm ?_
  have I2 := I1.tok (s1.toks + 1)
  refine PySem.W.cls_bind (K := X.K) I2.kIn N.hr N.e (wpAny_call (PySem.W.kp_name_get (K := X.K) (I2.tok _).kIn N.ht hl hs ?_))
  exact PySem.W.handed_on rfl ⟨.str nm, H1, I2.tok _, ⟨tk, rfl⟩, q⟩
def dNm (K : PySem.W.Frag) (t : DE) : DE := fun s Q => t s fun d s1 => match fldsOf s1 d with
  | some (C, _) => ∃ nm, NmK K C nm ∧ Q (.str nm) s1
  | none => False
theorem d_nm (K : PySem.W.Frag) (hK : X.K = K) (he : PD X e ta t) (h1 : attributeBase e "__class__" X.env (eval e X.env) = eval e X.env := by rfl) (h2 : attributeBase (.Attribute e "__class__" p1) "__name__" X.env (eval (.Attribute e "__class__" p1) X.env) = eval (.Attribute e "__class__" p1) X.env := by rfl) :
    PD X (.Attribute (.Attribute e "__class__" p1) "__name__" p2) (tNm K ta) (dNm K t) := by
  subst hK
  refine ⟨pe_nm he.pe h1 h2, fun c W σ s Qv Qd R h k => ?_⟩
  refine he.snd c W σ s _ _ R h fun v W1 d s1 R1 p1 r1 q1 => ?_
  have q2 : match fldsOf s1 d with
    | some (C, _) => ∃ nm, NmK X.K C nm ∧ Qd (.str nm) s1
    | none => False := q1
  cases e1 : fldsOf s1 d with
  | none => rw [e1] at q2; exact q2.elim
  | some cf =>
    obtain ⟨C, fs⟩ := cf
    rw [e1] at q2
    obtain ⟨nm, N, q3⟩ := q2
    obtain ⟨a, dx, vs, rfl, g4, _, _⟩ := flds_spec R1 r1 e1
    exact ⟨a, C, dx, vs, nm, rfl, g4, N, k _ W1 _ s1 R1 p1 (Rep.str nm).t q3⟩
end
end DL

namespace PySem.W
open PySem PySem.Calls PyProof.Rows Builtin
section
variable {prog : Program} {w : World} {A : Around} {E : Value → Shared → Prop} {s : Shared} {K : Frag} {C x f : Addr} {ox : Obj} {od : Option Obj} {name : Str}
/-- a slot of a built-in, called for an instance -/
theorem kp_ifBound_slot {B id : String} {M : Model} {args : List Value} {Q : Option Value → Shared → Prop} (X : K.In s.heap) (I : InstAt s.heap x ox C od) (hs : findIn K (.ref C) name = some (some (.builtin id))) (S : Slot B name id)
    (h : wpAny M A (call (.builtin id) (.ref x :: args)) (fun v => Q (some v)) E s) : wpAny M A (callSpecialIfBound? (.ref x) name args) Q E s := by
  simp only [callSpecialIfBound?, bindSpecialIfBound?]
  refine wpAny_holding (wpAny_bind (wpAny_bind (wpAny_bind (I.type.here ((looks_findIn X hs).here ?_)))))
  simp only [S.bind]
  refine wpAny_bind (wpAny_askSetting (wpAny_ite ?_))
  have fin : wpAny M A (call (.builtin id) ([.ref x] ++ args) >>= fun v => pure (some v)) Q E s := wpAny_bind (wpAny_mono h (fun v s' h' => wpAny_pure h') fun _ _ h' => h')
  split
  · exact wpAny_bind (wpAny_pure (wpAny_pure fin))
  · exact wpAny_tryCatch (wpAny_bind (wpAny_pure (wpAny_pure fin)))
theorem kp_special {M : Model} {args : List Value} {Q : Option Value → Shared → Prop} (X : K.In s.heap) (I : InstAt s.heap x ox C od) (hs : findIn K (.ref C) name = some (some (.ref f))) (hf : isFn K (.ref f) = true)
    (h : wpAny M A (call (.ref f) (.ref x :: args)) (fun v => Q (some v)) E s) : wpAny M A (callSpecial? (.ref x) name args) Q E s := by
  unfold callSpecial?
  refine wpAny_bind (wpAny_bind (I.type.here ((looks_findIn X hs).here ?_)))
  refine wpAny_holding (wpAny_bind ((bind_fn X _ (beq_iff_eq.mp hf)).here ?_))
  first
    | exact wpAny_bind (wpAny_mono h (fun v s' h' => wpAny_pure h') fun _ _ h' => h')
    | exact wpAny_pure (wpAny_bind (wpAny_mono h (fun v s' h' => wpAny_pure h') fun _ _ h' => h'))
/-- the truth of an instance by its own __bool__ -/
theorem kp_truthy {M : Model} {Q : Bool → Shared → Prop} (X : K.In s.heap) (I : InstAt s.heap x ox C od) (hs : findIn K (.ref C) "__bool__" = some (some (.ref f))) (hf : isFn K (.ref f) = true)
    (h : wpAny M A (call (.ref f) [.ref x]) (fun r s' => ∃ b, r = .bool b ∧ Q b s') E s) : wpAny M A (truthy (.ref x)) Q E s := by
  unfold truthy
  first
    | (refine wpAny_bind (m := callSpecial? (.ref x) (Str.ofString "__bool__")) (kp_special X I hs hf (wpAny_mono h (fun r s' hr => ?_) fun _ _ y => y)))
    | (refine wpAny_bind (wpAny_pure ?_); refine wpAny_bind (m := callSpecial? (.ref x) (Str.ofString "__bool__")) (kp_special X I hs hf (wpAny_mono h (fun r s' hr => ?_) fun _ _ y => y)))
  obtain ⟨b, rfl, hq⟩ := hr
  exact wpAny_pure hq
/-- x op y, y of a class below x's with its own def for op turned about: that one first -/
theorem kp_cmp_sub {y D : Addr} {oy : Obj} {ody : Option Obj} {op : CmpOp} {Q : Value → Shared → Prop} (hu : A.units < cLine) (X : K.In s.heap) (I : InstAt s.heap x ox C od) (J : InstAt s.heap y oy D ody) (hne : D ≠ C) (hn : subIn K (.ref D) (.ref C) = some true)
    (hs : findIn K (.ref D) (cmpInfo op).2.2 = some (some (.ref f))) (hf : isFn K (.ref f) = true)
    (h : wpAny (model prog w) A (call (.ref f) [.ref y, .ref x]) (CmpBack Q) E s) : wpAny (model prog w) A (richCompare op (.ref x) (.ref y)) Q E s := by
  have one : wpAny (model prog w) A (tryCompare (.ref y) (cmpInfo op).2.2 (.ref x)) (fun r s' => ∃ v, r = some v ∧ Q v s') E s := by
    unfold tryCompare
    refine wpAny_bind (ifBound_K X J hs hf (wpAny_mono h (fun v s' hv => ?_) fun _ _ e => e))
    cases v <;> first | exact hv.elim | exact wpAny_pure ⟨_, rfl, hv⟩
  unfold richCompare
  simp only [oneThing_ref]
  refine wpAny_holding (wpAny_bind (wpAny_cRoomFor hu ?_))
  refine wpAny_bind (I.type.here (wpAny_bind (J.type.here ?_)))
  rw [if_pos (by simp [Ne.symm hne])]
  refine wpAny_bind ((looks_subIn X hn).here ?_)
  simp only [if_true]
  refine wpAny_bind (wpAny_mono one (fun r s' z => ?_) fun _ _ e => e)
  obtain ⟨v, rfl, hq⟩ := z
  exact wpAny_bind (wpAny_rule (wpAny_pure hq))
/-- x != y by the own == -/
theorem kp_ne {b tb : Value} {Q : Value → Shared → Prop} (hu : A.units + 1 < cLine) (X : K.In s.heap) (I : InstAt s.heap x ox C od) (hb : Looks (model prog w) s.heap (typeOf b) tb) (hn : notFirst K C tb = true)
    (hne : findIn K (.ref C) "__ne__" = some (some (.builtin "object.__ne__"))) (ho : subIn K (.ref C) (.type "object") = some true) (hs : findIn K (.ref C) "__eq__" = some (some (.ref f))) (hf : isFn K (.ref f) = true)
    (h : wpAny (model prog w) A.in1 (call (.ref f) [.ref x, b]) (fun v s' => ∃ k, v = .bool k ∧ Q (.bool (!k)) s') E s) : wpAny (model prog w) A (richCompare .NotEq (.ref x) b) Q E s := by
  have one : wpAny (model prog w) A (tryCompare (.ref x) "__ne__" b) (fun r s' => ∃ v, r = some v ∧ Q v s') E s := by
    unfold tryCompare
    refine wpAny_bind (kp_ifBound_slot X I hne F.cmp_object.ne (wpAny_call (codeAny_call_builtin F.cmp_object.ne.plain F.cmpEntry_ne (check_slot F.cmpKind_ne F.cmpSplit_ne (I.type.andThen (looks_subIn X ho)) (F.cmpArgs_ne _ _) ?_))))
    unfold Builtin.«object.__ne__»
    refine wpAny_bind (wpAny_pure ?_)
    refine wpAny_bind (wpAny_cRoomFor (A := A.in1) (Nat.lt_of_lt_of_le hu (Nat.le_refl _)) ?_)
    refine wpAny_bind (ifBound_K X I hs hf (wpAny_mono h (fun v s' hv => ?_) fun _ _ e => e))
    obtain ⟨k, rfl, q⟩ := hv
    refine wpAny_bind (wpAny_truthy_bool ?_)
    exact wpAny_pure (wpAny_pure ⟨_, rfl, q⟩)
  unfold richCompare
  simp only [oneThing_ref]
  refine wpAny_holding (wpAny_bind (wpAny_cRoomFor (by omega) ?_))
  rw [cmpInfo_NotEq]
  dsimp only
  refine wpAny_bind (I.type.here (wpAny_bind (hb.here ?_)))
  have e : ∀ (q : (Value.ref C != tb) = true), subIn K tb (.ref C) = some false := fun q => by
    rcases Bool.or_eq_true_iff.mp hn with e | e
    · rw [beq_iff_eq.mp e] at q; simp at q
    · exact beq_iff_eq.mp e
  split
  · rename_i q
    refine wpAny_bind ((looks_subIn X (e q)).here ?_)
    simp only [Bool.false_eq_true, if_false]
    refine wpAny_bind (wpAny_mono one (fun r s' z => ?_) fun _ _ e => e)
    obtain ⟨v, rfl, hq⟩ := z
    exact wpAny_pure hq
  · refine wpAny_bind (wpAny_pure ?_)
    simp only [Bool.false_eq_true, if_false]
    refine wpAny_bind (wpAny_mono one (fun r s' z => ?_) fun _ _ e => e)
    obtain ⟨v, rfl, hq⟩ := z
    exact wpAny_pure hq
end
end PySem.W
namespace PySem.W
open PySem PySem.Calls PyProof.Rows Builtin
section
variable {prog : Program} {w : World} {A : Around} {E : Value → Shared → Prop} {s : Shared} {K : Frag} {C x f : Addr} {ox : Obj} {od : Option Obj}
/-- bool(x) by the own __bool__ -/
theorem kp_bool {Q : Value → Shared → Prop} (X : K.In s.heap) (I : InstAt s.heap x ox C od) (hs : findIn K (.ref C) "__bool__" = some (some (.ref f))) (hf : isFn K (.ref f) = true)
    (h : wpAny (model prog w) A.in1.in1 (call (.ref f) [.ref x]) (fun r s' => ∃ b, r = .bool b ∧ Q (.bool b) s') E s) : wpAny (model prog w) A (call (.type "bool") [.ref x]) Q E s := by
  refine callType_newIn F.called_bool F.newNe_bool (F.typeCall_bool_1 _) (F.newCall_bool_1 _) (fun obj => F.args_object_init_2 obj _) F.entry_bool_new
    (S := fun A R s => wpAny (model prog w) A.in1 (truthy (.ref x)) (fun b s' => R (.ok (.ret (.bool b))) s') (fun e s' => R (.error e) s') s) ?_ ?_
  · refine .of_wp fun A R s hs => ?_
    obtain ⟨hp, g, d, tk, os⟩ := s
    have f1 := F.conv_sub_bool
    unfold Builtin.«bool.__new__»
    repeat (any_goals (first | assumption | (with_reducible refine wpAny_mono hs (fun b s' z => ?_) (fun _ _ z => z)) | wp_step))
    all_goals first | exact ⟨_, rfl, z⟩ | exact z
  · refine kp_truthy X I hs hf (wpAny_mono h (fun r s' z => ?_) fun _ _ z => z)
    obtain ⟨b, rfl, q⟩ := z
    exact ⟨b, rfl, rfl, q⟩
end
end PySem.W

/-! == of a dict and of what is none -/
namespace PySem.SeqAt
open AutoSeq1 (wpAny_loadPart')
open MeetsSeq
theorem kq_sub1 : isSubtype (.type "dict") (.type "NoneType") = pure false := by rw [isSubtype_type]; kernel_rfl
theorem kq_sub2 : isSubtype (.type "dict") (.type "bool") = pure false := by rw [isSubtype_type]; kernel_rfl
theorem kq_sub3 : isSubtype (.type "dict") (.type "int") = pure false := by rw [isSubtype_type]; kernel_rfl
theorem kq_sub4 : isSubtype (.type "dict") (.type "str") = pure false := by rw [isSubtype_type]; kernel_rfl
theorem kq_sub5 : isSubtype (.type "dict") (.type "list") = pure false := by rw [isSubtype_type]; kernel_rfl
theorem kq_sub6 : isSubtype (.type "dict") (.type "tuple") = pure false := by rw [isSubtype_type]; kernel_rfl
theorem kq_bus1 : isSubtype (.type "NoneType") (.type "dict") = pure false := by rw [isSubtype_type]; kernel_rfl
theorem kq_bus2 : isSubtype (.type "bool") (.type "dict") = pure false := by rw [isSubtype_type]; kernel_rfl
theorem kq_bus3 : isSubtype (.type "int") (.type "dict") = pure false := by rw [isSubtype_type]; kernel_rfl
theorem kq_bus4 : isSubtype (.type "str") (.type "dict") = pure false := by rw [isSubtype_type]; kernel_rfl
theorem kq_bus5 : isSubtype (.type "list") (.type "dict") = pure false := by rw [isSubtype_type]; kernel_rfl
theorem kq_bus6 : isSubtype (.type "tuple") (.type "dict") = pure false := by rw [isSubtype_type]; kernel_rfl
abbrev kqO (es : Array DictEntry) (n : Nat) : Obj := { cls := .type "dict", data := .dict es n }
theorem kq_int (b : Int) (u : Tok) (l : Addr) (es : Array DictEntry) (n : Nat) :
    Meets (Builtin.«int.__eq__» ⟨[.int b u, .ref l], []⟩) (fun _ R s => s.heap.get? l = some (kqO es n) ∧ R (.ok (.ret .notImplemented)) s) :=
  .of_wp fun prog w A R s h => by obtain ⟨hp, g, d, tk, os⟩ := s; obtain ⟨hl, h⟩ := h; wp_walk using wpAny_loadPart' hl, wpAny_load hl; exact ⟨_, rfl, h⟩
theorem kq_bool (b : Bool) (l : Addr) (es : Array DictEntry) (n : Nat) :
    Meets (Builtin.«int.__eq__» ⟨[.bool b, .ref l], []⟩) (fun _ R s => s.heap.get? l = some (kqO es n) ∧ R (.ok (.ret .notImplemented)) s) :=
  .of_wp fun prog w A R s h => by obtain ⟨hp, g, d, tk, os⟩ := s; obtain ⟨hl, h⟩ := h; wp_walk using wpAny_loadPart' hl, wpAny_load hl; exact ⟨_, rfl, h⟩
theorem kq_str (b : Str) (u : Tok) (l : Addr) (es : Array DictEntry) (n : Nat) :
    Meets (Builtin.«str.__eq__» ⟨[.str b u, .ref l], []⟩) (fun _ R s => s.heap.get? l = some (kqO es n) ∧ R (.ok (.ret .notImplemented)) s) :=
  .of_wp fun prog w A R s h => by obtain ⟨hp, g, d, tk, os⟩ := s; obtain ⟨hl, h⟩ := h; wp_walk using wpAny_loadPart' hl, wpAny_load hl; exact ⟨_, rfl, h⟩
theorem kq_list (a : Addr) (items : Array Value) (m : Nat) (dd : Option Addr) (sl : Array (Option Value)) (l : Addr) (es : Array DictEntry) (n : Nat) :
    Meets (Builtin.«list.__eq__» ⟨[.ref a, .ref l], []⟩) (fun _ R s => s.heap.get? a = some { cls := .type "list", dict := dd, data := .seq items m, slots := sl } ∧ s.heap.get? l = some (kqO es n) ∧ R (.ok (.ret .notImplemented)) s) :=
  .of_wp fun prog w A R s h => by obtain ⟨hp, g, d, tk, os⟩ := s; obtain ⟨ha, hl, h⟩ := h; have f1 := kq_sub5; wp_walk using wpAny_loadPart' ha, wpAny_loadPart' hl; exact ⟨_, rfl, h⟩
theorem kq_tuple (a : Addr) (items : Array Value) (m : Nat) (dd : Option Addr) (sl : Array (Option Value)) (l : Addr) (es : Array DictEntry) (n : Nat) :
    Meets (Builtin.«tuple.__eq__» ⟨[.ref a, .ref l], []⟩) (fun _ R s => s.heap.get? a = some { cls := .type "tuple", dict := dd, data := .seq items m, slots := sl } ∧ s.heap.get? l = some (kqO es n) ∧ R (.ok (.ret .notImplemented)) s) :=
  .of_wp fun prog w A R s h => by obtain ⟨hp, g, d, tk, os⟩ := s; obtain ⟨ha, hl, h⟩ := h; have f1 := kq_sub6; wp_walk using wpAny_loadPart' ha, wpAny_loadPart' hl; exact ⟨_, rfl, h⟩
section
variable {prog : Program} {w : World} {A : Around} {E : Value → Shared → Prop} {s : Shared} {l : Addr} {es : Array DictEntry} {n : Nat}
theorem kq_dict {v : Value} {T : String} {Q : Value → Shared → Prop} (hl : s.heap.get? l = some (kqO es n)) (hT : s.TypeIs v T) (hs : isSubtype (.type T) (.type "dict") = pure false) (hq : Q .notImplemented s) :
    wpAny (model prog w) A (call (.builtin "dict.__eq__") [.ref l, v]) Q E s := by
  have hd : s.TypeIs (.ref l) "dict" := ⟨_, hl, rfl⟩
  refine wpAny_call_entry F.slot_dict_eq hd F.entry_dict_eq ?_ (F.args_dict_eq_2 _ _)
  show wpAny _ _ (Builtin.Dict.dictSlotArgs "__eq__" ⟨[.ref l, v], []⟩ >>= _) _ _ s
  refine wpAny_bind ?_
  unfold Builtin.Dict.dictSlotArgs
  refine wpAny_bind (wpAny_notOrdered_dict hd ?_)
  show wpAny _ _ (pure (Value.ref l, v)) _ _ s
  refine wpAny_pure ?_
  refine wpAny_bind (wpAny_isInstance hT hs ?_)
  simp only [Bool.not_false, if_true]
  refine wpAny_bind (wpAny_rule ?_)
  exact wpAny_bind (wpAny_pure (wpAny_pure ⟨_, rfl, hq⟩))
end
section
variable {A : Around} {s : Shared} {l : Addr} {es : Array DictEntry} {n : Nat}
theorem kq_rc {b : Value} (h : RcAt A s (.ref l) b false) (hne : (Value.ref l == b) = false) : EqAt A s (.ref l) b false := fun prog w E Q hq => by
  unfold eqBool
  refine wpAny_holding ?_
  refine wpAny_ite_split (fun hab => by rw [hne] at hab; cases hab) (fun _ => ?_)
  exact wpAny_bind (h prog w E _ (wpAny_truthy_bool hq))
theorem kq_rc0 (h : RcAt A s .none (.ref l) false) : EqAt A s .none (.ref l) false := fun prog w E Q hq => by
  unfold eqBool
  refine wpAny_holding ?_
  refine wpAny_ite_split (fun hab => absurd (eq_of_beq hab) nofun) (fun _ => ?_)
  exact wpAny_bind (h prog w E _ (wpAny_truthy_bool hq))
theorem kq_rc1 {b : Bool} (h : RcAt A s (.bool b) (.ref l) false) : EqAt A s (.bool b) (.ref l) false := fun prog w E Q hq => by
  unfold eqBool
  refine wpAny_holding ?_
  refine wpAny_ite_split (fun hab => absurd (eq_of_beq hab) nofun) (fun _ => ?_)
  exact wpAny_bind (h prog w E _ (wpAny_truthy_bool hq))
theorem kq_rc2 {b : Int} {u : Tok} (h : RcAt A s (.int b u) (.ref l) false) : EqAt A s (.int b u) (.ref l) false := fun prog w E Q hq => by
  unfold eqBool
  refine wpAny_holding ?_
  refine wpAny_ite_split (fun hab => absurd (eq_of_beq hab) nofun) (fun _ => ?_)
  exact wpAny_bind (h prog w E _ (wpAny_truthy_bool hq))
theorem kq_rc3 {b : Str} {u : Tok} (h : RcAt A s (.str b u) (.ref l) false) : EqAt A s (.str b u) (.ref l) false := fun prog w E Q hq => by
  unfold eqBool
  refine wpAny_holding ?_
  refine wpAny_ite_split (fun hab => absurd (eq_of_beq hab) nofun) (fun _ => ?_)
  exact wpAny_bind (h prog w E _ (wpAny_truthy_bool hq))
theorem kq_clash {T : String} {o : Obj} (ho : some (kqO es n) = some o) (hc : o.cls = .type T) (hT : T ≠ "dict") : False := by
  cases ho
  injection hc with e
  exact hT e.symm
theorem kq_dict_none (hl : s.heap.get? l = some (kqO es n)) (hu : A.units < cLine) : EqAt A s (.ref l) .none false := kq_rc (fun prog w E Q h =>
  rc_eq_decline_or (k := false) ⟨_, hl, rfl⟩ rfl (by decide) kq_bus1 F.slot_dict_eq F.slot_NoneType_eq_refl (fun _ hq => kq_dict hl rfl kq_bus1 hq)
    (fun _ hq => call_gives F.slot_NoneType_eq_refl rfl F.entry_NoneType_eq (F.args_NoneType_eq_2 _ _) (NoneType___eq___none_ref_0 l) hq) (fun _ hq => wpAny_of_eq (rfl : isSame (.ref l) .none = pure false) hq) (.inr hu) h) rfl
theorem kq_none_dict (hl : s.heap.get? l = some (kqO es n)) (hu : A.units < cLine) : EqAt A s .none (.ref l) false := kq_rc0 (fun prog w E Q h =>
  rc_eq_decline_or (k := false) rfl ⟨_, hl, rfl⟩ (by decide) kq_sub1 F.slot_NoneType_eq F.slot_dict_eq_refl
    (fun _ hq => call_gives F.slot_NoneType_eq rfl F.entry_NoneType_eq (F.args_NoneType_eq_2 _ _) (NoneType___eq___none_ref_0 l) hq) (fun _ hq => kq_dict hl rfl kq_bus1 hq) (fun _ hq => wpAny_of_eq (rfl : isSame .none (.ref l) = pure false) hq) (.inr hu) h)
theorem kq_dict_bool (b : Bool) (hl : s.heap.get? l = some (kqO es n)) (hu : A.units < cLine) : EqAt A s (.ref l) (.bool b) false := kq_rc (fun prog w E Q h =>
  rc_eq_decline_or (k := false) ⟨_, hl, rfl⟩ rfl (by decide) kq_bus2 F.slot_dict_eq F.slot_bool_eq_refl (fun _ hq => kq_dict hl rfl kq_bus2 hq)
    (fun _ hq => call_meets F.slot_bool_eq_refl rfl F.entry_int_eq (F.args_int_eq_2 _ _) (kq_bool b l es n) ⟨hl, hq⟩) (fun _ hq => wpAny_of_eq (rfl : isSame (.ref l) (.bool b) = pure false) hq) (.inr hu) h) rfl
theorem kq_bool_dict (b : Bool) (hl : s.heap.get? l = some (kqO es n)) (hu : A.units < cLine) : EqAt A s (.bool b) (.ref l) false := kq_rc1 (fun prog w E Q h =>
  rc_eq_decline_or (k := false) rfl ⟨_, hl, rfl⟩ (by decide) kq_sub2 F.slot_bool_eq F.slot_dict_eq_refl
    (fun _ hq => call_meets F.slot_bool_eq rfl F.entry_int_eq (F.args_int_eq_2 _ _) (kq_bool b l es n) ⟨hl, hq⟩) (fun _ hq => kq_dict hl rfl kq_bus2 hq) (fun _ hq => wpAny_of_eq (rfl : isSame (.bool b) (.ref l) = pure false) hq) (.inr hu) h)
theorem kq_dict_int (b : Int) (u : Tok) (hl : s.heap.get? l = some (kqO es n)) (hu : A.units < cLine) : EqAt A s (.ref l) (.int b u) false := kq_rc (fun prog w E Q h =>
  rc_eq_decline_or (k := false) ⟨_, hl, rfl⟩ (typeIs_int s b u) (by decide) kq_bus3 F.slot_dict_eq F.slot_int_eq_refl (fun _ hq => kq_dict hl (typeIs_int s b u) kq_bus3 hq)
    (fun _ hq => call_meets F.slot_int_eq_refl (typeIs_int s b u) F.entry_int_eq (F.args_int_eq_2 _ _) (kq_int b u l es n) ⟨hl, hq⟩) (fun _ hq => wpAny_of_eq (rfl : isSame (.ref l) (.int b u) = pure false) hq) (.inr hu) h) rfl
theorem kq_int_dict (b : Int) (u : Tok) (hl : s.heap.get? l = some (kqO es n)) (hu : A.units < cLine) : EqAt A s (.int b u) (.ref l) false := kq_rc2 (fun prog w E Q h =>
  rc_eq_decline_or (k := false) (typeIs_int s b u) ⟨_, hl, rfl⟩ (by decide) kq_sub3 F.slot_int_eq F.slot_dict_eq_refl
    (fun _ hq => call_meets F.slot_int_eq (typeIs_int s b u) F.entry_int_eq (F.args_int_eq_2 _ _) (kq_int b u l es n) ⟨hl, hq⟩) (fun _ hq => kq_dict hl (typeIs_int s b u) kq_bus3 hq) (fun _ hq => wpAny_of_eq (rfl : isSame (.int b u) (.ref l) = pure false) hq) (.inr hu) h)
theorem kq_dict_str (b : Str) (u : Tok) (hl : s.heap.get? l = some (kqO es n)) (hu : A.units < cLine) : EqAt A s (.ref l) (.str b u) false := kq_rc (fun prog w E Q h =>
  rc_eq_decline_or (k := false) ⟨_, hl, rfl⟩ (typeIs_str s b u) (by decide) kq_bus4 F.slot_dict_eq F.slot_str_eq_refl (fun _ hq => kq_dict hl (typeIs_str s b u) kq_bus4 hq)
    (fun _ hq => call_meets F.slot_str_eq_refl (typeIs_str s b u) F.entry_str_eq (F.args_str_eq_2 _ _) (kq_str b u l es n) ⟨hl, hq⟩) (fun _ hq => wpAny_of_eq (rfl : isSame (.ref l) (.str b u) = pure false) hq) (.inr hu) h) rfl
theorem kq_str_dict (b : Str) (u : Tok) (hl : s.heap.get? l = some (kqO es n)) (hu : A.units < cLine) : EqAt A s (.str b u) (.ref l) false := kq_rc3 (fun prog w E Q h =>
  rc_eq_decline_or (k := false) (typeIs_str s b u) ⟨_, hl, rfl⟩ (by decide) kq_sub4 F.slot_str_eq F.slot_dict_eq_refl
    (fun _ hq => call_meets F.slot_str_eq (typeIs_str s b u) F.entry_str_eq (F.args_str_eq_2 _ _) (kq_str b u l es n) ⟨hl, hq⟩) (fun _ hq => kq_dict hl (typeIs_str s b u) kq_bus4 hq) (fun _ hq => wpAny_of_eq (rfl : isSame (.str b u) (.ref l) = pure false) hq) (.inr hu) h)
theorem kq_list_dict {a : Addr} {items : Array Value} (ha : s.heap.IsList a items) (hl : s.heap.get? l = some (kqO es n)) (hu : A.units < cLine) : a ≠ l ∧ EqAt A s (.ref a) (.ref l) false := by
  obtain ⟨⟨cls, dd, data, sl⟩, ho, hc, m, hd⟩ := id ha
  simp only at hc hd
  subst hc hd
  have hne : a ≠ l := fun e => by subst e; rw [hl] at ho; exact kq_clash ho rfl (by decide)
  exact ⟨hne, .of_refs hne fun prog w E Q h => rc_eq_decline_or (k := false) ⟨_, ho, rfl⟩ ⟨_, hl, rfl⟩ (by decide) kq_sub5 F.slot_list_eq F.slot_dict_eq_refl
    (fun _ hq => call_meets F.slot_list_eq ⟨_, ho, rfl⟩ F.entry_list_eq (F.args_list_eq_2 _ _) (kq_list a items m dd sl l es n) ⟨ho, hl, hq⟩)
    (fun _ hq => kq_dict hl ⟨_, ho, rfl⟩ kq_bus5 hq) (fun _ hq => wpAny_isSame_ref_other hne ho hl (by simp) hq) (.inr hu) h⟩
theorem kq_dict_list {a : Addr} {items : Array Value} (ha : s.heap.IsList a items) (hl : s.heap.get? l = some (kqO es n)) (hu : A.units < cLine) : l ≠ a ∧ EqAt A s (.ref l) (.ref a) false := by
  obtain ⟨⟨cls, dd, data, sl⟩, ho, hc, m, hd⟩ := id ha
  simp only at hc hd
  subst hc hd
  have hne : l ≠ a := fun e => by subst e; rw [hl] at ho; exact kq_clash ho rfl (by decide)
  exact ⟨hne, .of_refs hne fun prog w E Q h => rc_eq_decline_or (k := false) ⟨_, hl, rfl⟩ ⟨_, ho, rfl⟩ (by decide) kq_bus5 F.slot_dict_eq F.slot_list_eq_refl
    (fun _ hq => kq_dict hl ⟨_, ho, rfl⟩ kq_bus5 hq)
    (fun _ hq => call_meets F.slot_list_eq_refl ⟨_, ho, rfl⟩ F.entry_list_eq (F.args_list_eq_2 _ _) (kq_list a items m dd sl l es n) ⟨ho, hl, hq⟩)
    (fun _ hq => wpAny_isSame_ref_other hne hl ho (by simp) hq) (.inr hu) h⟩
theorem kq_tuple_dict {a : Addr} {items : Array Value} (ha : s.heap.IsTuple a items) (hl : s.heap.get? l = some (kqO es n)) (hu : A.units < cLine) : a ≠ l ∧ EqAt A s (.ref a) (.ref l) false := by
  obtain ⟨⟨cls, dd, data, sl⟩, ho, hc, m, hd⟩ := id ha
  simp only at hc hd
  subst hc hd
  have hne : a ≠ l := fun e => by subst e; rw [hl] at ho; exact kq_clash ho rfl (by decide)
  exact ⟨hne, .of_refs hne fun prog w E Q h => rc_eq_decline_or (k := false) ⟨_, ho, rfl⟩ ⟨_, hl, rfl⟩ (by decide) kq_sub6 F.slot_tuple_eq F.slot_dict_eq_refl
    (fun _ hq => call_meets F.slot_tuple_eq ⟨_, ho, rfl⟩ F.entry_tuple_eq (F.args_tuple_eq_2 _ _) (kq_tuple a items m dd sl l es n) ⟨ho, hl, hq⟩)
    (fun _ hq => kq_dict hl ⟨_, ho, rfl⟩ kq_bus6 hq) (fun _ hq => wpAny_isSame_ref_other' hne ho hl (by simp) hq) (.inr hu) h⟩
theorem kq_dict_tuple {a : Addr} {items : Array Value} (ha : s.heap.IsTuple a items) (hl : s.heap.get? l = some (kqO es n)) (hu : A.units < cLine) : l ≠ a ∧ EqAt A s (.ref l) (.ref a) false := by
  obtain ⟨⟨cls, dd, data, sl⟩, ho, hc, m, hd⟩ := id ha
  simp only at hc hd
  subst hc hd
  have hne : l ≠ a := fun e => by subst e; rw [hl] at ho; exact kq_clash ho rfl (by decide)
  exact ⟨hne, .of_refs hne fun prog w E Q h => rc_eq_decline_or (k := false) ⟨_, hl, rfl⟩ ⟨_, ho, rfl⟩ (by decide) kq_bus6 F.slot_dict_eq F.slot_tuple_eq_refl
    (fun _ hq => kq_dict hl ⟨_, ho, rfl⟩ kq_bus6 hq)
    (fun _ hq => call_meets F.slot_tuple_eq_refl ⟨_, ho, rfl⟩ F.entry_tuple_eq (F.args_tuple_eq_2 _ _) (kq_tuple a items m dd sl l es n) ⟨ho, hl, hq⟩)
    (fun _ hq => wpAny_isSame_ref_other hne hl ho (by simp) hq) (.inr hu) h⟩
end
end PySem.SeqAt

namespace DL
open PySem L2
/-! ### == over data with the dict {'a': [1]} in it -/
def isA : List (Key × D) → Bool
  | [(.inr k, .lst [.int i])] => decide (k = "a") && decide (i = 1)
  | _ => false
def dictA : D := .dK [(.inr "a", .lst [.int 1])]
theorem isA_eq {kvs : List (Key × D)} (h : isA kvs = true) : kvs = [(.inr "a", .lst [.int 1])] := by
  unfold isA at h
  split at h
  · simp only [Bool.and_eq_true, decide_eq_true_eq] at h
    obtain ⟨rfl, rfl⟩ := h
    rfl
  · cases h
/-- plain data, nested less than so deep -/
def okV : Nat → D → Bool
  | _, .non => true
  | _, .bl _ => true
  | _, .int _ => true
  | _, .str _ => true
  | n + 1, .tup xs => xs.all (okV n)
  | n + 1, .kon xs => xs.all (okV n)
  | n + 1, .lst xs => xs.all (okV n)
  | _ + 2, .dK kvs => isA kvs
  | _, _ => false
def baseD : D → Option V
  | .non => some .non
  | .bl b => some (.bl b)
  | .int i => some (.int i)
  | .str x => some (.str x)
  | _ => none
inductive Kind (P : Program) (w : World) (K : PySem.W.Frag) (W : Wd) (s : Shared) : Value → D → Prop
  | base {v : V} {v' : Value} {d : D} (f : flatV v = true) (rv : RelV v v') (e : baseD d = some v) : Kind P w K W s v' d
  | lst {a : Addr} {its : List Value} {vs : List V} {ds : List D} (h : s.heap.IsList a its.toArray) (rv : Vals vs its) (r : Reps K W vs ds) : Kind P w K W s (.ref a) (.lst ds)
  | tup {a : Addr} {its : List Value} {vs : List V} {ds : List D} {d : D} (hd : d = .tup ds ∨ d = .kon ds) (h : s.heap.IsTuple a its.toArray) (rv : Vals vs its) (r : Reps K W vs ds) : Kind P w K W s (.ref a) d
  | dic {a : Addr} {es : Array DictEntry} {m : Nat} {va : List (Key × Value)} {vs : List (Key × V)} {kvs : List (Key × D)} (h : s.heap.get? a = some (SeqAt.kqO es m)) (hd : s.heap.DictOf (mixKind P w) a va) (hs : (a == sysModules) = false)
      (kv : KV vs va) (e : vs.map (·.1) = kvs.map (·.1)) (r : Reps K W (vs.map (·.2)) (kvs.map (·.2))) : Kind P w K W s (.ref a) (.dK kvs)
section
variable {X : Cx} {pins : List (Addr × Obj)} {σ : L2.St} {s : Shared} {W : Wd}
theorem kind_of (I : Inv X pins σ W.H s) {n : Nat} {v : V} {d : D} {v' : Value} (r : Rep X.K W v d) (rv : RelV v v') (h : okV n d = true) : Kind X.prog X.w X.K W s v' d := by
  cases r with
  | non => exact .base rfl rv rfl
  | bl b => exact .base rfl rv rfl
  | int i => exact .base rfl rv rfl
  | str x => exact .base rfl rv rfl
  | tup h1 r =>
    cases (show v' = Value.ref _ from rv)
    obtain ⟨its, r2, p, _⟩ := I.tuple (TupV.sq (.inl h1))
    exact .tup (.inl rfl) p r2 r
  | kon h1 r =>
    cases (show v' = Value.ref _ from rv)
    obtain ⟨its, r2, p, _⟩ := I.tuple (TupV.sq (.inr h1))
    exact .tup (.inr rfl) p r2 r
  | lst h1 _ r =>
    cases (show v' = Value.ref _ from rv)
    obtain ⟨its, r2, p, _⟩ := I.list (SqL.of h1)
    exact .lst p.isList r2 r
  | dK h1 _ e r =>
    cases (show v' = Value.ref _ from rv)
    obtain ⟨_, y, va, kv, da⟩ := (show ObjOk X.prog X.w W.H s.heap _ (.dK _) from I.hok _ _ h1)
    obtain ⟨o, es, ep, ho, ⟨hc, hdd, hsl⟩, hdt, rest⟩ := id da
    obtain ⟨c0, d0, dt, sl0⟩ := o
    simp only at hc hdd hsl hdt
    subst hc hdd hsl hdt
    exact .dic ho da y kv e r
  | obj _ _ _ _ => cases n <;> (try cases h) <;> rename_i m <;> cases m <;> cases h
  | exc _ _ _ _ _ _ => cases n <;> (try cases h) <;> rename_i m <;> cases m <;> cases h
  | dT _ _ _ _ => cases n <;> (try cases h) <;> rename_i m <;> cases m <;> cases h
  | raw _ => cases n <;> (try cases h) <;> rename_i m <;> cases m <;> cases h
  | paw => cases n <;> (try cases h) <;> rename_i m <;> cases m <;> cases h
theorem eqV_refl {v : V} (f : flatV v = true) : eqV v v = true := by
  cases v <;> first | rfl | (cases f; done) | (simp [eqV]; done)
theorem baseD_not {ds : List D} {d : D} {v : V} (hd : d = .tup ds ∨ d = .kon ds) (e : baseD d = some v) : False := by
  rcases hd with rfl | rfl <;> cases e
section
variable {A : Around} {v : V} {v' : Value}
theorem base_list (f : flatV v = true) (rv : RelV v v') {l : Addr} {items : Array Value} (hl : s.heap.IsList l items) (hu : A.units < cLine) : SeqAt.EqAt A s v' (.ref l) false ∧ SeqAt.EqAt A s (.ref l) v' false := by
  cases v with
  | non => cases rv; exact ⟨SeqAt.EqAt.none_list hl hu, SeqAt.EqAt.list_none hl hu⟩
  | bl b => cases rv; exact ⟨SeqAt.EqAt.bool_list b hl hu, SeqAt.EqAt.list_bool b hl hu⟩
  | int i => obtain ⟨t, rfl⟩ := rv; exact ⟨SeqAt.EqAt.int_list i t hl hu, SeqAt.EqAt.list_int i t hl hu⟩
  | str x => obtain ⟨t, rfl⟩ := rv; exact ⟨SeqAt.EqAt.str_list x t hl hu, SeqAt.EqAt.list_str x t hl hu⟩
  | _ => cases f
theorem base_tuple (f : flatV v = true) (rv : RelV v v') {l : Addr} {items : Array Value} (hl : s.heap.IsTuple l items) (hu : A.units < cLine) : SeqAt.EqAt A s v' (.ref l) false ∧ SeqAt.EqAt A s (.ref l) v' false := by
  cases v with
  | non => cases rv; exact ⟨SeqAt.EqAt.none_tuple hl hu, SeqAt.EqAt.tuple_none hl hu⟩
  | bl b => cases rv; exact ⟨SeqAt.EqAt.bool_tuple b hl hu, SeqAt.EqAt.tuple_bool b hl hu⟩
  | int i => obtain ⟨t, rfl⟩ := rv; exact ⟨SeqAt.EqAt.int_tuple i t hl hu, SeqAt.EqAt.tuple_int i t hl hu⟩
  | str x => obtain ⟨t, rfl⟩ := rv; exact ⟨SeqAt.EqAt.str_tuple x t hl hu, SeqAt.EqAt.tuple_str x t hl hu⟩
  | _ => cases f
theorem base_dict (f : flatV v = true) (rv : RelV v v') {l : Addr} {es : Array DictEntry} {n : Nat} (hl : s.heap.get? l = some (SeqAt.kqO es n)) (hu : A.units < cLine) : SeqAt.EqAt A s v' (.ref l) false ∧ SeqAt.EqAt A s (.ref l) v' false := by
  cases v with
  | non => cases rv; exact ⟨SeqAt.kq_none_dict hl hu, SeqAt.kq_dict_none hl hu⟩
  | bl b => cases rv; exact ⟨SeqAt.kq_bool_dict b hl hu, SeqAt.kq_dict_bool b hl hu⟩
  | int i => obtain ⟨t, rfl⟩ := rv; exact ⟨SeqAt.kq_int_dict i t hl hu, SeqAt.kq_dict_int i t hl hu⟩
  | str x => obtain ⟨t, rfl⟩ := rv; exact ⟨SeqAt.kq_str_dict x t hl hu, SeqAt.kq_dict_str x t hl hu⟩
  | _ => cases f
end
theorem all_at {n : Nat} {xs : List D} (h : xs.all (okV n) = true) {j : Nat} {d : D} (e : xs[j]? = some d) : okV n d = true := List.all_eq_true.mp h d (List.mem_of_getElem? e)
/-- the items' trees -/
theorem kids (I : Inv X pins σ W.H s) {n : Nat} (ih : ∀ (d e : D) (v' u' : Value), Kind X.prog X.w X.K W s v' d → Kind X.prog X.w X.K W s u' e → okV n d = true → okV n e = true → ∃ b, (d = e → b = true) ∧ PySem.W.EqTree X.prog X.w s n v' u' b)
    {its its2 : List Value} {vs ws : List V} {ds es : List D} (r1 : Vals vs its) (r2 : Vals ws its2) (p1 : Reps X.K W vs ds) (p2 : Reps X.K W ws es) (h1 : ds.all (okV n) = true) (h2 : es.all (okV n) = true) :
    ∃ e : Nat → Bool, ∀ j, (ds[j]? = es[j]? → e j = true) ∧ ∀ (g1 : j < its.toArray.size) (g2 : j < its2.toArray.size), PySem.W.EqTree X.prog X.w s n its.toArray[j] its2.toArray[j] (e j) := by
  refine Classical.axiomOfChoice (r := fun j b => (ds[j]? = es[j]? → b = true) ∧ ∀ (g1 : j < its.toArray.size) (g2 : j < its2.toArray.size), PySem.W.EqTree X.prog X.w s n its.toArray[j] its2.toArray[j] b) fun j => ?_
  by_cases g1 : j < its.toArray.size
  · by_cases g2 : j < its2.toArray.size
    · have q1 : its[j]? = some its.toArray[j] := by
        have h1' : j < its.length := by simpa using g1
        rw [List.getElem?_eq_getElem h1'] <;> simp
      have q2 : its2[j]? = some its2.toArray[j] := by
        have h2' : j < its2.length := by simpa using g2
        rw [List.getElem?_eq_getElem h2'] <;> simp
      have k1 : j < vs.length := by rw [r1.length]; simpa using g1
      have k2 : j < ws.length := by rw [r2.length]; simpa using g2
      obtain ⟨d, hd, rd1⟩ := p1.get' (List.getElem?_eq_getElem k1)
      obtain ⟨e, he, rd2⟩ := p2.get' (List.getElem?_eq_getElem k2)
      obtain ⟨u1, hu1, ru1⟩ := r1.get (List.getElem?_eq_getElem k1)
      obtain ⟨u2, hu2, ru2⟩ := r2.get (List.getElem?_eq_getElem k2)
      rw [q1] at hu1
      rw [q2] at hu2
      cases hu1
      cases hu2
      obtain ⟨b, hb, t⟩ := ih d e _ _ (kind_of I rd1 ru1 (all_at h1 hd)) (kind_of I rd2 ru2 (all_at h2 he)) (all_at h1 hd) (all_at h2 he)
      refine ⟨b, fun q => hb ?_, fun _ _ => t⟩
      rw [hd, he] at q
      exact Option.some.inj q
    · exact ⟨true, fun _ => rfl, fun _ g => absurd g g2⟩
  · exact ⟨true, fun _ => rfl, fun g => absurd g g1⟩
theorem eq_tree (I : Inv X pins σ W.H s) : ∀ (n : Nat) (d e : D) (v' u' : Value), Kind X.prog X.w X.K W s v' d → Kind X.prog X.w X.K W s u' e → okV n d = true → okV n e = true → ∃ b, (d = e → b = true) ∧ PySem.W.EqTree X.prog X.w s n v' u' b
  := by
  intro n
  induction n using Nat.strongRecOn with
  | ind n IH =>
    intro d e v' u' k1 k2 h1 h2
    have z : ∀ {A : Around} {m : Nat}, A.units + m < cLine → A.units < cLine := fun h => by omega
    cases k1 with
    | base f1 rv1 e1 =>
      cases k2 with
      | base f2 rv2 e2 =>
        refine ⟨_, fun q => ?_, .leaf fun A _ => eqAt_V rv1 rv2 f1 f2⟩
        subst q
        rw [e1] at e2
        cases e2
        exact eqV_refl f1
      | lst h rv r => exact ⟨false, fun q => by (subst q; cases e1), .leaf fun A hu => (base_list f1 rv1 h (z hu)).1⟩
      | tup hd h rv r => exact ⟨false, fun q => by subst q; exact (baseD_not hd e1).elim, .leaf fun A hu => (base_tuple f1 rv1 h (z hu)).1⟩
      | dic h hd hs kv e r => exact ⟨false, fun q => by (subst q; cases e1), .leaf fun A hu => (base_dict f1 rv1 h (z hu)).1⟩
    | lst h rv r =>
      cases k2 with
      | base f2 rv2 e2 => exact ⟨false, fun q => by (subst q; cases e2), .leaf fun A hu => (base_list f2 rv2 h (z hu)).2⟩
      | lst h' rv' r' =>
        rename_i a its vs ds b its2 ws es
        by_cases hab : a = b
        · subst hab; exact ⟨true, fun _ => rfl, .same⟩
        · have hh : ∃ m, n = m + 1 ∧ ds.all (okV m) = true ∧ es.all (okV m) = true := by
            match n, h1, h2 with
            | m + 1, h1, h2 => exact ⟨m, rfl, h1, h2⟩
          · obtain ⟨m, rfl, h1, h2⟩ := hh
            by_cases hsz : its.toArray.size = its2.toArray.size
            · obtain ⟨g, hg⟩ := kids I (IH m (by omega)) rv rv' r r' h1 h2
              refine ⟨_, fun q => ?_, .lists hab h h' hsz fun j g1 g2 => (hg j).2 g1 g2⟩
              cases q
              exact List.all_eq_true.mpr fun j _ => (hg j).1 rfl
            · refine ⟨false, fun q => ?_, .listsLen hab h h' (by simpa using hsz)⟩
              cases q
              refine absurd ?_ hsz
              rw [List.size_toArray, List.size_toArray, ← rv.length, ← rv'.length, r.length, r'.length]
      | tup hd h' rv' r' => exact ⟨false, fun q => by (subst q; rcases hd with hd | hd <;> cases hd), .leaf fun A hu => SeqAt.EqAt.list_tuple h h' (z hu)⟩
      | dic h' hd hs kv e r => exact ⟨false, fun q => by (cases q), .leaf fun A hu => (SeqAt.kq_list_dict h h' (z hu)).2⟩
    | tup hd h rv r =>
      cases k2 with
      | base f2 rv2 e2 => exact ⟨false, fun q => by subst q; exact (baseD_not hd e2).elim, .leaf fun A hu => (base_tuple f2 rv2 h (z hu)).2⟩
      | lst h' rv' r' => exact ⟨false, fun q => by (subst q; rcases hd with hd | hd <;> cases hd), .leaf fun A hu => SeqAt.EqAt.tuple_list h h' (z hu)⟩
      | tup hd' h' rv' r' =>
        rename_i a its vs ds b its2 ws es
        by_cases hab : a = b
        · subst hab; exact ⟨true, fun _ => rfl, .same⟩
        · have hh : ∃ m, n = m + 1 ∧ ds.all (okV m) = true ∧ es.all (okV m) = true := by
            match n, h1, h2 with
            | 0, h1, _ => rcases hd with rfl | rfl <;> cases h1
            | m + 1, h1, h2 => exact ⟨m, rfl, by rcases hd with rfl | rfl <;> exact h1, by rcases hd' with rfl | rfl <;> exact h2⟩
          obtain ⟨m, rfl, h1', h2'⟩ := hh
          obtain ⟨g, hg⟩ := kids I (IH m (by omega)) rv rv' r r' h1' h2'
          refine ⟨_, fun q => ?_, .tuples hab h h' fun j g1 g2 => (hg j).2 g1 g2⟩
          have e : ds = es := by
            rcases hd with rfl | rfl <;> rcases hd' with rfl | rfl <;> first | (injection q) | (cases q)
          subst e
          rw [Bool.and_eq_true]
          refine ⟨List.all_eq_true.mpr fun j _ => (hg j).1 rfl, ?_⟩
          rw [List.size_toArray, List.size_toArray, ← rv.length, ← rv'.length, r.length, r'.length]
          simp
      | dic h' hd' hs kv e r => exact ⟨false, fun q => by (subst q; rcases hd with hd | hd <;> cases hd), .leaf fun A hu => (SeqAt.kq_tuple_dict h h' (z hu)).2⟩
    | dic h hd hs kv e r =>
      cases k2 with
      | base f2 rv2 e2 => exact ⟨false, fun q => by (subst q; cases e2), .leaf fun A hu => (base_dict f2 rv2 h (z hu)).2⟩
      | lst h' rv' r' => exact ⟨false, fun q => by (cases q), .leaf fun A hu => (SeqAt.kq_dict_list h' h (z hu)).2⟩
      | tup hd' h' rv' r' => exact ⟨false, fun q => by (subst q; rcases hd' with hd' | hd' <;> cases hd'), .leaf fun A hu => (SeqAt.kq_dict_tuple h' h (z hu)).2⟩
      | dic h' hd' hs' kv' e' r' =>
        rename_i a es0 m0 va vs kvs b es1 m1 vb ws lvs
        by_cases hab : a = b
        · subst hab; exact ⟨true, fun _ => rfl, .same⟩
        · have hh : ∃ m, n = m + 2 ∧ isA kvs = true ∧ isA lvs = true := by
            match n, h1, h2 with
            | m + 2, h1, h2 => exact ⟨m, rfl, h1, h2⟩
          · obtain ⟨m, rfl, h1, h2⟩ := hh
            have q1 := isA_eq h1
            have q2 := isA_eq h2
            subst q1 q2
            -- what the two hold
            have one : ∀ {vs : List (Key × V)} {va : List (Key × Value)}, KV vs va → vs.map (·.1) = [(.inr "a" : Key)] → Reps X.K W (vs.map (·.2)) [D.lst [.int 1]] → ∃ v v', va = [(.inr "a", v')] ∧ RelV v v' ∧ Rep X.K W v (.lst [.int 1]) := by
              intro vs va kv e r
              match vs, va, kv, e, r with
              | [(k, v)], [(k', v')], .cons ⟨hk, rv⟩ .nil, e, .cons a .nil =>
                cases e
                cases (show (Sum.inr "a" : Key) = k' from hk)
                exact ⟨v, v', rfl, rv, a⟩
            obtain ⟨v1, w1, rfl, rv1, p1⟩ := one kv e r
            obtain ⟨v2, w2, rfl, rv2, p2⟩ := one kv' e' r'
            have hv : okV (m + 1) (.lst [.int 1]) = true := by cases m <;> rfl
            obtain ⟨c, hc, t⟩ := IH (m + 1) (by omega) _ _ _ _ (kind_of I p1 rv1 hv) (kind_of I p2 rv2 hv) hv hv
            have hc' := hc rfl
            subst hc'
            refine ⟨_, fun _ => ?_, .dicts (e := fun _ => true) hab hs hs' hd hd' fun k v y hm hy => ?_⟩
            · have e1 : valueAt [((.inr "a" : Key), w2)] (.inr "a") = some w2 := by simp [valueAt]
              simp [e1]
            · rcases List.mem_cons.mp hm with hm | hm
              · cases hm
                have e1 : valueAt [((.inr "a" : Key), w2)] (.inr "a") = some w2 := by simp [valueAt]
                rw [e1] at hy
                cases hy
                exact t
              · simp at hm
end
end DL

namespace DL
open PySem L2
/-! ### == of two tuples of data, a dict in them or not -/
def tupOf : D → Option (List D)
  | .tup xs => some xs
  | .kon xs => some xs
  | _ => none
theorem tupOf_or {d : D} {xs : List D} (h : tupOf d = some xs) : d = .tup xs ∨ d = .kon xs := by
  cases d <;> first | (cases h; first | exact .inl rfl | exact .inr rfl) | cases h
def rEqK (K : PySem.W.Frag) : R2 := fun x y H Q => ∃ (W : Wd) (xs ys : List D) (d e : D), W.H = H ∧ Rep K W x d ∧ Rep K W y e ∧ tupOf d = some xs ∧ tupOf e = some ys ∧ okV 6 d = true ∧ okV 6 e = true ∧
  ∀ b, (xs = ys → b = true) → (xs.length ≠ ys.length → b = false) → Q (.bl b) H
def fEqK : DR := fun _ d e Q => match tupOf d, tupOf e with
  | some xs, some ys => okV 6 d = true ∧ okV 6 e = true ∧ ∀ b, (xs = ys → b = true) → (xs.length ≠ ys.length → b = false) → Q (.bl b)
  | _, _ => False
section
variable {X : Cx} {K : PySem.W.Frag}
theorem op_eqK (hu : X.A.units + 64 < cLine) : OpR X (compareOp .Eq) (rEqK X.K) := by
  intro pins s σ H x y v u Q I rx ry h
  obtain ⟨W, xs, ys, d, e, rfl, r1, r2, t1, t2, o1, o2, q⟩ := h
  have k1 := kind_of I r1 rx o1
  have k2 := kind_of I r2 ry o2
  have c1 := tupOf_or t1
  have c2 := tupOf_or t2
  cases k1 with
  | base f rv e1 => rcases c1 with rfl | rfl <;> cases e1
  | lst h rv r => rcases c1 with h | h <;> cases h
  | dic h hd hs kv e r => rcases c1 with h | h <;> cases h
  | tup hd h rv r =>
    rename_i a its vs ds
    have e1 : ds = xs := by rcases c1 with rfl | rfl <;> rcases hd with hd | hd <;> first | (injection hd with z; exact z.symm) | (cases hd)
    subst e1
    cases k2 with
    | base f rv e1 => rcases c2 with rfl | rfl <;> cases e1
    | lst h rv r => rcases c2 with h | h <;> cases h
    | dic h hd hs kv e r => rcases c2 with h | h <;> cases h
    | tup hd' h' rv' r' =>
      rename_i b its2 ws es
      have e2 : es = ys := by rcases c2 with rfl | rfl <;> rcases hd' with hd' | hd' <;> first | (injection hd' with z; exact z.symm) | (cases hd')
      subst e2
      have a1 : ds.all (okV 5) = true := by rcases hd with rfl | rfl <;> exact o1
      have a2 : es.all (okV 5) = true := by rcases hd' with rfl | rfl <;> exact o2
      obtain ⟨g, hg⟩ := kids I (eq_tree I 5) rv rv' r r' a1 a2
      have l1 : its.toArray.size = ds.length := by rw [List.size_toArray, ← rv.length, r.length]
      have l2 : its2.toArray.size = es.length := by rw [List.size_toArray, ← rv'.length, r'.length]
      refine PySem.W.eq_tuplesT h h' (fun j g1 g2 => (hg j).2 g1 g2) (by omega) ⟨.bl _, W.H, I, rfl, q _ (fun z => ?_) fun z => ?_⟩
      · subst z
        rw [Bool.and_eq_true]
        exact ⟨List.all_eq_true.mpr fun j _ => (hg j).1 rfl, by rw [l1, l2]; simp⟩
      · rw [l1, l2, Bool.and_eq_false_iff]
        exact .inr (by simpa using z)
theorem o_eqK (K : PySem.W.Frag) (hu : X.A.units + 64 < cLine) (hK : X.K = K) : OpR X (compareOp .Eq) (rEqK K) ∧ SndR X.K (rEqK K) fEqK := by
  subst hK
  refine ⟨op_eqK hu, fun c W σ s x y d e Qv Qd R r1 r2 h k => ?_⟩
  unfold fEqK at h
  split at h
  · rename_i xs ys t1 t2
    obtain ⟨o1, o2, q⟩ := h
    have n1 : d.isSlot = false := by rcases tupOf_or t1 with rfl | rfl <;> rfl
    have n2 : e.isSlot = false := by rcases tupOf_or t2 with rfl | rfl <;> rfl
    exact ⟨W, xs, ys, d, e, rfl, r1.to n1, r2.to n2, t1, t2, o1, o2, fun b h1 h2 => k _ W _ R (Pr.refl _) (Rep.bl _).t (q b h1 h2)⟩
  · exact h.elim
end
/-! ### a promise over data, from data -/
theorem DS.same_bud (s : DS) : { s with bud := s.bud } = s := rfl
section
variable {K : PySem.W.Frag} {c : C0} {W : Wd} {σ : St} {s : DS}
theorem spC_of {C : Ctr} {vs : List V} {ds : List D} {Qd : D → Nat → Prop} {Q : VK} {E : XK} (R : Rel K c W σ s) (r : Reps K W vs ds) (h : C ds s.bud Qd)
    (k : ∀ v H' d b', Rel K c ⟨W.M, H', W.pa⟩ σ { s with bud := b' } → Pr W ⟨W.M, H', W.pa⟩ → Rep K ⟨W.M, H', W.pa⟩ v d → Qd d b' → Q v H') : spC K C vs W.H Q E := by
  have e3 : W.pa = c.pa := R.wpa
  refine ⟨W.M, c.pa, c.pl, ds, s.bud, Qd, e3 ▸ r, R.mp, R.npl, fun a h z => ?_, R.paw, h, fun v H' d b' hk hp rv q => ?_⟩
  · obtain ⟨o, e⟩ := R.there a h
    rw [e] at z
    cases z
  · obtain ⟨R2, P2⟩ := R.after hk hp
    exact k v H' d b' R2 P2 (e3 ▸ rv) q
end
/-! ### == and != by an own def -/
structure EqF (P : Program) (w : World) (K : PySem.W.Frag) (mg : Str → Option Value) (base : Heap) (n : Nat) (C : Addr) (Ct : Ctr) : Prop where
  ex : ∃ (f : Addr) (fd : FuncData) (ps : List Str), FnOk P w K mg base CX0 n f fd ps (spC K Ct) ∧ PySem.W.findIn K (.ref C) "__eq__" = some (some (.ref f)) ∧ PySem.W.isFn K (.ref f) = true ∧ Binds K fd ps []
  ne : PySem.W.findIn K (.ref C) "__ne__" = some (some (.builtin "object.__ne__"))
  ob : PySem.W.subIn K (.ref C) (.type "object") = some true
inductive TyL (H : Hp) : V → Value → Prop
  | str (x : Str) : TyL H (.str x) (.type "str")
  | tup {a : Addr} {xs : List V} (h : H a = some (.tup xs)) : TyL H (.ref a) (.type "tuple")
  | ins {a C dx : Addr} {fs : List (Str × V)} (h : H a = some (.ins C dx fs)) : TyL H (.ref a) (.ref C)
def tyO : D → Option Value
  | .obj C _ => some (.ref C)
  | .tup _ => some (.type "tuple")
  | .str _ => some (.type "str")
  | _ => none
theorem tyL_of {K : PySem.W.Frag} {W : Wd} {y : V} {d : D} {tb : Value} (r : Rep K W y d) (h : tyO d = some tb) : TyL W.H y tb := by
  cases r <;> first | (cases h; done) | skip
  · cases h; exact .str _
  · cases h; rename_i h1 _; exact .tup h1
  · cases h; rename_i h1 _ _ _; exact .ins h1
section
variable {X : Cx} {pins : List (Addr × Obj)} {σ : L2.St} {H : Hp} {s : Shared}
theorem TyL.looks {M : Model} (I : Inv X pins σ H s) {y : V} {u tb : Value} (h : TyL H y tb) (ry : RelV y u) : PySem.W.Looks M s.heap (typeOf u) tb := by
  cases h with
  | str x => obtain ⟨t, rfl⟩ := ry; exact PySem.W.Looks.of_pure rfl
  | tup h =>
    cases ry
    obtain ⟨its, _, ⟨o, ho, hc, _⟩, _⟩ := I.tuple (.inl (.inl h))
    have z : PySem.W.Looks M s.heap (typeOf (.ref _)) o.cls := (PySem.W.Looks.ld ho).andThen .now
    rw [hc] at z
    exact z
  | ins h =>
    cases ry
    obtain ⟨mA, J, _⟩ := ins_get I.hok h
    obtain ⟨od, J, _⟩ := J.look
    exact J.type
theorem run_ok {A : Around} {n : Nat} {f : Addr} {fd : FuncData} {ps : List Str} {sp : Sp} {Q : VK} {us : List Value} {vs : List V} (F : FnOk X.prog X.w X.K X.mg X.base CX0 n f fd ps sp) (hb : Binds X.K fd ps []) (hr : Room n A) (e0 : Env0 X.prog X.w X.K X.mg X.base A X.stack s H)
    (I : Inv X pins σ H s) (r : Vals vs us) (h : sp vs H Q E0) : wpAny (model X.prog X.w) A (call (.ref f) us) (EP X pins σ Q) X.xe s := by
  refine wpAny_call (codeAny_mono (F.run A X.stack s H ⟨us, []⟩ us vs Q E0 hr e0 ?_ r h) fun r s' hq => ?_)
  · have hl : us.length = ps.length := by rw [← r.length]; exact F.len _ _ _ _ h
    have z := hb s us I.kIn (by rw [List.append_nil]; exact hl)
    rw [List.append_nil] at z
    exact z
  · cases r with
    | error e => exact pass0' pins σ H s e s' I hq
    | ok fl =>
      cases fl with
      | ret u => exact I.after hq
      | next => exact False.elim hq
      | brk => exact False.elim hq
      | cont => exact False.elim hq
end
def rOE (K : PySem.W.Frag) (neg : Bool) (C : Addr) (Ct : Ctr) : R2 := fun x y H Q => ∃ (a dx : Addr) (fs : List (Str × V)) (tb : Value), x = .ref a ∧ H a = some (.ins C dx fs) ∧ TyL H y tb ∧ PySem.W.notFirst K C tb = true ∧
  spC K Ct [x, y] H (fun v H' => ∃ b, v = .bl b ∧ Q (.bl (if neg then !b else b)) H') E0
/-- x == y, y of a class below: its own == first -/
def rOS (K : PySem.W.Frag) (C D : Addr) (Ct : Ctr) : R2 := fun x y H Q => ∃ (a dx b dy : Addr) (fs gs : List (Str × V)), x = .ref a ∧ y = .ref b ∧ H a = some (.ins C dx fs) ∧ H b = some (.ins D dy gs) ∧
  spC K Ct [y, x] H (fun v H' => ∃ b, v = .bl b ∧ Q (.bl b) H') E0
def fOE (K : PySem.W.Frag) (neg : Bool) (C : Addr) (Ct : Ctr) : DR := fun s d e Q => match d, tyO e with
  | .obj C' fs, some tb => C' = C ∧ PySem.W.notFirst K C tb = true ∧ Ct [.obj C' fs, e] s.bud fun d b => ∃ r, d = .bl r ∧ b = s.bud ∧ Q (.bl (if neg then !r else r))
  | _, _ => False
def fOS (K : PySem.W.Frag) (C D' : Addr) (Ct : Ctr) : DR := fun s d e Q => match d, e with
  | .obj C' fs, .obj D gs => C' = C ∧ D = D' ∧ Ct [.obj D gs, .obj C' fs] s.bud fun d b => ∃ r, d = .bl r ∧ b = s.bud ∧ Q (.bl r)
  | _, _ => False
section
variable {P : Program} {w : World} {K : PySem.W.Frag} {mg : Str → Option Value} {base : Heap} {X : Cx} {n : Nat} {C D' : Addr} {Ct : Ctr}
theorem o_oe (F : EqF P w K mg base n C Ct) (hr : Room (n + 1) X.A) (hX : X.prog = P ∧ X.w = w ∧ X.K = K ∧ X.mg = mg ∧ X.base = base := by exact ⟨rfl, rfl, rfl, rfl, rfl⟩) : OpR X (compareOp .Eq) (rOE K false C Ct) ∧ SndR X.K (rOE K false C Ct) (fOE K false C Ct) := by
  obtain ⟨h1, h2, h3, h4, h5⟩ := hX
  subst h1 h2 h3 h4 h5
  obtain ⟨f, fd, ps, ok, hs, hf, hb⟩ := F.ex
  refine ⟨?_, ?_⟩
  · intro pins s σ H x y v u Q I rx ry h
    obtain ⟨a, dx, fs, tb, rfl, ha, ty, hn, q⟩ := h
    cases (show v = Value.ref a from rx)
    obtain ⟨mA, J, _⟩ := ins_get I.hok ha
    obtain ⟨od, J, _⟩ := J.look
    obtain ⟨m, hF⟩ := I.fr
    refine PySem.W.cmp_K (op := .Eq) (tb := tb) hr.units0 hF I.ok.mod.kin J (ty.looks I ry) hn hs hf ?_
    refine wpAny_mono (run_ok (vs := [.ref a, y]) ok hb (hr.mono (by omega)) I.env0 I (.cons rfl (.cons ry .nil)) q) (fun r s' z => ?_) fun _ _ x => x
    obtain ⟨z', H', I', rz, b, rfl, qz⟩ := z
    cases (show r = Value.bool b from rz)
    exact ⟨.bl b, H', I', rfl, qz⟩
  · intro c W σ s x y d e Qv Qd R r1 r2 h k
    unfold fOE at h
    split at h
    · rename_i C' fs tb t1
      obtain ⟨rfl, hn, q⟩ := h
      have ne : e.isSlot = false := by cases e <;> first | rfl | (cases t1)
      have r1' := r1.to rfl
      have r2' := r2.to ne
      cases id r1' with
      | obj g1 g2 g3 g4 =>
        refine ⟨_, _, _, tb, rfl, g1, tyL_of r2' t1, hn, spC_of R (.cons r1' (.cons r2' .nil)) q fun v H' d b' R2 P2 rv z => ?_⟩
        obtain ⟨r, rfl, rfl, z⟩ := z
        cases rv
        exact ⟨r, rfl, k _ _ _ R2 P2 (Rep.bl _).t z⟩
    · exact h.elim
theorem o_on (F : EqF P w K mg base n C Ct) (hr : Room (n + 2) X.A) (hX : X.prog = P ∧ X.w = w ∧ X.K = K ∧ X.mg = mg ∧ X.base = base := by exact ⟨rfl, rfl, rfl, rfl, rfl⟩) : OpR X (compareOp .NotEq) (rOE K true C Ct) ∧ SndR X.K (rOE K true C Ct) (fOE K true C Ct) := by
  obtain ⟨h1, h2, h3, h4, h5⟩ := hX
  subst h1 h2 h3 h4 h5
  obtain ⟨f, fd, ps, ok, hs, hf, hb⟩ := F.ex
  refine ⟨?_, ?_⟩
  · intro pins s σ H x y v u Q I rx ry h
    obtain ⟨a, dx, fs, tb, rfl, ha, ty, hn, q⟩ := h
    cases (show v = Value.ref a from rx)
    obtain ⟨mA, J, _⟩ := ins_get I.hok ha
    obtain ⟨od, J, _⟩ := J.look
    have hr1 : Room (n + 1) X.A.in1 := (show Room (n + 1 + 1) X.A from hr).in1
    refine PySem.W.kp_ne (tb := tb) hr1.units0 I.kIn J (ty.looks I ry) hn F.ne F.ob hs hf ?_
    refine wpAny_mono (run_ok (vs := [.ref a, y]) ok hb (hr1.mono (by omega)) I.env0.in1 I (.cons rfl (.cons ry .nil)) q) (fun r s' z => ?_) fun _ _ x => x
    obtain ⟨z', H', I', rz, b, rfl, qz⟩ := z
    cases (show r = Value.bool b from rz)
    exact ⟨b, rfl, .bl (!b), H', I', rfl, qz⟩
  · intro c W σ s x y d e Qv Qd R r1 r2 h k
    unfold fOE at h
    split at h
    · rename_i C' fs tb t1
      obtain ⟨rfl, hn, q⟩ := h
      have ne : e.isSlot = false := by cases e <;> first | rfl | (cases t1)
      have r1' := r1.to rfl
      have r2' := r2.to ne
      cases id r1' with
      | obj g1 g2 g3 g4 =>
        refine ⟨_, _, _, tb, rfl, g1, tyL_of r2' t1, hn, spC_of R (.cons r1' (.cons r2' .nil)) q fun v H' d b' R2 P2 rv z => ?_⟩
        obtain ⟨r, rfl, rfl, z⟩ := z
        cases rv
        exact ⟨r, rfl, k _ _ _ R2 P2 (Rep.bl _).t z⟩
    · exact h.elim
theorem o_os (F : EqF P w K mg base n D' Ct) (hne : D' ≠ C) (hsub : PySem.W.subIn K (.ref D') (.ref C) = some true) (hr : Room (n + 1) X.A) (hX : X.prog = P ∧ X.w = w ∧ X.K = K ∧ X.mg = mg ∧ X.base = base := by exact ⟨rfl, rfl, rfl, rfl, rfl⟩) :
    OpR X (compareOp .Eq) (rOS K C D' Ct) ∧ SndR X.K (rOS K C D' Ct) (fOS K C D' Ct) := by
  obtain ⟨h1, h2, h3, h4, h5⟩ := hX
  subst h1 h2 h3 h4 h5
  obtain ⟨f, fd, ps, ok, hs, hf, hb⟩ := F.ex
  refine ⟨?_, ?_⟩
  · intro pins s σ H x y v u Q I rx ry h
    obtain ⟨a, dx, b, dy, fs, gs, rfl, rfl, ha, hy, q⟩ := h
    cases (show v = Value.ref a from rx)
    cases (show u = Value.ref b from ry)
    obtain ⟨mA, J, _⟩ := ins_get I.hok ha
    obtain ⟨od, J, _⟩ := J.look
    obtain ⟨mB, J', _⟩ := ins_get I.hok hy
    obtain ⟨od', J', _⟩ := J'.look
    refine PySem.W.kp_cmp_sub (op := .Eq) hr.units0 I.kIn J J' hne hsub hs hf ?_
    refine wpAny_mono (run_ok (vs := [.ref b, .ref a]) ok hb (hr.mono (by omega)) I.env0 I (.cons rfl (.cons rfl .nil)) q) (fun r s' z => ?_) fun _ _ x => x
    obtain ⟨z', H', I', rz, b, rfl, qz⟩ := z
    cases (show r = Value.bool b from rz)
    exact ⟨.bl b, H', I', rfl, qz⟩
  · intro c W σ s x y d e Qv Qd R r1 r2 h k
    unfold fOS at h
    split at h
    · obtain ⟨rfl, rfl, q⟩ := h
      have r1' := r1.to rfl
      have r2' := r2.to rfl
      cases id r1' with
      | obj g1 g2 g3 g4 =>
        cases id r2' with
        | obj g1' g2' g3' g4' =>
          refine ⟨_, _, _, _, _, _, rfl, rfl, g1, g1', spC_of R (.cons r2' (.cons r1' .nil)) q fun v H' d b' R2 P2 rv z => ?_⟩
          obtain ⟨r, rfl, rfl, z⟩ := z
          cases rv
          exact ⟨r, rfl, k _ _ _ R2 P2 (Rep.bl _).t z⟩
    · exact h.elim
/-! ### bool(x) by an own def -/
structure BoF (P : Program) (w : World) (K : PySem.W.Frag) (mg : Str → Option Value) (base : Heap) (n : Nat) (C : Addr) (Ct : Ctr) : Prop where
  ex : ∃ (f : Addr) (fd : FuncData) (ps : List Str), FnOk P w K mg base CX0 n f fd ps (spC K Ct) ∧ PySem.W.findIn K (.ref C) "__bool__" = some (some (.ref f)) ∧ PySem.W.isFn K (.ref f) = true ∧ Binds K fd ps []
def rBO (K : PySem.W.Frag) (C : Addr) (Ct : Ctr) : List V → Hp → VK → Prop := fun xs H Q => ∃ (a dx : Addr) (fs : List (Str × V)), xs = [.ref a] ∧ H a = some (.ins C dx fs) ∧ spC K Ct [.ref a] H (fun v H' => ∃ b, v = .bl b ∧ Q (.bl b) H') E0
def fBO (C : Addr) (Ct : Ctr) : DCl := fun s ds Q => match ds with
  | [.obj C' fs] => C' = C ∧ Ct [.obj C' fs] s.bud fun d b => ∃ r, d = .bl r ∧ b = s.bud ∧ Q (.bl r)
  | _ => False
theorem b_bo (F : BoF P w K mg base n C Ct) (hr : Room (n + 2) X.A) (hX : X.prog = P ∧ X.w = w ∧ X.K = K ∧ X.mg = mg ∧ X.base = base := by exact ⟨rfl, rfl, rfl, rfl, rfl⟩) : CallR X (.type "bool") (rBO K C Ct) ∧ SndC X.K (rBO K C Ct) (fBO C Ct) := by
  obtain ⟨h1, h2, h3, h4, h5⟩ := hX
  subst h1 h2 h3 h4 h5
  obtain ⟨f, fd, ps, ok, hs, hf, hb⟩ := F.ex
  refine ⟨?_, ?_⟩
  · intro pins s σ H xs us Q I r h
    obtain ⟨a, dx, fs, rfl, ha, q⟩ := h
    obtain rfl := Vals.ref1 r
    obtain ⟨mA, J, _⟩ := ins_get I.hok ha
    obtain ⟨od, J, _⟩ := J.look
    have hr2 : Room n X.A.in1.in1 := ((show Room (n + 1 + 1) X.A from hr).in1).in1
    refine PySem.W.kp_bool I.kIn J hs hf ?_
    refine wpAny_mono (run_ok (vs := [.ref a]) ok hb hr2 I.env0.in1.in1 I (.cons rfl .nil) q) (fun r s' z => ?_) fun _ _ x => x
    obtain ⟨z', H', I', rz, b, rfl, qz⟩ := z
    cases (show r = Value.bool b from rz)
    exact ⟨b, rfl, .bl b, H', I', rfl, qz⟩
  · intro c W σ s xs ds Qv Qd R r h k
    unfold fBO at h
    split at h
    · obtain ⟨rfl, q⟩ := h
      obtain ⟨v, rfl, rv⟩ := repsT_one r
      have r1' := rv.to rfl
      cases id r1' with
      | obj g1 g2 g3 g4 =>
        refine ⟨_, _, _, rfl, g1, spC_of R (.cons r1' .nil) q fun v H' d b' R2 P2 rv z => ?_⟩
        obtain ⟨r, rfl, rfl, z⟩ := z
        cases rv
        exact ⟨r, rfl, k _ _ _ R2 P2 (Rep.bl _).t z⟩
    · exact h.elim
end
end DL

namespace DL
open PySem L2 DX
/-! ### texts are compared -/
def rNS : R2 := fun x y H Q => ∃ a b : Str, x = .str a ∧ y = .str b ∧ Q (.bl (!(a == b))) H
def rES : R2 := fun x y H Q => ∃ a b : Str, x = .str a ∧ y = .str b ∧ Q (.bl (a == b)) H
def fNS : DR := fun _ d e Q => match d, e with
  | .str a, .str b => Q (.bl (!(a == b)))
  | _, _ => False
def fES : DR := fun _ d e Q => match d, e with
  | .str a, .str b => Q (.bl (a == b))
  | _, _ => False
section
variable {X : Cx}
theorem o_nS : OpR X (compareOp .NotEq) rNS ∧ SndR X.K rNS fNS := by
  refine ⟨fun pins s σ H x y v u Q I rx ry h => ?_, fun c W σ s x y d e Qv Qd R r1 r2 h k => ?_⟩
  · obtain ⟨a, b, rfl, rfl, q⟩ := h
    refine op_ne pins s σ H _ _ v u Q I rx ry ⟨rfl, ?_⟩
    rw [dec_str]
    exact q
  · unfold fNS at h
    split at h
    · cases r1
      cases r2
      exact ⟨_, _, rfl, rfl, k _ W _ R (Pr.refl _) (Rep.bl _).t h⟩
    · exact h.elim
theorem o_eS : OpR X (compareOp .Eq) rES ∧ SndR X.K rES fES := by
  refine ⟨fun pins s σ H x y v u Q I rx ry h => ?_, fun c W σ s x y d e Qv Qd R r1 r2 h k => ?_⟩
  · obtain ⟨a, b, rfl, rfl, q⟩ := h
    refine op_eq pins s σ H _ _ v u Q I rx ry ⟨rfl, ?_⟩
    rw [dec_str]
    exact q
  · unfold fES at h
    split at h
    · cases r1
      cases r2
      exact ⟨_, _, rfl, rfl, k _ W _ R (Pr.refl _) (Rep.bl _).t h⟩
    · exact h.elim
end
/-! ### drawn data: short, not deep -/
def shortP (p : PyData) : Bool := p.showable && decide (p.shown.length ≤ 30)
def okW : Nat → D → Bool
  | _, .non => true
  | _, .bl _ => true
  | _, .int i => shortP (.int i)
  | _, .str x => shortP (.str x)
  | n + 1, .tup xs => decide (xs.length ≤ 6) && xs.all (okW n)
  | n + 1, .lst xs => decide (xs.length ≤ 6) && xs.all (okW n)
  | _ + 2, .dK kvs => isA kvs
  | _, _ => false
theorem okW_okV : ∀ (n : Nat) (d : D), okW n d = true → okV n d = true
  | 0, d, h => by cases d <;> first | rfl | cases h
  | 1, .tup xs, h => by
    rw [okW, Bool.and_eq_true] at h
    rw [okV]
    exact List.all_eq_true.mpr fun x hx => okW_okV 0 x (List.all_eq_true.mp h.2 x hx)
  | 1, .lst xs, h => by
    rw [okW, Bool.and_eq_true] at h
    rw [okV]
    exact List.all_eq_true.mpr fun x hx => okW_okV 0 x (List.all_eq_true.mp h.2 x hx)
  | n + 2, .tup xs, h => by
    rw [okW, Bool.and_eq_true] at h
    rw [okV]
    exact List.all_eq_true.mpr fun x hx => okW_okV (n + 1) x (List.all_eq_true.mp h.2 x hx)
  | n + 2, .lst xs, h => by
    rw [okW, Bool.and_eq_true] at h
    rw [okV]
    exact List.all_eq_true.mpr fun x hx => okW_okV (n + 1) x (List.all_eq_true.mp h.2 x hx)
  | n + 2, .dK kvs, h => h
  | 1, .dK kvs, h => by cases h
  | 1, .non, h => rfl
  | 1, .bl _, h => rfl
  | 1, .int _, h => rfl
  | 1, .str _, h => rfl
  | n + 2, .non, h => rfl
  | n + 2, .bl _, h => rfl
  | n + 2, .int _, h => rfl
  | n + 2, .str _, h => rfl
  | 1, .kon _, h | 1, .obj _ _, h | 1, .exc _ _, h | 1, .dT _, h | 1, .raw _, h | 1, .paw, h | 1, .slot _, h => by cases h
  | n + 2, .kon _, h | n + 2, .obj _ _, h | n + 2, .exc _ _, h | n + 2, .dT _, h | n + 2, .raw _, h | n + 2, .paw, h | n + 2, .slot _, h => by cases h
theorem okW_slot : ∀ {n : Nat} {d : D}, okW n d = true → d.isSlot = false
  | n, d, h => by cases d <;> first | rfl | (cases n <;> (try cases h) <;> rename_i m <;> cases m <;> cases h)
theorem okW_up : ∀ (n : Nat) (d : D), okW n d = true → okW (n + 1) d = true
  | 0, d, h => by cases d <;> first | exact h | cases h
  | n + 1, .tup xs, h => by
    rw [okW, Bool.and_eq_true] at h ⊢
    exact ⟨h.1, List.all_eq_true.mpr fun x hx => okW_up n x (List.all_eq_true.mp h.2 x hx)⟩
  | n + 1, .lst xs, h => by
    rw [okW, Bool.and_eq_true] at h ⊢
    exact ⟨h.1, List.all_eq_true.mpr fun x hx => okW_up n x (List.all_eq_true.mp h.2 x hx)⟩
  | n + 2, .dK kvs, h => h
  | 1, .dK kvs, h => by cases h
  | n + 1, .non, h => rfl
  | n + 1, .bl _, h => rfl
  | n + 1, .int _, h => h
  | n + 1, .str _, h => h
  | 1, .kon _, h | 1, .obj _ _, h | 1, .exc _ _, h | 1, .dT _, h | 1, .raw _, h | 1, .paw, h | 1, .slot _, h => by cases h
  | n + 2, .kon _, h | n + 2, .obj _ _, h | n + 2, .exc _ _, h | n + 2, .dT _, h | n + 2, .raw _, h | n + 2, .paw, h | n + 2, .slot _, h => by cases h
/-! how long their texts are -/
def lenW : Nat → Nat
  | 0 => 30
  | n + 1 => 6 * lenW n + 15
theorem lenW_30 : ∀ n, 30 ≤ lenW n
  | 0 => Nat.le_refl _
  | n + 1 => by have := lenW_30 n; rw [lenW]; omega
theorem textFrom_up : ∀ (ts : List Str) (k : Nat) (acc : Str) (L : Nat), (∀ t ∈ ts, t.length ≤ L) → (textFrom k acc ts).length ≤ acc.length + ts.length * (L + 2)
  | [], k, acc, L, _ => by show acc.length ≤ _; simp
  | t :: ts, k, acc, L, h => by
    show (textFrom (k + 1) _ ts).length ≤ _
    have ih := textFrom_up ts (k + 1) (acc ++ (if k > 0 then ", " else "" : String) ++ t) L fun x hx => h x (List.mem_cons_of_mem _ hx)
    have ht := h t (List.mem_cons_self ..)
    have e : (acc ++ (if k > 0 then ", " else "" : String) ++ t).length = acc.length + (if k > 0 then 2 else 0) + t.length := by
      rw [strLen_append, strLen_append]
      split <;> rfl
    rw [e] at ih
    rw [List.length_cons, Nat.succ_mul]
    have hc : (if k > 0 then 2 else 0 : Nat) ≤ 2 := by split <;> omega
    omega
theorem listText_up {ts : List Str} {L : Nat} (h : ∀ t ∈ ts, t.length ≤ L) : (listText ts).length ≤ 2 + ts.length * (L + 2) := by
  unfold listText
  have z := textFrom_up ts 0 "[" L h
  rw [strLen_append]
  have e1 : (("[" : String) : Str).length = 1 := rfl
  have e2 : (("]" : String) : Str).length = 1 := rfl
  rw [e1] at z
  rw [e2]
  omega
theorem piled_up : ∀ {ts : List Str} {L : Nat}, (∀ t ∈ ts, t.length ≤ L) → piled ts ≤ ts.length * (L + 2)
  | [], L, _ => by simp [piled]
  | t :: ts, L, h => by
    rw [piled_cons, List.length_cons, Nat.succ_mul]
    have := piled_up (ts := ts) fun x hx => h x (List.mem_cons_of_mem _ hx)
    have := h t (List.mem_cons_self ..)
    omega
theorem tupleText_up {ts : List Str} {L : Nat} (h : ∀ t ∈ ts, t.length ≤ L) : (tupleText ts).length ≤ 3 + ts.length * (L + 2) := by
  unfold tupleText
  rw [strLen_append, strLen_append]
  have e1 : (("(" : String) : Str).length = 1 := rfl
  have e2 : ∀ b : Bool, ((if b = true then ",)" else ")" : String) : Str).length ≤ 2 := by intro b; cases b <;> decide
  have e2 := e2 (ts.length == 1)
  have z := piled_up h
  by_cases hn : ts = []
  · subst hn
    show 1 + 0 + _ ≤ _
    simp only [List.length_nil] at e2 ⊢
    omega
  · have q := join_length_add ts hn
    rw [e1]
    omega
theorem toPyRs_map : ∀ {n : Nat} {xs : List D} {L : Nat}, (∀ d ∈ xs, ∃ p, toPyR d = some p ∧ p.showable = true ∧ p.depth ≤ n ∧ p.shown.length ≤ L) →
    ∃ ps, toPyRs xs = some ps ∧ PyData.showableAll ps = true ∧ PyData.depthAll ps ≤ n ∧ (PyData.shownAll ps).length = xs.length ∧ ∀ t ∈ PyData.shownAll ps, t.length ≤ L
  | n, [], L, _ => ⟨[], by rw [toPyRs], rfl, by rw [PyData.depthAll]; omega, rfl, fun t ht => by rw [PyData.shownAll] at ht; simp at ht⟩
  | n, x :: xs, L, h => by
    obtain ⟨p, e1, h1, h2, h3⟩ := h x (List.mem_cons_self ..)
    obtain ⟨ps, f1, f2, f3, f4, f5⟩ := toPyRs_map (n := n) (xs := xs) (L := L) fun d hd => h d (List.mem_cons_of_mem _ hd)
    refine ⟨p :: ps, by rw [toPyRs, e1, f1]; rfl, ?_, ?_, ?_, fun t ht => ?_⟩
    · rw [PyData.showableAll, h1, f2]; rfl
    · rw [PyData.depthAll]; omega
    · rw [PyData.shownAll, List.length_cons, List.length_cons, f4]
    · rw [PyData.shownAll] at ht
      rcases List.mem_cons.mp ht with rfl | ht
      · exact h3
      · exact f5 t ht
theorem shown_W : ∀ (n : Nat) (d : D), okW n d = true → ∃ p, toPyR d = some p ∧ p.showable = true ∧ p.depth ≤ n ∧ p.shown.length ≤ lenW n := by
  intro n
  induction n with
  | zero =>
    intro d h
    cases d <;> first | cases h; done | skip
    · exact ⟨.none, by rw [toPyR], by decide, by decide, by decide⟩
    · rename_i b; exact ⟨.bool b, by rw [toPyR], by cases b <;> decide, by cases b <;> decide, by cases b <;> decide⟩
    · rename_i i
      rw [okW, shortP, Bool.and_eq_true, decide_eq_true_eq] at h
      exact ⟨.int i, by rw [toPyR], h.1, by simp [PyData.depth], h.2⟩
    · rename_i i
      rw [okW, shortP, Bool.and_eq_true, decide_eq_true_eq] at h
      exact ⟨.str i, by rw [toPyR], h.1, by simp [PyData.depth], h.2⟩
  | succ n ih =>
    intro d h
    have l30 := lenW_30 (n + 1)
    cases d with
    | non => exact ⟨.none, by rw [toPyR], by decide, Nat.zero_le _, Nat.le_trans (by decide) l30⟩
    | bl b => exact ⟨.bool b, by rw [toPyR], by cases b <;> decide, Nat.zero_le _, Nat.le_trans (by cases b <;> decide) l30⟩
    | int i =>
      rw [okW, shortP, Bool.and_eq_true, decide_eq_true_eq] at h
      exact ⟨.int i, by rw [toPyR], h.1, by simp [PyData.depth], Nat.le_trans h.2 l30⟩
    | str i =>
      rw [okW, shortP, Bool.and_eq_true, decide_eq_true_eq] at h
      exact ⟨.str i, by rw [toPyR], h.1, by simp [PyData.depth], Nat.le_trans h.2 l30⟩
    | tup xs =>
      rw [okW, Bool.and_eq_true, decide_eq_true_eq] at h
      obtain ⟨ps, f1, f2, f3, f4, f5⟩ := toPyRs_map (n := n) (xs := xs) (L := lenW n) fun d hd => ih d (List.all_eq_true.mp h.2 d hd)
      refine ⟨.tuple ps, by rw [toPyR, f1]; rfl, by rw [PyData.showable]; exact f2, by rw [PyData.depth]; omega, ?_⟩
      rw [PyData.shown, lenW]
      have z := tupleText_up f5
      have := Nat.mul_le_mul_right (lenW n + 2) (f4 ▸ h.1)
      omega
    | lst xs =>
      rw [okW, Bool.and_eq_true, decide_eq_true_eq] at h
      obtain ⟨ps, f1, f2, f3, f4, f5⟩ := toPyRs_map (n := n) (xs := xs) (L := lenW n) fun d hd => ih d (List.all_eq_true.mp h.2 d hd)
      refine ⟨.list ps, by rw [toPyR, f1]; rfl, by rw [PyData.showable]; exact f2, by rw [PyData.depth]; omega, ?_⟩
      rw [PyData.shown, lenW]
      have z := listText_up f5
      have := Nat.mul_le_mul_right (lenW n + 2) (f4 ▸ h.1)
      omega
    | dK kvs =>
      cases n with
      | zero => cases h
      | succ m =>
        have e := isA_eq (show isA kvs = true from h)
        subst e
        exact ⟨.dict [(keyPy (.inr "a"), .list [.int 1])], rfl, by decide +kernel, by show 2 ≤ m + 2; omega, Nat.le_trans (by decide +kernel) l30⟩
    | _ => cases n <;> cases h
/-- the text of drawn data -/
theorem repr_W {d : D} (h : okW 7 d = true) : ∃ x : Str, ∀ (s : DS) (Q : D → Prop), Q (.str x) → fReprQ s [d] Q := by
  obtain ⟨p, e, h1, h2, h3⟩ := shown_W 7 d h
  refine ⟨p.shown, fun s Q q => ⟨okW_slot h, ?_⟩⟩
  rw [e]
  exact ⟨h1, by omega, by rw [sizeLine_eq]; have : lenW 7 = 9237885 := (by decide); omega, q⟩
/-! ### fixed, over data -/
def fixD : Nat → D → D
  | n + 1, .tup xs => .tup (xs.map (fixD n))
  | n + 1, .lst xs => .tup (xs.map (fixD n))
  | _, d => d
theorem fix_ok : ∀ (n : Nat) (d : D), okW n d = true → okW n (fixD n d) = true
  | 0, d, h => by cases d <;> exact h
  | n + 1, .tup xs, h => by
    rw [okW, Bool.and_eq_true, decide_eq_true_eq] at h
    rw [fixD, okW, Bool.and_eq_true, decide_eq_true_eq, List.length_map]
    refine ⟨h.1, List.all_eq_true.mpr fun y hy => ?_⟩
    obtain ⟨x, hx, rfl⟩ := List.mem_map.mp hy
    exact fix_ok n x (List.all_eq_true.mp h.2 x hx)
  | n + 1, .lst xs, h => by
    rw [okW, Bool.and_eq_true, decide_eq_true_eq] at h
    rw [fixD, okW, Bool.and_eq_true, decide_eq_true_eq, List.length_map]
    refine ⟨h.1, List.all_eq_true.mpr fun y hy => ?_⟩
    obtain ⟨x, hx, rfl⟩ := List.mem_map.mp hy
    exact fix_ok n x (List.all_eq_true.mp h.2 x hx)
  | n + 1, .non, h => h
  | n + 1, .bl _, h => h
  | n + 1, .int _, h => h
  | n + 1, .str _, h => h
  | n + 1, .dK _, h => h
  | n + 1, .kon _, h | n + 1, .obj _ _, h | n + 1, .exc _ _, h | n + 1, .dT _, h | n + 1, .raw _, h | n + 1, .paw, h | n + 1, .slot _, h => h
theorem fix_fix : ∀ (n : Nat) (d : D), fixD n (fixD n d) = fixD n d
  | 0, d => by cases d <;> rfl
  | n + 1, .tup xs => by
    rw [fixD, fixD, List.map_map]
    congr 1
    exact List.map_congr_left fun x _ => fix_fix n x
  | n + 1, .lst xs => by
    rw [fixD, fixD, List.map_map]
    congr 1
    exact List.map_congr_left fun x _ => fix_fix n x
  | n + 1, .non => rfl
  | n + 1, .bl _ => rfl
  | n + 1, .int _ => rfl
  | n + 1, .str _ => rfl
  | n + 1, .dK _ => rfl
  | n + 1, .kon _ | n + 1, .obj _ _ | n + 1, .exc _ _ | n + 1, .dT _ | n + 1, .raw _ | n + 1, .paw | n + 1, .slot _ => rfl
end DL

namespace DL
open PySem L2 DX
theorem upd_comm {H : Hp} {a b : Addr} {o u : HO} (h : a ≠ b) : upd (upd H a o) b u = upd (upd H b u) a o := by
  funext z
  by_cases h1 : z = a
  · subst h1
    rw [upd_ne h, upd_same, upd_same]
  · by_cases h2 : z = b
    · subst h2
      rw [upd_same, upd_ne h1, upd_same]
    · rw [upd_ne h2, upd_ne h1, upd_ne h1, upd_ne h2]
/-- what def f(self, word, *parts) promises, from the promise over (self, word, parts) -/
def spStar (n : Nat) (sp : Sp) : Sp := fun vs H Q E => ∃ ws rest, vs = ws ++ rest ∧ ws.length = n ∧ rest.length ≤ sizeLine ∧ ∀ p, H p = Option.none → sp (ws ++ [V.ref p]) (upd H p (.tup rest)) Q E
structure MkS (P : Program) (w : World) (K : PySem.W.Frag) (mg : Str → Option Value) (base : Heap) (k : Nat) (x : Str) (Ca : Addr) (C : CtrI) : Prop where
  ex : ∃ f, FnR P w K mg base CX0 k f (spStar 2 (spI K Ca C)) ∧ mg x = some (.ref Ca) ∧ Mk K Ca f
def dMakeS (Ca : Addr) (C : CtrI) (ra : DA) : DE := fun s Q => ra s fun ds s1 => noSlots ds = true ∧ match ds with
  | d :: rest => rest.length ≤ 1000 ∧ C [d, .tup rest] s1.bud fun fs b => Q (.obj Ca fs) { s1 with bud := b }
  | [] => False
section
variable {P : Program} {w : World} {K : PySem.W.Frag} {mg : Str → Option Value} {base : Heap} {X : Cx} {e o value : Expr} {es : List Expr} {te to tv : TE} {t u : DE} {taa tk : TA} {ra rk : DA} {pos pos' p apos : Pos} {k : Nat} {x qual m : Str} {ps : List Str} {st : Stmt}
theorem snd_makeS {Ca : Addr} {C : CtrI} {E : XK} (ha : SndA K taa ra) : SndE K (StX.tMakeR Ca (spStar 2 (spI K Ca C)) E taa) (dMakeS Ca C ra) := by
  intro c W σ s Qv Qd R hq kq
  refine ha c W σ s _ _ R hq fun vs W1 ds s1 R1 p1 r1 q1 => ?_
  obtain ⟨hn, q1⟩ := q1
  have r0 := r1.to hn
  intro y dy hy hdy ne
  cases r0 with
  | nil => exact q1.elim
  | cons a r =>
    rename_i v d vr dr
    obtain ⟨hl, q1⟩ := q1
    refine ⟨[V.ref y, v], vr, rfl, rfl, by rw [r.length, sizeLine_eq]; omega, fun pp hp => ?_⟩
    have npy : pp ≠ y := fun e => by rw [e, upd_same] at hp; cases hp
    have npd : pp ≠ dy := fun e => by rw [e, upd_ne ne, upd_same] at hp; cases hp
    have hp0 : W1.H pp = none := by rw [upd_ne npy, upd_ne npd] at hp; exact hp
    have P1 := Pr.new (W := W1) (o := .tup vr) hp0
    have e3 : W1.pa = c.pa := R1.wpa
    refine ⟨upd W1.H pp (.tup vr), y, dy, [v, .ref pp], W1.M, c.pa, c.pl, [d, .tup dr], s1.bud, _, rfl, ?_, ?_, ?_, ne, ?_, R1.mp, R1.npl, fun a h z => ?_, R1.paw.same (same_new hp0), q1, fun H' vs' fs b' hk hpw hx hnm rv q => ⟨rfl, ?_⟩⟩
    · rw [upd_comm (Ne.symm npy), upd_comm (Ne.symm npd)]
    · rw [upd_ne (Ne.symm npy)]; exact hy
    · rw [upd_ne (Ne.symm npd)]; exact hdy
    · rw [← e3]
      exact .cons (a.mono P1) (.cons (Rep.tup upd_same (r.mono P1)) .nil)
    · obtain ⟨o, e⟩ := R1.there a h
      have := same_new (o := .tup vr) hp0 a o e
      rw [this] at z
      cases z
    · have hk' : Kept c.pa W1.H H' := fun a o h n => hk a o (same_new (o := .tup vr) hp0 a o h) n
      obtain ⟨R2, P2⟩ := R1.after hk' hpw
      refine kq (.ref y) ⟨W1.M, H', W1.pa⟩ (.obj Ca fs) { s1 with bud := b' } R2 (p1.trans P2) (Rep.obj (vs := vs') hx (fun z => ?_) hnm ?_).t q
      · obtain ⟨o, e⟩ := R1.there y z
        rw [hy] at e
        cases e
      · rw [e3]
        exact rv
theorem d_makeS {Ca : Addr} {C : CtrI} (G : MkS P w K mg base k x Ca C) (hr : Room (k + 1) X.A) (ha : PDA X (e :: es) taa ra) (hX : X.prog = P ∧ X.w = w ∧ X.K = K ∧ X.mg = mg ∧ X.base = base := by exact ⟨rfl, rfl, rfl, rfl, rfl⟩) (hg : Gl X x := by rfl) (hdb : (x == ("__debug__" : Str)) = false := by decide)
    (he : starEach (e :: es) X.env = (false, eval e X.env) :: starEach es X.env := by rfl) (hpl : (backTo pos (starEach es X.env)).any (·.1) = false := by rfl) : PD X (.Call (.Name x p) (e :: es) [] pos) (StX.tMakeR Ca (spStar 2 (spI K Ca C)) E0 taa) (dMakeS Ca C ra) := by
  obtain ⟨h1, h2, h3, h4, h5⟩ := hX
  subst h1 h2 h3 h4 h5
  obtain ⟨f, F, hm, M⟩ := G.ex
  exact ⟨StX.pe_makeR M F hr hg hm pass0' ha.pa hdb he hpl, snd_makeS ha.snd⟩
end
/-- the __init__ with a star, by its body -/
theorem fnStarI {P : Program} {w : World} {K : PySem.W.Frag} {mg : Str → Option Value} {base : Heap} {x qual : Str} {st : Stmt} {f : Addr} {fd : FuncData} {N : List Str} {k : Nat} {Ca : Addr} {C : CtrI} (F : Fun K x qual st f fd) (S : FnScope N ["self", "word", "parts"] (defScope st))
    (hb : ∀ us rest : List Value, us.length = 2 → bindArgs fd ⟨us ++ rest, []⟩ = (newTuple rest >>= fun t => pure ((["self", "word"] : List Str).zip us ++ [(("parts" : Str), t)])))
    (len : ∀ ds b Q, C ds b Q → ds.length = 2)
    (hbody : ∀ (cdv : Value) (A : Around) (outer : List Env) (s : Shared) (H : Hp) (E : XK), Room k (A.deeper (PyProof.Rows.envOfC qual (defScope st) s.heap.objs.size f cdv)) →
      ∃ ts t, PDSs (cxOf CX0 P w K mg base N qual (defScope st) f cdv A outer s H E).nox (defBody st) ts t ∧ ∀ ds b Qd, C ds b Qd → ∀ x dx, t (endsI x dx Ca Qd) (startI x dx Ca N ds b)) : FnR P w K mg base CX0 (k + 1) f (spStar 2 (spI K Ca C)) := by
  obtain ⟨oc, od, kV, doc, pm, an, cdv, ct, osl, rfl, lk, hcd⟩ := F.ex
  refine StX.fn_star (ps := ["self", "word"]) (pv := "parts") lk hcd S StX.cxUp_none hb fun A outer s H vs Q E hr h => ?_
  obtain ⟨H1, x, dx, ws, M, pa, pl, ds, b, Qd, rfl, rfl, hx, hdx, ne, r, mp, npl, m0, pw, hc, hk⟩ := h
  obtain ⟨ts, t, hp, ht⟩ := hbody cdv A outer s (upd (upd H1 dx (.own x)) x (.ins Ca dx [])) E hr
  refine ⟨ts, hp.ps.nox, ?_⟩
  have hpl : ds.length + 1 ≤ N.length := by
    rw [len _ _ _ hc]
    have e := congrArg List.length S.pre
    rw [List.length_take] at e
    simp only [List.length_cons, List.length_nil] at e
    omega
  refine hp.snd ⟨M, H1, pa, pl, fun a => a = pa⟩ _ (L2.start N (.ref x :: ws)) (startI x dx Ca N ds b) _ (endsI x dx Ca Qd) (rel_startI hx hdx ne r mp npl m0 pw hpl) ⟨fun W' σ' s' R _ q => ?_, fun _ _ _ _ _ _ _ _ z => z.elim, fun _ _ _ _ _ z => z.elim, fun _ _ _ _ _ z => z.elim⟩ (ht ds b Qd hc x dx)
  have q' : match s'.sl[0]? with
    | some (EV.ownI x' dx' C' fs) => (x' = x ∧ dx' = dx ∧ C' = Ca) ∧ Qd fs s'.bud
    | _ => False := q
  cases e1 : s'.sl[0]? with
  | none => rw [e1] at q'; exact q'.elim
  | some en =>
    rw [e1] at q'
    cases en with
    | ownI lx dxx C' fs =>
      obtain ⟨⟨rfl, rfl, rfl⟩, q2⟩ := q'
      obtain ⟨l, dx', vs, g1, g2, g3, g4, ⟨⟨rfl, rfl⟩, g5⟩, g6⟩ := R.ent 0 _ e1
      have P : Pr W' ⟨M, W'.H, pa⟩ := Pr.less R.sub R.wpa
      exact hk W'.H vs fs s'.bud (fun a o h n => R.kp a o h n) R.paw g4 g5 (g6.mono P) q2
    | _ => exact q'.elim
/-! ### isinstance of an object or of plain data, of one own class; fields of whatever class -/
inductive TyI (K : PySem.W.Frag) (s : DS) : D → Value → Prop
  | obj {C : Addr} {fs : List (Str × D)} {nm : Str} (h : NmK K C nm) : TyI K s (.obj C fs) (.ref C)
  | base {d : D} {n : String} (h : tyD s d = some n) : TyI K s d (.type n)
def fIsO (K : PySem.W.Frag) : DCl := fun s ds Q => match ds with
  | [d, .raw (.ref C)] => ∃ t b, TyI K s d t ∧ PySem.W.kitOne K t (.ref C) = some b ∧ Q (.bl b)
  | _ => False
section
variable {X : Cx} {K : PySem.W.Frag} {e : Expr} {te : TE} {t : DE} {pos : Pos} {f : Str}
theorem b_isO (K : PySem.W.Frag) (hK : X.K = K) : CallR X (.builtin "isinstance") (rIsiA K) ∧ SndC X.K (rIsiA K) (fIsO K) := by
  subst hK
  refine ⟨call_isiA, fun c W σ s xs ds Qv Qd R r h k => ?_⟩
  unfold fIsO at h
  split at h
  · rename_i d C
    obtain ⟨t, b, ht, hk, q⟩ := h
    obtain ⟨v, w, rfl, rv, rw'⟩ := repsT_two r
    cases rw'
    refine .inl ⟨v, .ref C, t, .ref C, b, rfl, .own C, ?_, hk, k _ W _ R (Pr.refl _) (Rep.bl _).t q⟩
    cases ht with
    | obj N =>
      have rv' := rv.to rfl
      cases rv' with
      | obj g1 g2 g3 g4 => exact .base (.ins g1 N.c N.ha N.hn N.htk N.hm)
    | base hd => exact tyD_spec R rv hd
  · exact h.elim
def dFldG (K : PySem.W.Frag) (f : Str) (t : DE) : DE := fun s Q => t s fun d s1 => match fldsOf s1 d with
  | some (C', fs) => (Cls K C' ∧ NoAttr K C' f) ∧ match fs.lookup f with
    | some d => Q d s1
    | none => False
  | none => False
theorem d_fldG (K : PySem.W.Frag) (f : Str) (hK : X.K = K) (he : PD X e te t) (hb : attributeBase e f X.env (eval e X.env) = eval e X.env := by rfl) : PD X (.Attribute e f pos) (tFld K te f) (dFldG K f t) := by
  subst hK
  refine ⟨pe_fld he.pe hb, fun c0 W σ s Qv Qd R h kq => ?_⟩
  refine he.snd c0 W σ s _ _ R h fun v W1 d s1 R1 p1 r1 q1 => ?_
  have q2 : match fldsOf s1 d with
    | some (C', fs) => (Cls X.K C' ∧ NoAttr X.K C' f) ∧ match fs.lookup f with
      | some d => Qd d s1
      | none => False
    | none => False := q1
  cases e1 : fldsOf s1 d with
  | none => rw [e1] at q2; exact q2.elim
  | some cf =>
    obtain ⟨C', fs⟩ := cf
    rw [e1] at q2
    obtain ⟨⟨c, n⟩, q3⟩ := q2
    obtain ⟨a, dx, vs, rfl, g4, g5, g6⟩ := flds_spec R1 r1 e1
    cases e2 : fs.lookup f with
    | none => rw [e2] at q3; exact q3.elim
    | some y =>
      rw [e2] at q3
      obtain ⟨v, l1, rv⟩ := look_reps g5 g6 e2
      exact ⟨a, C', dx, vs, v, rfl, g4, c, n, l1, kq v W1 y s1 R1 p1 rv.t q3⟩
end
end DL

namespace DL
open PySem L2 DX
section
variable {s : DS} {ti : DI} {dg : DG} {dt : DT} {t u : DE} {vs : List Nat} {chk : DS → Prop} {QL : List D → DS → Prop} {r : DA} {Rd : Option Nat → (DS → Prop) → List D → DS → Prop} {d : DTS} {F : DEnds} {Q : D → DS → Prop} {Qd : D → Prop}
theorem k_lc (h : ti s fun k chk xs s1 => okSlot k vs ∧ lcL dg dt t vs chk xs [] (s1.wipe vs) fun acc s2 => QL acc (s2.wipe vs)) : dLc ti dg dt t vs s QL := h
theorem k_iseq (h : t s fun d s1 => match d with
  | .slot i => match ownL s1 i with
    | some xs => Rd (some i) (fun s' => ownL s' i = some xs) xs s1
    | none => False
  | .lst xs => Rd none (fun _ => True) xs s1
  | .tup xs => Rd none (fun _ => True) xs s1
  | .kon xs => Rd none (fun _ => True) xs s1
  | _ => False) : diSeq t s Rd := h
theorem k_rng1 (h : r s fun ds s1 => match ds with
  | [.int j] => -(2 ^ 62) ≤ j ∧ j < 2 ^ 62 ∧ Rd none (fun _ => True) (nums 0 j.toNat) s1
  | _ => False) : diRng1 r s Rd := h
theorem k_for (h : ti s fun k chk xs s1 => k = none ∧ forL dg d F chk xs s1) : dFor ti dg d F s := h
/-- a comprehension without a test, each item told by a function -/
theorem lcW_map {S0 : DS} {Q : List D → DS → Prop} {f : D → D} (hc : chk S0) : ∀ {xs acc : List D}, (∀ x, x ∈ xs → (f x).isSlot = false ∧ ∀ R : D → DS → Prop, (∀ s2, s2.wipe vs = S0 → R (f x) s2) → dg x S0 fun s1 => t s1 R) → acc.length + xs.length ≤ 1000 → Q (acc ++ xs.map f) S0 → lcL dg dYes t vs chk xs acc S0 Q
  | [], acc, _, _, q => ⟨hc, by rw [List.map_nil, List.append_nil] at q; exact q⟩
  | x :: xs, acc, h, hl, q => by
    obtain ⟨h1, h2⟩ := h x (List.mem_cons_self ..)
    have hl' : acc.length + (xs.length + 1) ≤ 1000 := hl
    refine ⟨hc, h2 (fun y s3 => y.isSlot = false ∧ acc.length < sizeLine ∧ lcL dg dYes t vs chk xs (acc ++ [y]) (s3.wipe vs) Q) fun s2 e => ⟨h1, by rw [sizeLine_eq]; omega, ?_⟩⟩
    rw [e]
    refine lcW_map hc (fun y hy => h y (List.mem_cons_of_mem _ hy)) ?_ ?_
    · rw [List.length_append, List.length_singleton]
      omega
    · rw [List.append_assoc]
      exact q
/-- a comprehension whose items are drawn: what holds of each, and how much it draws -/
theorem lcW_any {Q : List D → DS → Prop} {ok : D → Prop} {S0 : Nat → DS} {k : Nat} (hc : ∀ b, chk (S0 b)) : ∀ {xs acc : List D} {b : Nat}, (∀ x, x ∈ xs → ∀ b, k ≤ b → ∀ R : D → DS → Prop, (∀ y s2 b', ok y → y.isSlot = false → b - k ≤ b' → s2.wipe vs = S0 b' → R y s2) → dg x (S0 b) fun s1 => t s1 R) →
    k * xs.length ≤ b → acc.length + xs.length ≤ 1000 → (∀ y ∈ acc, ok y) → (∀ ys b', ys.length = acc.length + xs.length → (∀ y ∈ ys, ok y) → b - k * xs.length ≤ b' → Q ys (S0 b')) → lcL dg dYes t vs chk xs acc (S0 b) Q
  | [], acc, b, _, _, _, ha, q => ⟨hc b, q acc b (by simp) ha (by simp)⟩
  | x :: xs, acc, b, h, hb, hl, ha, q => by
    have hl' : acc.length + (xs.length + 1) ≤ 1000 := hl
    rw [List.length_cons, Nat.mul_succ] at hb
    refine ⟨hc b, h x (List.mem_cons_self ..) b (by omega) (fun y s3 => y.isSlot = false ∧ acc.length < sizeLine ∧ lcL dg dYes t vs chk xs (acc ++ [y]) (s3.wipe vs) Q) fun y s2 b' hy hs hb' e => ⟨hs, by rw [sizeLine_eq]; omega, ?_⟩⟩
    rw [e]
    refine lcW_any hc (fun z hz => h z (List.mem_cons_of_mem _ hz)) (by omega) ?_ ?_ ?_
    · rw [List.length_append, List.length_singleton]
      omega
    · intro z hz
      rcases List.mem_append.mp hz with hz | hz
      · exact ha z hz
      · rw [List.mem_singleton.mp hz]; exact hy
    · intro ys b'' e1 e2 e3
      refine q ys b'' ?_ e2 ?_
      · rw [e1, List.length_append, List.length_singleton, List.length_cons]; omega
      · rw [List.length_cons, Nat.mul_succ]; omega
end
/-- a reading of a call of a def, its arguments told -/
theorem k_callx {Ct : Ctr} {r : DA} {s : DS} {Q : D → DS → Prop} (h : r s fun ds s1 => dCall Ct (fun s R => R ds s) s1 Q) : dCall Ct r s Q := h
theorem k_fldG {K : PySem.W.Frag} {f : Str} {t : DE} {s : DS} {Q : D → DS → Prop} (h : t s fun d s1 => match fldsOf s1 d with
  | some (C', fs) => (Cls K C' ∧ NoAttr K C' f) ∧ match fs.lookup f with
    | some d => Q d s1
    | none => False
  | none => False) : dFldG K f t s Q := h
theorem k_nm {K : PySem.W.Frag} {t : DE} {s : DS} {Q : D → DS → Prop} (h : t s fun d s1 => match fldsOf s1 d with
  | some (C, _) => ∃ nm, NmK K C nm ∧ Q (.str nm) s1
  | none => False) : dNm K t s Q := h
theorem k_makeS {Ca : Addr} {C : CtrI} {r : DA} {s : DS} {Q : D → DS → Prop} (h : r s fun ds s1 => noSlots ds = true ∧ match ds with
  | d :: rest => rest.length ≤ 1000 ∧ C [d, .tup rest] s1.bud fun fs b => Q (.obj Ca fs) { s1 with bud := b }
  | [] => False) : dMakeS Ca C r s Q := h
end DL

namespace DL
open PySem L2
/-! ### slices -/
section
variable {X : Cx} {K : PySem.W.Frag} {c : C0} {e : Expr} {te : TE} {t : DE} {lo hi : Option Expr} {tl th : TO} {pos p2 : Pos}
abbrev DO := DS → (Option Int → DS → Prop) → Prop
structure PDO (X : Cx) (e : Option Expr) (to : TO) (t : DO) : Prop where
  po : PO X e to
  snd : ∀ (c : C0) (W : Wd) (σ : St) (s : DS) (Qv : Option Int → Hp → Prop) (Qd : Option Int → DS → Prop), Rel X.K c W σ s → t s Qd → (∀ o W' s', Rel X.K c W' σ s' → Pr W W' → Qd o s' → Qv o W'.H) → to σ W.H Qv
def dNoPart : DO := fun s Q => Q none s
def dPart (t : DE) : DO := fun s Q => t s fun d s1 => match d with
  | .int i => Q (some i) s1
  | _ => False
theorem do_none : PDO X none tNoPart dNoPart := ⟨po_none, fun c W σ s Qv Qd R h k => k none W s R (Pr.refl _) h⟩
theorem do_some (h : PD X e te t) : PDO X (some e) (tPart te) (dPart t) := by
  refine ⟨po_some h.pe, fun c W σ s Qv Qd R hq k => ?_⟩
  refine h.snd c W σ s _ _ R hq fun v W1 d s1 R1 p1 r1 q1 => ?_
  cases d with
  | int i =>
    cases r1
    exact ⟨i, rfl, k (some i) W1 s1 R1 p1 q1⟩
  | _ => exact q1.elim
def cutD (xs : List D) (lo hi : Option Int) : List D := (xs.drop (HT.sIx xs.length 0 lo)).take (HT.sIx xs.length xs.length hi - HT.sIx xs.length 0 lo)
theorem cut_reps {W : Wd} {vs : List V} {xs : List D} (r : Reps K W vs xs) (l h : Option Int) : Reps K W (cutV vs l h) (cutD xs l h) := by
  unfold cutV cutD
  rw [r.length]
  exact (r.drop _).take _
/-- xs[a:b] of a list: a new list -/
def dlSl (t : DE) (l h : DO) : DL_ := fun s Q => t s fun d s1 => l s1 fun a s2 => h s2 fun b s3 => match asL s3 d with
  | some xs => Q (cutD xs a b) s3
  | none => False
theorem dl_slice {dl dh : DO} (he : PD X e te t) (hl : PDO X lo tl dl) (hh : PDO X hi th dh) : PL X (.Subscript e (.Slice lo hi none p2) pos) (tSl (rSlL X.K) te tl th) (dlSl t dl dh) := by
  refine ⟨pe_slice sl_list he.pe hl.po hh.po, fun c W σ s Qv Qd R hq k => ?_⟩
  refine he.snd c W σ s _ _ R hq fun v W1 d s1 R1 p1 r1 q1 => ?_
  refine hl.snd c W1 σ s1 _ _ R1 q1 fun a W2 s2 R2 p2 q2 => ?_
  refine hh.snd c W2 σ s2 _ _ R2 q2 fun b W3 s3 R3 p3 q3 => ?_
  have r3 := (r1.mono p2).mono p3
  have q4 : match asL s3 d with
    | some xs => Qd (cutD xs a b) s3
    | none => False := q3
  cases e1 : asL s3 d with
  | none => rw [e1] at q4; exact q4.elim
  | some xs =>
    rw [e1] at q4
    obtain ⟨l, vs, rfl, hs, rr⟩ := asL_spec R3 r3 e1
    exact ⟨l, vs, rfl, SqL.of hs, newL R3 ((p1.trans p2).trans p3) (cut_reps rr a b) q4 k⟩
/-- xs[a:b] of a tuple -/
def dSlT (t : DE) (l h : DO) : DE := fun s Q => t s fun d s1 => l s1 fun a s2 => h s2 fun b s3 => match d with
  | .tup xs => Q (.tup (cutD xs a b)) s3
  | _ => False
theorem cut_whole {xs : List D} {a b : Option Int} (h1 : HT.sIx xs.length 0 a = 0) (h2 : HT.sIx xs.length xs.length b = xs.length) : cutD xs a b = xs := by
  unfold cutD
  rw [h1, h2, List.drop_zero, Nat.sub_zero, List.take_length]
theorem d_sliceT {dl dh : DO} (he : PD X e te t) (hl : PDO X lo tl dl) (hh : PDO X hi th dh) : PD X (.Subscript e (.Slice lo hi none p2) pos) (tSl (rSlA X.K) te tl th) (dSlT t dl dh) := by
  refine ⟨pe_slice sl_tupA he.pe hl.po hh.po, fun c W σ s Qv Qd R hq k => ?_⟩
  refine he.snd c W σ s _ _ R hq fun v W1 d s1 R1 p1 r1 q1 => ?_
  refine hl.snd c W1 σ s1 _ _ R1 q1 fun a W2 s2 R2 p2 q2 => ?_
  refine hh.snd c W2 σ s2 _ _ R2 q2 fun b W3 s3 R3 p3 q3 => ?_
  have r3 := (r1.mono p2).mono p3
  cases d with
  | tup xs =>
    have r4 : Rep X.K W3 v (.tup xs) := r3
    cases r4 with
    | tup ht rr =>
      rename_i l vs
      refine ⟨l, vs, rfl, TupV.sq (.inl ht), fun hw => ?_, fun hw p hp => ?_⟩
      · rw [rr.length] at hw
        have e := cut_whole hw.1 hw.2
        refine k (.ref l) W3 (.tup xs) s3 R3 ((p1.trans p2).trans p3) r3 ?_
        have q4 : Qd (.tup (cutD xs a b)) s3 := q3
        rw [e] at q4
        exact q4
      · exact k (.ref p) ⟨W3.M, upd W3.H p (.tup (cutV vs a b)), W3.pa⟩ (.tup (cutD xs a b)) s3 (R3.same (same_new hp)) (((p1.trans p2).trans p3).trans (Pr.new hp)) (Rep.tup upd_same ((cut_reps rr a b).mono (Pr.new hp))) q3
  | _ => exact q3.elim
end
end DL

namespace K01
open PySem L2 DL DX
def top (i : Nat) : Stmt := PySem.Challenge.pw_fourstones_k01_papers_keep_what_they_tel.main.body.getD i (.Pass ⟨0, 0, 0, 0⟩)
abbrev s_fixed : Stmt := top 1
abbrev s_is_same_paper : Stmt := top 2
abbrev s__law_paw : Stmt := top 6
abbrev s__law_tell : Stmt := top 7
abbrev s__law_pick : Stmt := top 8
abbrev s__law_value : Stmt := top 9
abbrev s__law_fixed : Stmt := top 10
abbrev s__law_made : Stmt := top 11
abbrev s_law : Stmt := top 12
def mth (c i : Nat) : Stmt := (C8.clsBody (top c)).getD i (.Pass ⟨0, 0, 0, 0⟩)
abbrev s_init : Stmt := mth 3 0
abbrev s_eqP : Stmt := mth 3 1
abbrev s_boP : Stmt := mth 3 2
abbrev s_eqD : Stmt := mth 4 0
abbrev s_boD : Stmt := mth 4 1
/-- what the top has left -/
structure Txt (K : PySem.W.Frag) (mg : Str → Option Value) (CP CD : Addr) : Prop where
  n_Paper : mg "Paper" = some (.ref CP)
  n_Denial : mg "Denial" = some (.ref CD)
  b_isinstance : mg "isinstance" = none
  b_tuple : mg "tuple" = none
  b_list : mg "list" = none
  b_len : mg "len" = none
  b_range : mg "range" = none
  b_repr : mg "repr" = none
  b_bool : mg "bool" = none
  NP : NmK K CP "Paper"
  ND : NmK K CD "Denial"
  aP : ∀ f, f ∈ (["word", "parts"] : List Str) → NoAttr K CP f
  aD : ∀ f, f ∈ (["word", "parts"] : List Str) → NoAttr K CD f
  kPP : PySem.W.kitOne K (.ref CP) (.ref CP) = some true
  kDP : PySem.W.kitOne K (.ref CD) (.ref CP) = some true
  kPD : PySem.W.kitOne K (.ref CP) (.ref CD) = some false
  kS : PySem.W.kitOne K (.type "str") (.ref CP) = some false
  kT : PySem.W.kitOne K (.type "tuple") (.ref CP) = some false
  fPP : PySem.W.notFirst K CP (.ref CP) = true
  fPT : PySem.W.notFirst K CP (.type "tuple") = true
  fPS : PySem.W.notFirst K CP (.type "str") = true
  fDD : PySem.W.notFirst K CD (.ref CD) = true
  fDP : PySem.W.notFirst K CD (.ref CP) = true
  sub : PySem.W.subIn K (.ref CD) (.ref CP) = some true
  ne : CD ≠ CP
/-! ### fixed -/
def CF (n : Nat) : Ctr := fun ds b Q => ∃ d m, ds = [d] ∧ n = m + 1 ∧ okW m d = true ∧ Q (fixD m d) b
theorem cf_len {n : Nat} : ∀ ds b Q, CF n ds b Q → ds.length = 1 := by
  rintro ds b Q ⟨d, m, rfl, _⟩
  rfl
section
variable {P : Program} {w : World} {K : PySem.W.Frag} {mg : Str → Option Value} {base : Heap} {CP CD : Addr}
theorem okW_no {n : Nat} {d : D} (h : okW n d = true) : noSlots [d] = true := noSlots_cons (okW_slot h) rfl
theorem all_slot {n : Nat} {xs : List D} (h : xs.all (okW n) = true) : ∀ x ∈ xs, x.isSlot = false := fun x hx => okW_slot (List.all_eq_true.mp h x hx)
/-- a list or a tuple, or neither -/
def seqD : D → Option (List D)
  | .tup xs => some xs
  | .lst xs => some xs
  | _ => none
theorem seq_ok {m : Nat} {d : D} {xs : List D} (h : okW m d = true) (e : seqD d = some xs) : ∃ k, m = k + 1 ∧ xs.length ≤ 6 ∧ xs.all (okW k) = true ∧ fixD m d = .tup (xs.map (fixD k)) := by
  cases d <;> first | (cases e; done) | skip
  · cases e
    cases m with
    | zero => cases h
    | succ k =>
      rw [okW, Bool.and_eq_true, decide_eq_true_eq] at h
      exact ⟨k, rfl, h.1, h.2, by rw [fixD]⟩
  · cases e
    cases m with
    | zero => cases h
    | succ k =>
      rw [okW, Bool.and_eq_true, decide_eq_true_eq] at h
      exact ⟨k, rfl, h.1, h.2, by rw [fixD]⟩
theorem seq_no {m : Nat} {d : D} (h : okW m d = true) (e : seqD d = none) : fixD m d = d := by
  cases d <;> first | (cases e; done) | (cases m <;> rfl)
/-- isinstance(value, (list, tuple)) -/
theorem isi_seq {m : Nat} {d : D} {s : DS} {Q : D → Prop} (h : okW m d = true) (q : Q (.bl (seqD d).isSome)) : fIsi s [d, .tup [.raw (.ty "list"), .raw (.ty "tuple")]] Q := by
  have rt : rawTys [.raw (.ty "list"), .raw (.ty "tuple")] = some ["list", "tuple"] := rfl
  cases d with
  | non => exact isi_tup rt (t := "NoneType") rfl (b := false) (by decide +kernel) q
  | bl b => exact isi_tup rt (t := "bool") rfl (b := false) (by decide +kernel) q
  | int i => exact isi_tup rt (t := "int") rfl (b := false) (by decide +kernel) q
  | str x => exact isi_tup rt (t := "str") rfl (b := false) (by decide +kernel) q
  | tup xs => exact isi_tup rt (t := "tuple") rfl (b := true) (by decide +kernel) q
  | lst xs => exact isi_tup rt (t := "list") rfl (b := true) (by decide +kernel) q
  | dK kvs => exact isi_tup rt (t := "dict") rfl (b := false) (by decide +kernel) q
  | _ => cases m <;> (try cases h) <;> rename_i k <;> cases k <;> cases h
abbrev N_fixed : List Str := ["value", "item"]
theorem sc_fixed : FnScope N_fixed ["value"] (defScope s_fixed) := ⟨rfl, rfl, rfl, by decide +kernel, rfl, by decide +kernel, by decide +kernel⟩
theorem ok_fixed (Df : Dfn K mg "fixed" s_fixed ["value"]) (T : Txt K mg CP CD) : ∀ n, FnF P w K mg base n "fixed" s_fixed ["value"] (CF n) := by
  intro n
  induction n with
  | zero =>
    refine fnF_ok Df fun f fd F => ⟨okC_len cf_len, fun A outer s H args us vs Q E hr e0 hb r h => ?_⟩
    obtain ⟨_, _, _, _, _, _, _, _, _, _, _, ⟨d, m, _, e, _⟩, _⟩ := h
    cases e
  | succ n G_fixed =>
    refine fnFC Df sc_fixed cf_len fun f cdv A outer s H E hr => ?_
    have nd := sc_fixed.nd
    refine ⟨_, _, (dss_cons (ds_if (dt_val (d_callB b_isi (by rfl) T.b_isinstance (by decide +kernel) (da_cons (dv 0) (da_cons (d_tup (da_cons (d_bltn (v := .ty "list") (by rfl) T.b_list (by decide +kernel) rfl) (da_cons (d_bltn (v := .ty "tuple") (by rfl) T.b_tuple (by decide +kernel) rfl) da_nil))) da_nil)))) (dss_one (ds_ret (d_callTy b_tuple (by rfl) T.b_tuple (by decide +kernel) (da_cons (d_ofL (dl_lc (own := [("item", 1)]) rfl nd (di_seq (dv 0)) (blkOk_by (N := N_fixed) (sc := defScope s_fixed) (by decide +kernel)) (gk_name (by decide)) (fun _ _ _ _ _ => (dg_name (i := 1) nd rfl (by first | exact .inl rfl | exact .inr rfl))) (fun _ _ _ _ _ => by exact dts_nil) (fun _ _ _ _ _ => by exact (d_callF G_fixed hr (da_cons (dv 1) da_nil))))) da_nil)))) dss_nil)
      (dss_one (ds_ret (dv 0)))), ?_⟩
    rintro _ b Qd ⟨d, m, rfl, e, hd, q⟩
    cases e
    repeat (first | with_reducible refine DL.r_seq ?_ | with_reducible refine DL.r_next ?_ | with_reducible refine DL.r_ret ?_ | with_reducible refine DL.r_ifS ?_ | with_reducible refine DL.r_asg ?_ | with_reducible refine DL.r_drop ?_ | with_reducible refine DL.r_c ?_ | with_reducible refine DL.r_nil ?_ | with_reducible refine DL.r_cons ?_ | with_reducible refine DL.r_op ?_ | with_reducible refine DL.r_cb ?_ | with_reducible refine DL.r_ofL ?_ | with_reducible refine DL.r_lst ?_ | with_reducible refine DL.r_tup ?_ | with_reducible refine DL.r_b ?_ | with_reducible refine DL.r_not ?_ | with_reducible refine DL.r_and ?_ | with_reducible refine DL.r_or ?_ | with_reducible refine DL.r_andV ?_ | with_reducible refine DL.r_orV ?_ | with_reducible refine DL.r_notV ?_ | with_reducible refine DL.r_neg ?_ | with_reducible refine DL.r_par ?_ | with_reducible refine DL.r_par3 ?_ | with_reducible refine DL.r_gname ?_ | with_reducible refine DL.r_callO ?_ | (with_reducible apply DL.r_var; focus exact rfl) | with_reducible refine DL.r_if1 ?_ | with_reducible refine DL.r_if0 ?_)
    refine ⟨by decide, rfl, ?_⟩
    repeat (first | with_reducible refine DL.r_seq ?_ | with_reducible refine DL.r_next ?_ | with_reducible refine DL.r_ret ?_ | with_reducible refine DL.r_ifS ?_ | with_reducible refine DL.r_asg ?_ | with_reducible refine DL.r_drop ?_ | with_reducible refine DL.r_c ?_ | with_reducible refine DL.r_nil ?_ | with_reducible refine DL.r_cons ?_ | with_reducible refine DL.r_op ?_ | with_reducible refine DL.r_cb ?_ | with_reducible refine DL.r_ofL ?_ | with_reducible refine DL.r_lst ?_ | with_reducible refine DL.r_tup ?_ | with_reducible refine DL.r_b ?_ | with_reducible refine DL.r_not ?_ | with_reducible refine DL.r_and ?_ | with_reducible refine DL.r_or ?_ | with_reducible refine DL.r_andV ?_ | with_reducible refine DL.r_orV ?_ | with_reducible refine DL.r_notV ?_ | with_reducible refine DL.r_neg ?_ | with_reducible refine DL.r_par ?_ | with_reducible refine DL.r_par3 ?_ | with_reducible refine DL.r_gname ?_ | with_reducible refine DL.r_callO ?_ | (with_reducible apply DL.r_var; focus exact rfl) | with_reducible refine DL.r_if1 ?_ | with_reducible refine DL.r_if0 ?_)
    refine isi_seq hd ?_
    cases hs : seqD d with
    | none =>
      repeat (first | with_reducible refine DL.r_seq ?_ | with_reducible refine DL.r_next ?_ | with_reducible refine DL.r_ret ?_ | with_reducible refine DL.r_ifS ?_ | with_reducible refine DL.r_asg ?_ | with_reducible refine DL.r_drop ?_ | with_reducible refine DL.r_c ?_ | with_reducible refine DL.r_nil ?_ | with_reducible refine DL.r_cons ?_ | with_reducible refine DL.r_op ?_ | with_reducible refine DL.r_cb ?_ | with_reducible refine DL.r_ofL ?_ | with_reducible refine DL.r_lst ?_ | with_reducible refine DL.r_tup ?_ | with_reducible refine DL.r_b ?_ | with_reducible refine DL.r_not ?_ | with_reducible refine DL.r_and ?_ | with_reducible refine DL.r_or ?_ | with_reducible refine DL.r_andV ?_ | with_reducible refine DL.r_orV ?_ | with_reducible refine DL.r_notV ?_ | with_reducible refine DL.r_neg ?_ | with_reducible refine DL.r_par ?_ | with_reducible refine DL.r_par3 ?_ | with_reducible refine DL.r_gname ?_ | with_reducible refine DL.r_callO ?_ | (with_reducible apply DL.r_var; focus exact rfl) | with_reducible refine DL.r_if1 ?_ | with_reducible refine DL.r_if0 ?_)
      rw [seq_no hd hs] at q
      exact rtD_of (okW_slot hd) q
    | some xs =>
      obtain ⟨k, rfl, hl, ha, hf⟩ := seq_ok hd hs
      rw [hf] at q
      repeat (first | with_reducible refine DL.r_seq ?_ | with_reducible refine DL.r_next ?_ | with_reducible refine DL.r_ret ?_ | with_reducible refine DL.r_ifS ?_ | with_reducible refine DL.r_asg ?_ | with_reducible refine DL.r_drop ?_ | with_reducible refine DL.r_c ?_ | with_reducible refine DL.r_nil ?_ | with_reducible refine DL.r_cons ?_ | with_reducible refine DL.r_op ?_ | with_reducible refine DL.r_cb ?_ | with_reducible refine DL.r_ofL ?_ | with_reducible refine DL.r_lst ?_ | with_reducible refine DL.r_tup ?_ | with_reducible refine DL.r_b ?_ | with_reducible refine DL.r_not ?_ | with_reducible refine DL.r_and ?_ | with_reducible refine DL.r_or ?_ | with_reducible refine DL.r_andV ?_ | with_reducible refine DL.r_orV ?_ | with_reducible refine DL.r_notV ?_ | with_reducible refine DL.r_neg ?_ | with_reducible refine DL.r_par ?_ | with_reducible refine DL.r_par3 ?_ | with_reducible refine DL.r_gname ?_ | with_reducible refine DL.r_callO ?_ | (with_reducible apply DL.r_var; focus exact rfl) | with_reducible refine DL.r_if1 ?_ | with_reducible refine DL.r_if0 ?_)
      refine k_lc (k_iseq ?_)
      refine r_var rfl ?_
      cases d <;> first | (cases hs; done) | skip
      all_goals
        cases hs
        refine ⟨trivial, lcW_map (f := fixD k) trivial (fun x hx => ⟨okW_slot (fix_ok k x (List.all_eq_true.mp ha x hx)), fun R hR => ?_⟩) (by show 0 + _ ≤ 1000; omega) ?_⟩
        · have hx' := List.all_eq_true.mp ha x hx
          repeat (first | with_reducible refine DL.r_seq ?_ | with_reducible refine DL.r_next ?_ | with_reducible refine DL.r_ret ?_ | with_reducible refine DL.r_ifS ?_ | with_reducible refine DL.r_asg ?_ | with_reducible refine DL.r_drop ?_ | with_reducible refine DL.r_c ?_ | with_reducible refine DL.r_nil ?_ | with_reducible refine DL.r_cons ?_ | with_reducible refine DL.r_op ?_ | with_reducible refine DL.r_cb ?_ | with_reducible refine DL.r_ofL ?_ | with_reducible refine DL.r_lst ?_ | with_reducible refine DL.r_tup ?_ | with_reducible refine DL.r_b ?_ | with_reducible refine DL.r_not ?_ | with_reducible refine DL.r_and ?_ | with_reducible refine DL.r_or ?_ | with_reducible refine DL.r_andV ?_ | with_reducible refine DL.r_orV ?_ | with_reducible refine DL.r_notV ?_ | with_reducible refine DL.r_neg ?_ | with_reducible refine DL.r_par ?_ | with_reducible refine DL.r_par3 ?_ | with_reducible refine DL.r_gname ?_ | with_reducible refine DL.r_callO ?_ | (with_reducible apply DL.r_var; focus exact rfl) | with_reducible refine DL.r_if1 ?_ | with_reducible refine DL.r_if0 ?_)
          refine r_call (ds := [x]) (fun _ h => h) (okW_no hx') ⟨x, k, rfl, rfl, hx', ?_⟩
          exact hR _ rfl
        · repeat (first | with_reducible refine DL.r_seq ?_ | with_reducible refine DL.r_next ?_ | with_reducible refine DL.r_ret ?_ | with_reducible refine DL.r_ifS ?_ | with_reducible refine DL.r_asg ?_ | with_reducible refine DL.r_drop ?_ | with_reducible refine DL.r_c ?_ | with_reducible refine DL.r_nil ?_ | with_reducible refine DL.r_cons ?_ | with_reducible refine DL.r_op ?_ | with_reducible refine DL.r_cb ?_ | with_reducible refine DL.r_ofL ?_ | with_reducible refine DL.r_lst ?_ | with_reducible refine DL.r_tup ?_ | with_reducible refine DL.r_b ?_ | with_reducible refine DL.r_not ?_ | with_reducible refine DL.r_and ?_ | with_reducible refine DL.r_or ?_ | with_reducible refine DL.r_andV ?_ | with_reducible refine DL.r_orV ?_ | with_reducible refine DL.r_notV ?_ | with_reducible refine DL.r_neg ?_ | with_reducible refine DL.r_par ?_ | with_reducible refine DL.r_par3 ?_ | with_reducible refine DL.r_gname ?_ | with_reducible refine DL.r_callO ?_ | (with_reducible apply DL.r_var; focus exact rfl) | with_reducible refine DL.r_if1 ?_ | with_reducible refine DL.r_if0 ?_)
          exact q
end
end K01

namespace K01
open PySem L2 DL DX
/-- a paper -/
abbrev pap (C : Addr) (w : Str) (ps : List D) : D := .obj C [("word", .str w), ("parts", .tup ps)]
/-- whether two papers are the same -/
def CSame (CP CD : Addr) : Ctr := fun ds b Q => ∃ C w ps e, ds = [pap C w ps, e] ∧ (C = CP ∨ C = CD) ∧ okW 6 (.tup ps) = true ∧
  ((∃ x, e = .str x ∧ Q (.bl false) b) ∨ (∃ xs, e = .tup xs ∧ Q (.bl false) b) ∨ ∃ C' w' ps', e = pap C' w' ps' ∧ (C' = CP ∨ C' = CD) ∧ okW 6 (.tup ps') = true ∧ (C ≠ C' → Q (.bl false) b) ∧ (C = C' → w ≠ w' → Q (.bl false) b) ∧
    (C = C' → w = w' → ∀ r, (ps = ps' → r = true) → (ps.length ≠ ps'.length → r = false) → Q (.bl r) b))
theorem csame_len {CP CD : Addr} : ∀ ds b Q, CSame CP CD ds b Q → ds.length = 2 := by
  rintro ds b Q ⟨C, w, ps, e, rfl, _⟩
  rfl
def CTrue (v : Bool) (C : Addr) : Ctr := fun ds b Q => ∃ w ps, ds = [pap C w ps] ∧ Q (.bl v) b
def CInit : CtrI := fun ds b Q => ∃ w ps, ds = [.str w, .tup ps] ∧ okW 6 (.tup ps) = true ∧ Q [("word", .str w), ("parts", fixD 6 (.tup ps))] b
theorem cinit_len : ∀ ds b Q, CInit ds b Q → ds.length = 2 := by
  rintro ds b Q ⟨w, ps, rfl, _⟩
  rfl
def CMade (CP CD : Addr) : Ctr := fun ds b Q => ∃ w ps den, ds = [.str w, .tup ps, .bl den] ∧ ps.length ≤ 3 ∧ okW 6 (.tup ps) = true ∧ Q (pap (if den = true then CD else CP) w (ps.map (fixD 5))) b
section
variable {P : Program} {w : World} {K : PySem.W.Frag} {mg : Str → Option Value} {base : Heap} {CP CD : Addr}
abbrev N__law_fixed : List Str := ["value", "part"]
theorem sc__law_fixed : FnScope N__law_fixed ["value"] (defScope s__law_fixed) := ⟨rfl, rfl, rfl, by decide +kernel, rfl, by decide +kernel, by decide +kernel⟩
theorem ok__law_fixed (Df : Dfn K mg "_law_fixed" s__law_fixed ["value"]) (T : Txt K mg CP CD) : ∀ n, FnF P w K mg base n "_law_fixed" s__law_fixed ["value"] (CF n) := by
  intro n
  induction n with
  | zero =>
    refine fnF_ok Df fun f fd F => ⟨okC_len cf_len, fun A outer s H args us vs Q E hr e0 hb r h => ?_⟩
    obtain ⟨_, _, _, _, _, _, _, _, _, _, _, ⟨d, m, _, e, _⟩, _⟩ := h
    cases e
  | succ n G__law_fixed =>
    refine fnFC Df sc__law_fixed cf_len fun f cdv A outer s H E hr => ?_
    have nd := sc__law_fixed.nd
    refine ⟨_, _, (dss_one (ds_ret (d_if (dt_val (d_callB b_isi (by rfl) T.b_isinstance (by decide +kernel) (da_cons (dv 0) (da_cons (d_tup (da_cons (d_bltn (v := .ty "list") (by rfl) T.b_list (by decide +kernel) rfl) (da_cons (d_bltn (v := .ty "tuple") (by rfl) T.b_tuple (by decide +kernel) rfl) da_nil))) da_nil)))) (d_callTy b_tuple (by rfl) T.b_tuple (by decide +kernel) (da_cons (d_ofL (dl_lc (own := [("part", 1)]) rfl nd (di_seq (dv 0)) (blkOk_by (N := N__law_fixed) (sc := defScope s__law_fixed) (by decide +kernel)) (gk_name (by decide)) (fun _ _ _ _ _ => (dg_name (i := 1) nd rfl (by first | exact .inl rfl | exact .inr rfl))) (fun _ _ _ _ _ => by exact dts_nil) (fun _ _ _ _ _ => by exact (d_callF G__law_fixed hr (da_cons (dv 1) da_nil))))) da_nil)) (dv 0)))), ?_⟩
    rintro _ b Qd ⟨d, m, rfl, e, hd, q⟩
    cases e
    repeat (first | with_reducible refine DL.r_seq ?_ | with_reducible refine DL.r_next ?_ | with_reducible refine DL.r_ret ?_ | with_reducible refine DL.r_ifS ?_ | with_reducible refine DL.r_asg ?_ | with_reducible refine DL.r_drop ?_ | with_reducible refine DL.r_c ?_ | with_reducible refine DL.r_nil ?_ | with_reducible refine DL.r_cons ?_ | with_reducible refine DL.r_op ?_ | with_reducible refine DL.r_cb ?_ | with_reducible refine DL.r_ofL ?_ | with_reducible refine DL.r_lst ?_ | with_reducible refine DL.r_tup ?_ | with_reducible refine DL.r_b ?_ | with_reducible refine DL.r_not ?_ | with_reducible refine DL.r_and ?_ | with_reducible refine DL.r_or ?_ | with_reducible refine DL.r_andV ?_ | with_reducible refine DL.r_orV ?_ | with_reducible refine DL.r_notV ?_ | with_reducible refine DL.r_neg ?_ | with_reducible refine DL.r_par ?_ | with_reducible refine DL.r_par3 ?_ | with_reducible refine DL.r_gname ?_ | with_reducible refine DL.r_callO ?_ | (with_reducible apply DL.r_var; focus exact rfl) | with_reducible refine DL.r_if1 ?_ | with_reducible refine DL.r_if0 ?_)
    unfold dIf
    repeat (first | with_reducible refine DL.r_seq ?_ | with_reducible refine DL.r_next ?_ | with_reducible refine DL.r_ret ?_ | with_reducible refine DL.r_ifS ?_ | with_reducible refine DL.r_asg ?_ | with_reducible refine DL.r_drop ?_ | with_reducible refine DL.r_c ?_ | with_reducible refine DL.r_nil ?_ | with_reducible refine DL.r_cons ?_ | with_reducible refine DL.r_op ?_ | with_reducible refine DL.r_cb ?_ | with_reducible refine DL.r_ofL ?_ | with_reducible refine DL.r_lst ?_ | with_reducible refine DL.r_tup ?_ | with_reducible refine DL.r_b ?_ | with_reducible refine DL.r_not ?_ | with_reducible refine DL.r_and ?_ | with_reducible refine DL.r_or ?_ | with_reducible refine DL.r_andV ?_ | with_reducible refine DL.r_orV ?_ | with_reducible refine DL.r_notV ?_ | with_reducible refine DL.r_neg ?_ | with_reducible refine DL.r_par ?_ | with_reducible refine DL.r_par3 ?_ | with_reducible refine DL.r_gname ?_ | with_reducible refine DL.r_callO ?_ | (with_reducible apply DL.r_var; focus exact rfl) | with_reducible refine DL.r_if1 ?_ | with_reducible refine DL.r_if0 ?_)
    refine ⟨by decide, rfl, ?_⟩
    repeat (first | with_reducible refine DL.r_seq ?_ | with_reducible refine DL.r_next ?_ | with_reducible refine DL.r_ret ?_ | with_reducible refine DL.r_ifS ?_ | with_reducible refine DL.r_asg ?_ | with_reducible refine DL.r_drop ?_ | with_reducible refine DL.r_c ?_ | with_reducible refine DL.r_nil ?_ | with_reducible refine DL.r_cons ?_ | with_reducible refine DL.r_op ?_ | with_reducible refine DL.r_cb ?_ | with_reducible refine DL.r_ofL ?_ | with_reducible refine DL.r_lst ?_ | with_reducible refine DL.r_tup ?_ | with_reducible refine DL.r_b ?_ | with_reducible refine DL.r_not ?_ | with_reducible refine DL.r_and ?_ | with_reducible refine DL.r_or ?_ | with_reducible refine DL.r_andV ?_ | with_reducible refine DL.r_orV ?_ | with_reducible refine DL.r_notV ?_ | with_reducible refine DL.r_neg ?_ | with_reducible refine DL.r_par ?_ | with_reducible refine DL.r_par3 ?_ | with_reducible refine DL.r_gname ?_ | with_reducible refine DL.r_callO ?_ | (with_reducible apply DL.r_var; focus exact rfl) | with_reducible refine DL.r_if1 ?_ | with_reducible refine DL.r_if0 ?_)
    refine isi_seq hd ?_
    cases hs : seqD d with
    | none =>
      repeat (first | with_reducible refine DL.r_seq ?_ | with_reducible refine DL.r_next ?_ | with_reducible refine DL.r_ret ?_ | with_reducible refine DL.r_ifS ?_ | with_reducible refine DL.r_asg ?_ | with_reducible refine DL.r_drop ?_ | with_reducible refine DL.r_c ?_ | with_reducible refine DL.r_nil ?_ | with_reducible refine DL.r_cons ?_ | with_reducible refine DL.r_op ?_ | with_reducible refine DL.r_cb ?_ | with_reducible refine DL.r_ofL ?_ | with_reducible refine DL.r_lst ?_ | with_reducible refine DL.r_tup ?_ | with_reducible refine DL.r_b ?_ | with_reducible refine DL.r_not ?_ | with_reducible refine DL.r_and ?_ | with_reducible refine DL.r_or ?_ | with_reducible refine DL.r_andV ?_ | with_reducible refine DL.r_orV ?_ | with_reducible refine DL.r_notV ?_ | with_reducible refine DL.r_neg ?_ | with_reducible refine DL.r_par ?_ | with_reducible refine DL.r_par3 ?_ | with_reducible refine DL.r_gname ?_ | with_reducible refine DL.r_callO ?_ | (with_reducible apply DL.r_var; focus exact rfl) | with_reducible refine DL.r_if1 ?_ | with_reducible refine DL.r_if0 ?_)
      rw [seq_no hd hs] at q
      exact rtD_of (okW_slot hd) q
    | some xs =>
      obtain ⟨k, rfl, hl, ha, hf⟩ := seq_ok hd hs
      rw [hf] at q
      repeat (first | with_reducible refine DL.r_seq ?_ | with_reducible refine DL.r_next ?_ | with_reducible refine DL.r_ret ?_ | with_reducible refine DL.r_ifS ?_ | with_reducible refine DL.r_asg ?_ | with_reducible refine DL.r_drop ?_ | with_reducible refine DL.r_c ?_ | with_reducible refine DL.r_nil ?_ | with_reducible refine DL.r_cons ?_ | with_reducible refine DL.r_op ?_ | with_reducible refine DL.r_cb ?_ | with_reducible refine DL.r_ofL ?_ | with_reducible refine DL.r_lst ?_ | with_reducible refine DL.r_tup ?_ | with_reducible refine DL.r_b ?_ | with_reducible refine DL.r_not ?_ | with_reducible refine DL.r_and ?_ | with_reducible refine DL.r_or ?_ | with_reducible refine DL.r_andV ?_ | with_reducible refine DL.r_orV ?_ | with_reducible refine DL.r_notV ?_ | with_reducible refine DL.r_neg ?_ | with_reducible refine DL.r_par ?_ | with_reducible refine DL.r_par3 ?_ | with_reducible refine DL.r_gname ?_ | with_reducible refine DL.r_callO ?_ | (with_reducible apply DL.r_var; focus exact rfl) | with_reducible refine DL.r_if1 ?_ | with_reducible refine DL.r_if0 ?_)
      refine k_lc (k_iseq ?_)
      refine r_var rfl ?_
      cases d <;> first | (cases hs; done) | skip
      all_goals
        cases hs
        refine ⟨trivial, lcW_map (f := fixD k) trivial (fun x hx => ⟨okW_slot (fix_ok k x (List.all_eq_true.mp ha x hx)), fun R hR => ?_⟩) (by show 0 + _ ≤ 1000; omega) ?_⟩
        · have hx' := List.all_eq_true.mp ha x hx
          repeat (first | with_reducible refine DL.r_seq ?_ | with_reducible refine DL.r_next ?_ | with_reducible refine DL.r_ret ?_ | with_reducible refine DL.r_ifS ?_ | with_reducible refine DL.r_asg ?_ | with_reducible refine DL.r_drop ?_ | with_reducible refine DL.r_c ?_ | with_reducible refine DL.r_nil ?_ | with_reducible refine DL.r_cons ?_ | with_reducible refine DL.r_op ?_ | with_reducible refine DL.r_cb ?_ | with_reducible refine DL.r_ofL ?_ | with_reducible refine DL.r_lst ?_ | with_reducible refine DL.r_tup ?_ | with_reducible refine DL.r_b ?_ | with_reducible refine DL.r_not ?_ | with_reducible refine DL.r_and ?_ | with_reducible refine DL.r_or ?_ | with_reducible refine DL.r_andV ?_ | with_reducible refine DL.r_orV ?_ | with_reducible refine DL.r_notV ?_ | with_reducible refine DL.r_neg ?_ | with_reducible refine DL.r_par ?_ | with_reducible refine DL.r_par3 ?_ | with_reducible refine DL.r_gname ?_ | with_reducible refine DL.r_callO ?_ | (with_reducible apply DL.r_var; focus exact rfl) | with_reducible refine DL.r_if1 ?_ | with_reducible refine DL.r_if0 ?_)
          refine r_call (ds := [x]) (fun _ h => h) (okW_no hx') ⟨x, k, rfl, rfl, hx', ?_⟩
          exact hR _ rfl
        · repeat (first | with_reducible refine DL.r_seq ?_ | with_reducible refine DL.r_next ?_ | with_reducible refine DL.r_ret ?_ | with_reducible refine DL.r_ifS ?_ | with_reducible refine DL.r_asg ?_ | with_reducible refine DL.r_drop ?_ | with_reducible refine DL.r_c ?_ | with_reducible refine DL.r_nil ?_ | with_reducible refine DL.r_cons ?_ | with_reducible refine DL.r_op ?_ | with_reducible refine DL.r_cb ?_ | with_reducible refine DL.r_ofL ?_ | with_reducible refine DL.r_lst ?_ | with_reducible refine DL.r_tup ?_ | with_reducible refine DL.r_b ?_ | with_reducible refine DL.r_not ?_ | with_reducible refine DL.r_and ?_ | with_reducible refine DL.r_or ?_ | with_reducible refine DL.r_andV ?_ | with_reducible refine DL.r_orV ?_ | with_reducible refine DL.r_notV ?_ | with_reducible refine DL.r_neg ?_ | with_reducible refine DL.r_par ?_ | with_reducible refine DL.r_par3 ?_ | with_reducible refine DL.r_gname ?_ | with_reducible refine DL.r_callO ?_ | (with_reducible apply DL.r_var; focus exact rfl) | with_reducible refine DL.r_if1 ?_ | with_reducible refine DL.r_if0 ?_)
          exact q
/-! ### is_same_paper -/
theorem sc_is_same_paper : FnScope ["paper", "value"] ["paper", "value"] (defScope s_is_same_paper) := ⟨rfl, rfl, rfl, by decide +kernel, rfl, by decide +kernel, by decide +kernel⟩
theorem nm_of (T : Txt K mg CP CD) {C : Addr} (h : C = CP ∨ C = CD) : ∃ nm, NmK K C nm ∧ (nm = "Paper" ↔ C = CP) ∧ (nm = "Paper" ∨ nm = "Denial") := by
  rcases h with rfl | rfl
  · exact ⟨"Paper", T.NP, by simp, .inl rfl⟩
  · exact ⟨"Denial", T.ND, ⟨fun e => absurd e (by decide), fun e => absurd e T.ne⟩, .inr rfl⟩
theorem fld_of (T : Txt K mg CP CD) {C : Addr} (h : C = CP ∨ C = CD) : Cls K C ∧ ∀ f, f ∈ (["word", "parts"] : List Str) → NoAttr K C f := by
  rcases h with rfl | rfl
  · exact ⟨T.NP.c, T.aP⟩
  · exact ⟨T.ND.c, T.aD⟩
theorem isP_of (T : Txt K mg CP CD) {C : Addr} (h : C = CP ∨ C = CD) : PySem.W.kitOne K (.ref C) (.ref CP) = some true := by
  rcases h with rfl | rfl
  · exact T.kPP
  · exact T.kDP
theorem ok_same (Df : Dfn K mg "is_same_paper" s_is_same_paper ["paper", "value"]) (T : Txt K mg CP CD) : FnF P w K mg base 1 "is_same_paper" s_is_same_paper ["paper", "value"] (CSame CP CD) := by
  refine fnFC Df sc_is_same_paper csame_len fun f cdv A outer s H E hr => ?_
  have nd := sc_is_same_paper.nd
  have hu := hu_of hr
  have hu64 : (A.deeper (PyProof.Rows.envOfC "is_same_paper" (defScope s_is_same_paper) s.heap.objs.size f cdv)).units + 64 < cLine := by have := hr.un; omega
  refine ⟨_, _, (dss_cons (ds_if (dt_not (dt_val (d_callB (b_isO K rfl) (by rfl) T.b_isinstance (by decide +kernel) (da_cons (dv 1) (da_cons (d_glob (v := .ref CP) (d := .raw (.ref CP)) (by rfl) T.n_Paper rfl (fun _ => .raw _)) da_nil))))) (dss_one (ds_ret d_bl)) dss_nil)
      (dss_cons (ds_if (dt_cmp o_nS (d_nm K rfl (dv 0)) (d_nm K rfl (dv 1))) (dss_one (ds_ret d_bl)) dss_nil)
      (dss_one (ds_ret (d_and (d_cmp o_eS (d_fldG K "word" rfl (dv 0)) (d_fldG K "word" rfl (dv 1))) (d_one (d_cmp (o_eqK K hu64 rfl) (d_fldG K "parts" rfl (dv 0)) (d_fldG K "parts" rfl (dv 1))))))))), ?_⟩
  rintro _ b Qd ⟨C, wd, ps, e, rfl, hC, hps, h⟩
  obtain ⟨nm, hN, hnP, hn2⟩ := nm_of T hC
  obtain ⟨cC, aC⟩ := fld_of T hC
  rcases h with ⟨x, rfl, q⟩ | ⟨xs, rfl, q⟩ | ⟨C', wd', ps', rfl, hC', hps', q1, q2, q3⟩
  · repeat (first | with_reducible refine DL.r_seq ?_ | with_reducible refine DL.r_next ?_ | with_reducible refine DL.r_ret ?_ | with_reducible refine DL.r_ifS ?_ | with_reducible refine DL.r_asg ?_ | with_reducible refine DL.r_drop ?_ | with_reducible refine DL.r_c ?_ | with_reducible refine DL.r_nil ?_ | with_reducible refine DL.r_cons ?_ | with_reducible refine DL.r_op ?_ | with_reducible refine DL.r_cb ?_ | with_reducible refine DL.r_ofL ?_ | with_reducible refine DL.r_lst ?_ | with_reducible refine DL.r_tup ?_ | with_reducible refine DL.r_b ?_ | with_reducible refine DL.r_not ?_ | with_reducible refine DL.r_and ?_ | with_reducible refine DL.r_or ?_ | with_reducible refine DL.r_andV ?_ | with_reducible refine DL.r_orV ?_ | with_reducible refine DL.r_notV ?_ | with_reducible refine DL.r_neg ?_ | with_reducible refine DL.r_par ?_ | with_reducible refine DL.r_par3 ?_ | with_reducible refine DL.r_gname ?_ | with_reducible refine DL.r_callO ?_ | (with_reducible apply DL.r_var; focus exact rfl) | with_reducible refine DL.r_if1 ?_ | with_reducible refine DL.r_if0 ?_)
    refine ⟨_, _, .base rfl, T.kS, ?_⟩
    repeat (first | with_reducible refine DL.r_seq ?_ | with_reducible refine DL.r_next ?_ | with_reducible refine DL.r_ret ?_ | with_reducible refine DL.r_ifS ?_ | with_reducible refine DL.r_asg ?_ | with_reducible refine DL.r_drop ?_ | with_reducible refine DL.r_c ?_ | with_reducible refine DL.r_nil ?_ | with_reducible refine DL.r_cons ?_ | with_reducible refine DL.r_op ?_ | with_reducible refine DL.r_cb ?_ | with_reducible refine DL.r_ofL ?_ | with_reducible refine DL.r_lst ?_ | with_reducible refine DL.r_tup ?_ | with_reducible refine DL.r_b ?_ | with_reducible refine DL.r_not ?_ | with_reducible refine DL.r_and ?_ | with_reducible refine DL.r_or ?_ | with_reducible refine DL.r_andV ?_ | with_reducible refine DL.r_orV ?_ | with_reducible refine DL.r_notV ?_ | with_reducible refine DL.r_neg ?_ | with_reducible refine DL.r_par ?_ | with_reducible refine DL.r_par3 ?_ | with_reducible refine DL.r_gname ?_ | with_reducible refine DL.r_callO ?_ | (with_reducible apply DL.r_var; focus exact rfl) | with_reducible refine DL.r_if1 ?_ | with_reducible refine DL.r_if0 ?_)
    exact q
  · repeat (first | with_reducible refine DL.r_seq ?_ | with_reducible refine DL.r_next ?_ | with_reducible refine DL.r_ret ?_ | with_reducible refine DL.r_ifS ?_ | with_reducible refine DL.r_asg ?_ | with_reducible refine DL.r_drop ?_ | with_reducible refine DL.r_c ?_ | with_reducible refine DL.r_nil ?_ | with_reducible refine DL.r_cons ?_ | with_reducible refine DL.r_op ?_ | with_reducible refine DL.r_cb ?_ | with_reducible refine DL.r_ofL ?_ | with_reducible refine DL.r_lst ?_ | with_reducible refine DL.r_tup ?_ | with_reducible refine DL.r_b ?_ | with_reducible refine DL.r_not ?_ | with_reducible refine DL.r_and ?_ | with_reducible refine DL.r_or ?_ | with_reducible refine DL.r_andV ?_ | with_reducible refine DL.r_orV ?_ | with_reducible refine DL.r_notV ?_ | with_reducible refine DL.r_neg ?_ | with_reducible refine DL.r_par ?_ | with_reducible refine DL.r_par3 ?_ | with_reducible refine DL.r_gname ?_ | with_reducible refine DL.r_callO ?_ | (with_reducible apply DL.r_var; focus exact rfl) | with_reducible refine DL.r_if1 ?_ | with_reducible refine DL.r_if0 ?_)
    refine ⟨_, _, .base rfl, T.kT, ?_⟩
    repeat (first | with_reducible refine DL.r_seq ?_ | with_reducible refine DL.r_next ?_ | with_reducible refine DL.r_ret ?_ | with_reducible refine DL.r_ifS ?_ | with_reducible refine DL.r_asg ?_ | with_reducible refine DL.r_drop ?_ | with_reducible refine DL.r_c ?_ | with_reducible refine DL.r_nil ?_ | with_reducible refine DL.r_cons ?_ | with_reducible refine DL.r_op ?_ | with_reducible refine DL.r_cb ?_ | with_reducible refine DL.r_ofL ?_ | with_reducible refine DL.r_lst ?_ | with_reducible refine DL.r_tup ?_ | with_reducible refine DL.r_b ?_ | with_reducible refine DL.r_not ?_ | with_reducible refine DL.r_and ?_ | with_reducible refine DL.r_or ?_ | with_reducible refine DL.r_andV ?_ | with_reducible refine DL.r_orV ?_ | with_reducible refine DL.r_notV ?_ | with_reducible refine DL.r_neg ?_ | with_reducible refine DL.r_par ?_ | with_reducible refine DL.r_par3 ?_ | with_reducible refine DL.r_gname ?_ | with_reducible refine DL.r_callO ?_ | (with_reducible apply DL.r_var; focus exact rfl) | with_reducible refine DL.r_if1 ?_ | with_reducible refine DL.r_if0 ?_)
    exact q
  · obtain ⟨nm', hN', hnP', hn2'⟩ := nm_of T hC'
    obtain ⟨cC', aC'⟩ := fld_of T hC'
    repeat (first | with_reducible refine DL.r_seq ?_ | with_reducible refine DL.r_next ?_ | with_reducible refine DL.r_ret ?_ | with_reducible refine DL.r_ifS ?_ | with_reducible refine DL.r_asg ?_ | with_reducible refine DL.r_drop ?_ | with_reducible refine DL.r_c ?_ | with_reducible refine DL.r_nil ?_ | with_reducible refine DL.r_cons ?_ | with_reducible refine DL.r_op ?_ | with_reducible refine DL.r_cb ?_ | with_reducible refine DL.r_ofL ?_ | with_reducible refine DL.r_lst ?_ | with_reducible refine DL.r_tup ?_ | with_reducible refine DL.r_b ?_ | with_reducible refine DL.r_not ?_ | with_reducible refine DL.r_and ?_ | with_reducible refine DL.r_or ?_ | with_reducible refine DL.r_andV ?_ | with_reducible refine DL.r_orV ?_ | with_reducible refine DL.r_notV ?_ | with_reducible refine DL.r_neg ?_ | with_reducible refine DL.r_par ?_ | with_reducible refine DL.r_par3 ?_ | with_reducible refine DL.r_gname ?_ | with_reducible refine DL.r_callO ?_ | (with_reducible apply DL.r_var; focus exact rfl) | with_reducible refine DL.r_if1 ?_ | with_reducible refine DL.r_if0 ?_)
    refine ⟨_, _, .obj hN', isP_of T hC', ?_⟩
    refine r_if0 ?_
    repeat (first | with_reducible refine DL.r_seq ?_ | with_reducible refine DL.r_next ?_ | with_reducible refine DL.r_ret ?_ | with_reducible refine DL.r_ifS ?_ | with_reducible refine DL.r_asg ?_ | with_reducible refine DL.r_drop ?_ | with_reducible refine DL.r_c ?_ | with_reducible refine DL.r_nil ?_ | with_reducible refine DL.r_cons ?_ | with_reducible refine DL.r_op ?_ | with_reducible refine DL.r_cb ?_ | with_reducible refine DL.r_ofL ?_ | with_reducible refine DL.r_lst ?_ | with_reducible refine DL.r_tup ?_ | with_reducible refine DL.r_b ?_ | with_reducible refine DL.r_not ?_ | with_reducible refine DL.r_and ?_ | with_reducible refine DL.r_or ?_ | with_reducible refine DL.r_andV ?_ | with_reducible refine DL.r_orV ?_ | with_reducible refine DL.r_notV ?_ | with_reducible refine DL.r_neg ?_ | with_reducible refine DL.r_par ?_ | with_reducible refine DL.r_par3 ?_ | with_reducible refine DL.r_gname ?_ | with_reducible refine DL.r_callO ?_ | (with_reducible apply DL.r_var; focus exact rfl) | with_reducible refine DL.r_if1 ?_ | with_reducible refine DL.r_if0 ?_)
    refine k_nm ?_
    refine r_var rfl ?_
    refine (show (∃ nm, NmK K C nm ∧ _) from ⟨nm, hN, ?_⟩)
    refine k_nm ?_
    refine r_var rfl ?_
    refine (show (∃ nm, NmK K C' nm ∧ _) from ⟨nm', hN', ?_⟩)
    show ite _ _ _
    by_cases hcc : C = C'
    · have e : nm = nm' := by
        rcases hn2 with rfl | rfl <;> rcases hn2' with rfl | rfl
        · rfl
        · exact absurd (hnP'.mpr (hcc ▸ hnP.mp rfl)) (by decide)
        · exact absurd (hnP.mpr (hcc ▸ hnP'.mp rfl)) (by decide)
        · rfl
      subst e
      rw [show (!(nm == nm)) = false from by simp]
      repeat (first | with_reducible refine DL.r_seq ?_ | with_reducible refine DL.r_next ?_ | with_reducible refine DL.r_ret ?_ | with_reducible refine DL.r_ifS ?_ | with_reducible refine DL.r_asg ?_ | with_reducible refine DL.r_drop ?_ | with_reducible refine DL.r_c ?_ | with_reducible refine DL.r_nil ?_ | with_reducible refine DL.r_cons ?_ | with_reducible refine DL.r_op ?_ | with_reducible refine DL.r_cb ?_ | with_reducible refine DL.r_ofL ?_ | with_reducible refine DL.r_lst ?_ | with_reducible refine DL.r_tup ?_ | with_reducible refine DL.r_b ?_ | with_reducible refine DL.r_not ?_ | with_reducible refine DL.r_and ?_ | with_reducible refine DL.r_or ?_ | with_reducible refine DL.r_andV ?_ | with_reducible refine DL.r_orV ?_ | with_reducible refine DL.r_notV ?_ | with_reducible refine DL.r_neg ?_ | with_reducible refine DL.r_par ?_ | with_reducible refine DL.r_par3 ?_ | with_reducible refine DL.r_gname ?_ | with_reducible refine DL.r_callO ?_ | (with_reducible apply DL.r_var; focus exact rfl) | with_reducible refine DL.r_if1 ?_ | with_reducible refine DL.r_if0 ?_)
      refine k_fldG ?_
      refine r_var rfl ?_
      refine (show ((Cls K C ∧ NoAttr K C "word") ∧ _) from ⟨⟨cC, aC _ (by decide)⟩, ?_⟩)
      refine k_fldG ?_
      refine r_var rfl ?_
      refine (show ((Cls K C' ∧ NoAttr K C' "word") ∧ _) from ⟨⟨cC', aC' _ (by decide)⟩, ?_⟩)
      show ite _ _ _
      by_cases hww : wd = wd'
      · subst hww
        rw [show (wd == wd) = true from by simp]
        refine r_if1 ?_
        repeat (first | with_reducible refine DL.r_seq ?_ | with_reducible refine DL.r_next ?_ | with_reducible refine DL.r_ret ?_ | with_reducible refine DL.r_ifS ?_ | with_reducible refine DL.r_asg ?_ | with_reducible refine DL.r_drop ?_ | with_reducible refine DL.r_c ?_ | with_reducible refine DL.r_nil ?_ | with_reducible refine DL.r_cons ?_ | with_reducible refine DL.r_op ?_ | with_reducible refine DL.r_cb ?_ | with_reducible refine DL.r_ofL ?_ | with_reducible refine DL.r_lst ?_ | with_reducible refine DL.r_tup ?_ | with_reducible refine DL.r_b ?_ | with_reducible refine DL.r_not ?_ | with_reducible refine DL.r_and ?_ | with_reducible refine DL.r_or ?_ | with_reducible refine DL.r_andV ?_ | with_reducible refine DL.r_orV ?_ | with_reducible refine DL.r_notV ?_ | with_reducible refine DL.r_neg ?_ | with_reducible refine DL.r_par ?_ | with_reducible refine DL.r_par3 ?_ | with_reducible refine DL.r_gname ?_ | with_reducible refine DL.r_callO ?_ | (with_reducible apply DL.r_var; focus exact rfl) | with_reducible refine DL.r_if1 ?_ | with_reducible refine DL.r_if0 ?_)
        refine k_fldG ?_
        refine r_var rfl ?_
        refine (show ((Cls K C ∧ NoAttr K C "parts") ∧ _) from ⟨⟨cC, aC _ (by decide)⟩, ?_⟩)
        refine k_fldG ?_
        refine r_var rfl ?_
        refine (show ((Cls K C' ∧ NoAttr K C' "parts") ∧ _) from ⟨⟨cC', aC' _ (by decide)⟩, ?_⟩)
        refine ⟨okW_okV _ _ hps, okW_okV _ _ hps', fun r r1 r2 => ?_⟩
        exact q3 hcc rfl r r1 r2
      · rw [show (wd == wd') = false from by simpa using hww]
        refine r_if0 ?_
        exact q2 hcc hww
    · have e : nm ≠ nm' := by
        intro e
        subst e
        rcases hn2 with rfl | rfl
        · exact hcc ((hnP.mp rfl).trans (hnP'.mp rfl).symm)
        · rcases hC with rfl | rfl
          · exact absurd (hnP.mpr rfl) (by decide)
          · rcases hC' with rfl | rfl
            · exact absurd (hnP'.mpr rfl) (by decide)
            · exact hcc rfl
      rw [show (!(nm == nm')) = true from by simpa using e]
      repeat (first | with_reducible refine DL.r_seq ?_ | with_reducible refine DL.r_next ?_ | with_reducible refine DL.r_ret ?_ | with_reducible refine DL.r_ifS ?_ | with_reducible refine DL.r_asg ?_ | with_reducible refine DL.r_drop ?_ | with_reducible refine DL.r_c ?_ | with_reducible refine DL.r_nil ?_ | with_reducible refine DL.r_cons ?_ | with_reducible refine DL.r_op ?_ | with_reducible refine DL.r_cb ?_ | with_reducible refine DL.r_ofL ?_ | with_reducible refine DL.r_lst ?_ | with_reducible refine DL.r_tup ?_ | with_reducible refine DL.r_b ?_ | with_reducible refine DL.r_not ?_ | with_reducible refine DL.r_and ?_ | with_reducible refine DL.r_or ?_ | with_reducible refine DL.r_andV ?_ | with_reducible refine DL.r_orV ?_ | with_reducible refine DL.r_notV ?_ | with_reducible refine DL.r_neg ?_ | with_reducible refine DL.r_par ?_ | with_reducible refine DL.r_par3 ?_ | with_reducible refine DL.r_gname ?_ | with_reducible refine DL.r_callO ?_ | (with_reducible apply DL.r_var; focus exact rfl) | with_reducible refine DL.r_if1 ?_ | with_reducible refine DL.r_if0 ?_)
      exact q1 hcc
end
end K01

namespace K01
open PySem L2 DL DX
section
variable {P : Program} {w : World} {K : PySem.W.Frag} {mg : Str → Option Value} {base : Heap} {CP CD : Addr}
theorem sc_eqP : FnScope ["self", "other"] ["self", "other"] (defScope s_eqP) := ⟨rfl, rfl, rfl, by decide +kernel, rfl, by decide +kernel, by decide +kernel⟩
theorem sc_eqD : FnScope ["self", "other"] ["self", "other"] (defScope s_eqD) := ⟨rfl, rfl, rfl, by decide +kernel, rfl, by decide +kernel, by decide +kernel⟩
theorem sc_boP : FnScope ["self"] ["self"] (defScope s_boP) := ⟨rfl, rfl, rfl, by decide +kernel, rfl, by decide +kernel, by decide +kernel⟩
theorem sc_boD : FnScope ["self"] ["self"] (defScope s_boD) := ⟨rfl, rfl, rfl, by decide +kernel, rfl, by decide +kernel, by decide +kernel⟩
theorem ok_eqP {f : Addr} {fd : FuncData} (F : Fun K "__eq__" "Paper.__eq__" s_eqP f fd) (G_is_same_paper : FnF P w K mg base 1 "is_same_paper" s_is_same_paper ["paper", "value"] (CSame CP CD)) :
    FnOk P w K mg base CX0 2 f fd ["self", "other"] (spC K (CSame CP CD)) := by
  refine FunC F sc_eqP csame_len fun cdv A outer s H E hr => ?_
  have nd := sc_eqP.nd
  refine ⟨_, _, (dss_one (ds_ret (d_callF G_is_same_paper hr (da_cons (dv 0) (da_cons (dv 1) da_nil))))), ?_⟩
  rintro _ b Qd ⟨C, wd, ps, e, rfl, hC, hps, h⟩
  have ne : e.isSlot = false := by
    rcases h with ⟨x, rfl, _⟩ | ⟨xs, rfl, _⟩ | ⟨C', w', ps', rfl, _⟩ <;> rfl
  repeat (first | with_reducible refine DL.r_seq ?_ | with_reducible refine DL.r_next ?_ | with_reducible refine DL.r_ret ?_ | with_reducible refine DL.r_ifS ?_ | with_reducible refine DL.r_asg ?_ | with_reducible refine DL.r_drop ?_ | with_reducible refine DL.r_c ?_ | with_reducible refine DL.r_nil ?_ | with_reducible refine DL.r_cons ?_ | with_reducible refine DL.r_op ?_ | with_reducible refine DL.r_cb ?_ | with_reducible refine DL.r_ofL ?_ | with_reducible refine DL.r_lst ?_ | with_reducible refine DL.r_tup ?_ | with_reducible refine DL.r_b ?_ | with_reducible refine DL.r_not ?_ | with_reducible refine DL.r_and ?_ | with_reducible refine DL.r_or ?_ | with_reducible refine DL.r_andV ?_ | with_reducible refine DL.r_orV ?_ | with_reducible refine DL.r_notV ?_ | with_reducible refine DL.r_neg ?_ | with_reducible refine DL.r_par ?_ | with_reducible refine DL.r_par3 ?_ | with_reducible refine DL.r_gname ?_ | with_reducible refine DL.r_callO ?_ | (with_reducible apply DL.r_var; focus exact rfl) | with_reducible refine DL.r_if1 ?_ | with_reducible refine DL.r_if0 ?_)
  refine r_call (ds := [pap C wd ps, e]) (fun _ h => h) (noSlots_cons rfl (noSlots_cons ne rfl)) ⟨C, wd, ps, e, rfl, hC, hps, ?_⟩
  rcases h with ⟨x, rfl, q⟩ | ⟨xs, rfl, q⟩ | ⟨C', wd', ps', rfl, hC', hps', q1, q2, q3⟩
  · exact .inl ⟨x, rfl, q⟩
  · exact .inr (.inl ⟨xs, rfl, q⟩)
  · exact .inr (.inr ⟨C', wd', ps', rfl, hC', hps', q1, q2, q3⟩)
theorem ok_eqD {f : Addr} {fd : FuncData} (F : Fun K "__eq__" "Denial.__eq__" s_eqD f fd) (G_is_same_paper : FnF P w K mg base 1 "is_same_paper" s_is_same_paper ["paper", "value"] (CSame CP CD)) :
    FnOk P w K mg base CX0 2 f fd ["self", "other"] (spC K (CSame CP CD)) := by
  refine FunC F sc_eqD csame_len fun cdv A outer s H E hr => ?_
  have nd := sc_eqD.nd
  refine ⟨_, _, (dss_one (ds_ret (d_callF G_is_same_paper hr (da_cons (dv 0) (da_cons (dv 1) da_nil))))), ?_⟩
  rintro _ b Qd ⟨C, wd, ps, e, rfl, hC, hps, h⟩
  have ne : e.isSlot = false := by
    rcases h with ⟨x, rfl, _⟩ | ⟨xs, rfl, _⟩ | ⟨C', w', ps', rfl, _⟩ <;> rfl
  repeat (first | with_reducible refine DL.r_seq ?_ | with_reducible refine DL.r_next ?_ | with_reducible refine DL.r_ret ?_ | with_reducible refine DL.r_ifS ?_ | with_reducible refine DL.r_asg ?_ | with_reducible refine DL.r_drop ?_ | with_reducible refine DL.r_c ?_ | with_reducible refine DL.r_nil ?_ | with_reducible refine DL.r_cons ?_ | with_reducible refine DL.r_op ?_ | with_reducible refine DL.r_cb ?_ | with_reducible refine DL.r_ofL ?_ | with_reducible refine DL.r_lst ?_ | with_reducible refine DL.r_tup ?_ | with_reducible refine DL.r_b ?_ | with_reducible refine DL.r_not ?_ | with_reducible refine DL.r_and ?_ | with_reducible refine DL.r_or ?_ | with_reducible refine DL.r_andV ?_ | with_reducible refine DL.r_orV ?_ | with_reducible refine DL.r_notV ?_ | with_reducible refine DL.r_neg ?_ | with_reducible refine DL.r_par ?_ | with_reducible refine DL.r_par3 ?_ | with_reducible refine DL.r_gname ?_ | with_reducible refine DL.r_callO ?_ | (with_reducible apply DL.r_var; focus exact rfl) | with_reducible refine DL.r_if1 ?_ | with_reducible refine DL.r_if0 ?_)
  refine r_call (ds := [pap C wd ps, e]) (fun _ h => h) (noSlots_cons rfl (noSlots_cons ne rfl)) ⟨C, wd, ps, e, rfl, hC, hps, ?_⟩
  rcases h with ⟨x, rfl, q⟩ | ⟨xs, rfl, q⟩ | ⟨C', wd', ps', rfl, hC', hps', q1, q2, q3⟩
  · exact .inl ⟨x, rfl, q⟩
  · exact .inr (.inl ⟨xs, rfl, q⟩)
  · exact .inr (.inr ⟨C', wd', ps', rfl, hC', hps', q1, q2, q3⟩)
theorem ok_boP {f : Addr} {fd : FuncData} (F : Fun K "__bool__" "Paper.__bool__" s_boP f fd) : FnOk P w K mg base CX0 1 f fd ["self"] (spC K (CTrue true CP)) := by
  refine FunC F sc_boP (fun ds b Q h => by obtain ⟨w, ps, rfl, _⟩ := h; rfl) fun cdv A outer s H E hr => ?_
  have nd := sc_boP.nd
  refine ⟨_, _, (dss_one (ds_ret d_bl)), ?_⟩
  rintro _ b Qd ⟨wd, ps, rfl, q⟩
  repeat (first | with_reducible refine DL.r_seq ?_ | with_reducible refine DL.r_next ?_ | with_reducible refine DL.r_ret ?_ | with_reducible refine DL.r_ifS ?_ | with_reducible refine DL.r_asg ?_ | with_reducible refine DL.r_drop ?_ | with_reducible refine DL.r_c ?_ | with_reducible refine DL.r_nil ?_ | with_reducible refine DL.r_cons ?_ | with_reducible refine DL.r_op ?_ | with_reducible refine DL.r_cb ?_ | with_reducible refine DL.r_ofL ?_ | with_reducible refine DL.r_lst ?_ | with_reducible refine DL.r_tup ?_ | with_reducible refine DL.r_b ?_ | with_reducible refine DL.r_not ?_ | with_reducible refine DL.r_and ?_ | with_reducible refine DL.r_or ?_ | with_reducible refine DL.r_andV ?_ | with_reducible refine DL.r_orV ?_ | with_reducible refine DL.r_notV ?_ | with_reducible refine DL.r_neg ?_ | with_reducible refine DL.r_par ?_ | with_reducible refine DL.r_par3 ?_ | with_reducible refine DL.r_gname ?_ | with_reducible refine DL.r_callO ?_ | (with_reducible apply DL.r_var; focus exact rfl) | with_reducible refine DL.r_if1 ?_ | with_reducible refine DL.r_if0 ?_)
  exact q
theorem ok_boD {f : Addr} {fd : FuncData} (F : Fun K "__bool__" "Denial.__bool__" s_boD f fd) : FnOk P w K mg base CX0 1 f fd ["self"] (spC K (CTrue false CD)) := by
  refine FunC F sc_boD (fun ds b Q h => by obtain ⟨w, ps, rfl, _⟩ := h; rfl) fun cdv A outer s H E hr => ?_
  have nd := sc_boD.nd
  refine ⟨_, _, (dss_one (ds_ret d_bl)), ?_⟩
  rintro _ b Qd ⟨wd, ps, rfl, q⟩
  repeat (first | with_reducible refine DL.r_seq ?_ | with_reducible refine DL.r_next ?_ | with_reducible refine DL.r_ret ?_ | with_reducible refine DL.r_ifS ?_ | with_reducible refine DL.r_asg ?_ | with_reducible refine DL.r_drop ?_ | with_reducible refine DL.r_c ?_ | with_reducible refine DL.r_nil ?_ | with_reducible refine DL.r_cons ?_ | with_reducible refine DL.r_op ?_ | with_reducible refine DL.r_cb ?_ | with_reducible refine DL.r_ofL ?_ | with_reducible refine DL.r_lst ?_ | with_reducible refine DL.r_tup ?_ | with_reducible refine DL.r_b ?_ | with_reducible refine DL.r_not ?_ | with_reducible refine DL.r_and ?_ | with_reducible refine DL.r_or ?_ | with_reducible refine DL.r_andV ?_ | with_reducible refine DL.r_orV ?_ | with_reducible refine DL.r_notV ?_ | with_reducible refine DL.r_neg ?_ | with_reducible refine DL.r_par ?_ | with_reducible refine DL.r_par3 ?_ | with_reducible refine DL.r_gname ?_ | with_reducible refine DL.r_callO ?_ | (with_reducible apply DL.r_var; focus exact rfl) | with_reducible refine DL.r_if1 ?_ | with_reducible refine DL.r_if0 ?_)
  exact q
theorem k_setFld {Ca : Addr} {f : Str} {i : Nat} {t : DE} {F : DEnds} {s : DS} (h : t s fun d s1 => d.isSlot = false ∧ match s1.sl[i]? with
  | some (.ownI lx dxx C' fs) => C' = Ca ∧ fs.length < 1000 ∧ F.nx { s1 with sl := s1.sl.set i (.ownI lx dxx Ca (putD f d fs)) }
  | _ => False) : dSetFld Ca f i t F s := h
theorem k_len {s : DS} {xs : List D} {Q : D → Prop} (h : Q (.int (xs.length : Nat))) : fLen s [.tup xs] Q := h
theorem k_ix {s : DS} {xs : List D} {i : Nat} {d : D} {Q : D → Prop} (e : xs[i]? = some d) (hs : d.isSlot = false) (h : Q d) : fIx s (.tup xs) (.int (i : Nat)) Q := by
  show match atI xs (i : Int) with
    | some d => d.isSlot = false ∧ Q d
    | none => False
  rw [atI_nat e]
  exact ⟨hs, h⟩
/-! ### __init__ -/
abbrev N_init : List Str := ["self", "word", "parts"]
theorem sc_init : FnScope N_init ["self", "word", "parts"] (defScope s_init) := ⟨rfl, rfl, rfl, by decide +kernel, rfl, by decide +kernel, by decide +kernel⟩
theorem ok_init {f : Addr} {fd : FuncData} {Ca : Addr} (F : Fun K "__init__" "Paper.__init__" s_init f fd) (c : Cls K Ca) (n : ∀ f, f ∈ (["word", "parts"] : List Str) → NoAttr K Ca f) (G_fixed : FnF P w K mg base 7 "fixed" s_fixed ["value"] (CF 7)) :
    FnR P w K mg base CX0 8 f (spStar 2 (spI K Ca CInit)) := by
  refine fnStarI F sc_init ?_ cinit_len fun cdv A outer s H E hr => ?_
  · obtain ⟨oc, od, kV, doc, pm, an, cdv, ct, osl, rfl, lk, hcd⟩ := F.ex
    exact StX.bind_star2 (B := fun us => bindArgs (PySem.W.fnOf "__init__" "Paper.__init__" (defArgs s_init) (defBody s_init) (defScope s_init) .none kV doc pm an cdv ct) ⟨us, []⟩) (p1 := "self") (p2 := "word") (pv := "parts") (fun a b => rfl) (fun a b r rs => rfl)
  · have nd := sc_init.nd
    refine ⟨_, _, (dss_cons (ds_fld (i := 0) rfl c (n _ (by decide)) (dv 1)) (dss_one (ds_fld (i := 0) rfl c (n _ (by decide)) (d_callF G_fixed hr (da_cons (dv 2) da_nil))))), ?_⟩
    rintro _ b Qd ⟨wd, ps, rfl, hps, q⟩ x dx
    repeat (first | with_reducible refine DL.r_seq ?_ | with_reducible refine DL.r_next ?_ | with_reducible refine DL.r_ret ?_ | with_reducible refine DL.r_ifS ?_ | with_reducible refine DL.r_asg ?_ | with_reducible refine DL.r_drop ?_ | with_reducible refine DL.r_c ?_ | with_reducible refine DL.r_nil ?_ | with_reducible refine DL.r_cons ?_ | with_reducible refine DL.r_op ?_ | with_reducible refine DL.r_cb ?_ | with_reducible refine DL.r_ofL ?_ | with_reducible refine DL.r_lst ?_ | with_reducible refine DL.r_tup ?_ | with_reducible refine DL.r_b ?_ | with_reducible refine DL.r_not ?_ | with_reducible refine DL.r_and ?_ | with_reducible refine DL.r_or ?_ | with_reducible refine DL.r_andV ?_ | with_reducible refine DL.r_orV ?_ | with_reducible refine DL.r_notV ?_ | with_reducible refine DL.r_neg ?_ | with_reducible refine DL.r_par ?_ | with_reducible refine DL.r_par3 ?_ | with_reducible refine DL.r_gname ?_ | with_reducible refine DL.r_callO ?_ | (with_reducible apply DL.r_var; focus exact rfl) | with_reducible refine DL.r_if1 ?_ | with_reducible refine DL.r_if0 ?_)
    refine r_var rfl ?_
    refine ⟨rfl, rfl, by decide, ?_⟩
    dsimp only
    refine k_setFld ?_
    refine r_call (ds := [.tup ps]) (fun _ h => h) (okW_no hps) ⟨.tup ps, 6, rfl, rfl, hps, ?_⟩
    refine ⟨okW_slot (fix_ok 6 _ hps), ?_⟩
    refine ⟨rfl, by show 1 < 1000; decide, ?_⟩
    exact ⟨⟨rfl, rfl, rfl⟩, q⟩
/-! ### _law_made -/
structure Mks (P : Program) (w : World) (K : PySem.W.Frag) (mg : Str → Option Value) (base : Heap) (CP CD : Addr) : Prop where
  Paper : MkS P w K mg base 8 "Paper" CP CInit
  Denial : MkS P w K mg base 8 "Denial" CD CInit
abbrev N__law_made : List Str := ["word", "parts", "is_denial"]
theorem sc__law_made : FnScope N__law_made N__law_made (defScope s__law_made) := ⟨rfl, rfl, rfl, by decide +kernel, rfl, by decide +kernel, by decide +kernel⟩
theorem cmade_len : ∀ ds b Q, CMade CP CD ds b Q → ds.length = 3 := by
  rintro ds b Q ⟨w, ps, den, rfl, _⟩
  rfl
theorem ok_made (Df : Dfn K mg "_law_made" s__law_made N__law_made) (T : Txt K mg CP CD) (G : Mks P w K mg base CP CD) : FnF P w K mg base 10 "_law_made" s__law_made N__law_made (CMade CP CD) := by
  refine fnFC Df sc__law_made cmade_len fun f cdv A outer s H E hr => ?_
  have nd := sc__law_made.nd
  have hu : (A.deeper (PyProof.Rows.envOfC "_law_made" (defScope s__law_made) s.heap.objs.size f cdv)).units + 64 < cLine := by have := hr.un; omega
  refine ⟨_, _, (dss_cons (ds_if (dt_cmp (o_eqK K hu rfl) (dv 1) (d_tup da_nil)) (dss_one (ds_ret (d_if (dt_val (dv 2)) (d_makeS G.Denial hr (da_cons (dv 0) da_nil)) (d_makeS G.Paper hr (da_cons (dv 0) da_nil))))) dss_nil)
      (dss_cons (ds_if (dt_cmp (o_eq hu) (d_callB b_len (by rfl) T.b_len (by decide +kernel) (da_cons (dv 1) da_nil)) d_int) (dss_one (ds_ret (d_if (dt_val (dv 2)) (d_makeS G.Denial hr (da_cons (dv 0) (da_cons (d_ix (dv 1) d_int) da_nil))) (d_makeS G.Paper hr (da_cons (dv 0) (da_cons (d_ix (dv 1) d_int) da_nil)))))) dss_nil)
      (dss_cons (ds_if (dt_cmp (o_eq hu) (d_callB b_len (by rfl) T.b_len (by decide +kernel) (da_cons (dv 1) da_nil)) d_int) (dss_one (ds_ret (d_if (dt_val (dv 2)) (d_makeS G.Denial hr (da_cons (dv 0) (da_cons (d_ix (dv 1) d_int) (da_cons (d_ix (dv 1) d_int) da_nil)))) (d_makeS G.Paper hr (da_cons (dv 0) (da_cons (d_ix (dv 1) d_int) (da_cons (d_ix (dv 1) d_int) da_nil))))))) dss_nil)
      (dss_one (ds_ret (d_if (dt_val (dv 2)) (d_makeS G.Denial hr (da_cons (dv 0) (da_cons (d_ix (dv 1) d_int) (da_cons (d_ix (dv 1) d_int) (da_cons (d_ix (dv 1) d_int) da_nil))))) (d_makeS G.Paper hr (da_cons (dv 0) (da_cons (d_ix (dv 1) d_int) (da_cons (d_ix (dv 1) d_int) (da_cons (d_ix (dv 1) d_int) da_nil))))))))))), ?_⟩
  rintro _ b Qd ⟨wd, ps, den, rfl, hl, hps, q⟩
  have hall := hps
  rw [okW, Bool.and_eq_true] at hall
  repeat (first | with_reducible refine DL.r_seq ?_ | with_reducible refine DL.r_next ?_ | with_reducible refine DL.r_ret ?_ | with_reducible refine DL.r_ifS ?_ | with_reducible refine DL.r_asg ?_ | with_reducible refine DL.r_drop ?_ | with_reducible refine DL.r_c ?_ | with_reducible refine DL.r_nil ?_ | with_reducible refine DL.r_cons ?_ | with_reducible refine DL.r_op ?_ | with_reducible refine DL.r_cb ?_ | with_reducible refine DL.r_ofL ?_ | with_reducible refine DL.r_lst ?_ | with_reducible refine DL.r_tup ?_ | with_reducible refine DL.r_b ?_ | with_reducible refine DL.r_not ?_ | with_reducible refine DL.r_and ?_ | with_reducible refine DL.r_or ?_ | with_reducible refine DL.r_andV ?_ | with_reducible refine DL.r_orV ?_ | with_reducible refine DL.r_notV ?_ | with_reducible refine DL.r_neg ?_ | with_reducible refine DL.r_par ?_ | with_reducible refine DL.r_par3 ?_ | with_reducible refine DL.r_gname ?_ | with_reducible refine DL.r_callO ?_ | (with_reducible apply DL.r_var; focus exact rfl) | with_reducible refine DL.r_if1 ?_ | with_reducible refine DL.r_if0 ?_)
  refine ⟨by decide, rfl, ?_⟩
  refine ⟨okW_okV _ _ hps, rfl, fun r r1 r2 => ?_⟩
  match ps, hl with
  | [], _ =>
    rw [r1 rfl]
    repeat (first | with_reducible refine DL.r_seq ?_ | with_reducible refine DL.r_next ?_ | with_reducible refine DL.r_ret ?_ | with_reducible refine DL.r_ifS ?_ | with_reducible refine DL.r_asg ?_ | with_reducible refine DL.r_drop ?_ | with_reducible refine DL.r_c ?_ | with_reducible refine DL.r_nil ?_ | with_reducible refine DL.r_cons ?_ | with_reducible refine DL.r_op ?_ | with_reducible refine DL.r_cb ?_ | with_reducible refine DL.r_ofL ?_ | with_reducible refine DL.r_lst ?_ | with_reducible refine DL.r_tup ?_ | with_reducible refine DL.r_b ?_ | with_reducible refine DL.r_not ?_ | with_reducible refine DL.r_and ?_ | with_reducible refine DL.r_or ?_ | with_reducible refine DL.r_andV ?_ | with_reducible refine DL.r_orV ?_ | with_reducible refine DL.r_notV ?_ | with_reducible refine DL.r_neg ?_ | with_reducible refine DL.r_par ?_ | with_reducible refine DL.r_par3 ?_ | with_reducible refine DL.r_gname ?_ | with_reducible refine DL.r_callO ?_ | (with_reducible apply DL.r_var; focus exact rfl) | with_reducible refine DL.r_if1 ?_ | with_reducible refine DL.r_if0 ?_)
    unfold dIf
    repeat (first | with_reducible refine DL.r_seq ?_ | with_reducible refine DL.r_next ?_ | with_reducible refine DL.r_ret ?_ | with_reducible refine DL.r_ifS ?_ | with_reducible refine DL.r_asg ?_ | with_reducible refine DL.r_drop ?_ | with_reducible refine DL.r_c ?_ | with_reducible refine DL.r_nil ?_ | with_reducible refine DL.r_cons ?_ | with_reducible refine DL.r_op ?_ | with_reducible refine DL.r_cb ?_ | with_reducible refine DL.r_ofL ?_ | with_reducible refine DL.r_lst ?_ | with_reducible refine DL.r_tup ?_ | with_reducible refine DL.r_b ?_ | with_reducible refine DL.r_not ?_ | with_reducible refine DL.r_and ?_ | with_reducible refine DL.r_or ?_ | with_reducible refine DL.r_andV ?_ | with_reducible refine DL.r_orV ?_ | with_reducible refine DL.r_notV ?_ | with_reducible refine DL.r_neg ?_ | with_reducible refine DL.r_par ?_ | with_reducible refine DL.r_par3 ?_ | with_reducible refine DL.r_gname ?_ | with_reducible refine DL.r_callO ?_ | (with_reducible apply DL.r_var; focus exact rfl) | with_reducible refine DL.r_if1 ?_ | with_reducible refine DL.r_if0 ?_)
    cases den
    all_goals
      refine r_var rfl ?_
      first | refine r_if1 ?_ | refine r_if0 ?_
      refine k_makeS ?_
      repeat (first | with_reducible refine DL.r_seq ?_ | with_reducible refine DL.r_next ?_ | with_reducible refine DL.r_ret ?_ | with_reducible refine DL.r_ifS ?_ | with_reducible refine DL.r_asg ?_ | with_reducible refine DL.r_drop ?_ | with_reducible refine DL.r_c ?_ | with_reducible refine DL.r_nil ?_ | with_reducible refine DL.r_cons ?_ | with_reducible refine DL.r_op ?_ | with_reducible refine DL.r_cb ?_ | with_reducible refine DL.r_ofL ?_ | with_reducible refine DL.r_lst ?_ | with_reducible refine DL.r_tup ?_ | with_reducible refine DL.r_b ?_ | with_reducible refine DL.r_not ?_ | with_reducible refine DL.r_and ?_ | with_reducible refine DL.r_or ?_ | with_reducible refine DL.r_andV ?_ | with_reducible refine DL.r_orV ?_ | with_reducible refine DL.r_notV ?_ | with_reducible refine DL.r_neg ?_ | with_reducible refine DL.r_par ?_ | with_reducible refine DL.r_par3 ?_ | with_reducible refine DL.r_gname ?_ | with_reducible refine DL.r_callO ?_ | (with_reducible apply DL.r_var; focus exact rfl) | with_reducible refine DL.r_if1 ?_ | with_reducible refine DL.r_if0 ?_)
      exact ⟨rfl, by decide, wd, [], rfl, hps, q⟩
  | [a], _ =>
    have ha : a.isSlot = false := okW_slot (List.all_eq_true.mp hall.2 a (by simp))
    rw [r2 (by simp)]
    repeat (first | with_reducible refine DL.r_seq ?_ | with_reducible refine DL.r_next ?_ | with_reducible refine DL.r_ret ?_ | with_reducible refine DL.r_ifS ?_ | with_reducible refine DL.r_asg ?_ | with_reducible refine DL.r_drop ?_ | with_reducible refine DL.r_c ?_ | with_reducible refine DL.r_nil ?_ | with_reducible refine DL.r_cons ?_ | with_reducible refine DL.r_op ?_ | with_reducible refine DL.r_cb ?_ | with_reducible refine DL.r_ofL ?_ | with_reducible refine DL.r_lst ?_ | with_reducible refine DL.r_tup ?_ | with_reducible refine DL.r_b ?_ | with_reducible refine DL.r_not ?_ | with_reducible refine DL.r_and ?_ | with_reducible refine DL.r_or ?_ | with_reducible refine DL.r_andV ?_ | with_reducible refine DL.r_orV ?_ | with_reducible refine DL.r_notV ?_ | with_reducible refine DL.r_neg ?_ | with_reducible refine DL.r_par ?_ | with_reducible refine DL.r_par3 ?_ | with_reducible refine DL.r_gname ?_ | with_reducible refine DL.r_callO ?_ | (with_reducible apply DL.r_var; focus exact rfl) | with_reducible refine DL.r_if1 ?_ | with_reducible refine DL.r_if0 ?_)
    refine r_var rfl ?_
    repeat (first | with_reducible refine DL.r_seq ?_ | with_reducible refine DL.r_next ?_ | with_reducible refine DL.r_ret ?_ | with_reducible refine DL.r_ifS ?_ | with_reducible refine DL.r_asg ?_ | with_reducible refine DL.r_drop ?_ | with_reducible refine DL.r_c ?_ | with_reducible refine DL.r_nil ?_ | with_reducible refine DL.r_cons ?_ | with_reducible refine DL.r_op ?_ | with_reducible refine DL.r_cb ?_ | with_reducible refine DL.r_ofL ?_ | with_reducible refine DL.r_lst ?_ | with_reducible refine DL.r_tup ?_ | with_reducible refine DL.r_b ?_ | with_reducible refine DL.r_not ?_ | with_reducible refine DL.r_and ?_ | with_reducible refine DL.r_or ?_ | with_reducible refine DL.r_andV ?_ | with_reducible refine DL.r_orV ?_ | with_reducible refine DL.r_notV ?_ | with_reducible refine DL.r_neg ?_ | with_reducible refine DL.r_par ?_ | with_reducible refine DL.r_par3 ?_ | with_reducible refine DL.r_gname ?_ | with_reducible refine DL.r_callO ?_ | (with_reducible apply DL.r_var; focus exact rfl) | with_reducible refine DL.r_if1 ?_ | with_reducible refine DL.r_if0 ?_)
    refine k_len ?_
    repeat (first | with_reducible refine DL.r_seq ?_ | with_reducible refine DL.r_next ?_ | with_reducible refine DL.r_ret ?_ | with_reducible refine DL.r_ifS ?_ | with_reducible refine DL.r_asg ?_ | with_reducible refine DL.r_drop ?_ | with_reducible refine DL.r_c ?_ | with_reducible refine DL.r_nil ?_ | with_reducible refine DL.r_cons ?_ | with_reducible refine DL.r_op ?_ | with_reducible refine DL.r_cb ?_ | with_reducible refine DL.r_ofL ?_ | with_reducible refine DL.r_lst ?_ | with_reducible refine DL.r_tup ?_ | with_reducible refine DL.r_b ?_ | with_reducible refine DL.r_not ?_ | with_reducible refine DL.r_and ?_ | with_reducible refine DL.r_or ?_ | with_reducible refine DL.r_andV ?_ | with_reducible refine DL.r_orV ?_ | with_reducible refine DL.r_notV ?_ | with_reducible refine DL.r_neg ?_ | with_reducible refine DL.r_par ?_ | with_reducible refine DL.r_par3 ?_ | with_reducible refine DL.r_gname ?_ | with_reducible refine DL.r_callO ?_ | (with_reducible apply DL.r_var; focus exact rfl) | with_reducible refine DL.r_if1 ?_ | with_reducible refine DL.r_if0 ?_)
    refine eq_int ?_
    refine r_if1 ?_
    repeat (first | with_reducible refine DL.r_seq ?_ | with_reducible refine DL.r_next ?_ | with_reducible refine DL.r_ret ?_ | with_reducible refine DL.r_ifS ?_ | with_reducible refine DL.r_asg ?_ | with_reducible refine DL.r_drop ?_ | with_reducible refine DL.r_c ?_ | with_reducible refine DL.r_nil ?_ | with_reducible refine DL.r_cons ?_ | with_reducible refine DL.r_op ?_ | with_reducible refine DL.r_cb ?_ | with_reducible refine DL.r_ofL ?_ | with_reducible refine DL.r_lst ?_ | with_reducible refine DL.r_tup ?_ | with_reducible refine DL.r_b ?_ | with_reducible refine DL.r_not ?_ | with_reducible refine DL.r_and ?_ | with_reducible refine DL.r_or ?_ | with_reducible refine DL.r_andV ?_ | with_reducible refine DL.r_orV ?_ | with_reducible refine DL.r_notV ?_ | with_reducible refine DL.r_neg ?_ | with_reducible refine DL.r_par ?_ | with_reducible refine DL.r_par3 ?_ | with_reducible refine DL.r_gname ?_ | with_reducible refine DL.r_callO ?_ | (with_reducible apply DL.r_var; focus exact rfl) | with_reducible refine DL.r_if1 ?_ | with_reducible refine DL.r_if0 ?_)
    unfold dIf
    repeat (first | with_reducible refine DL.r_seq ?_ | with_reducible refine DL.r_next ?_ | with_reducible refine DL.r_ret ?_ | with_reducible refine DL.r_ifS ?_ | with_reducible refine DL.r_asg ?_ | with_reducible refine DL.r_drop ?_ | with_reducible refine DL.r_c ?_ | with_reducible refine DL.r_nil ?_ | with_reducible refine DL.r_cons ?_ | with_reducible refine DL.r_op ?_ | with_reducible refine DL.r_cb ?_ | with_reducible refine DL.r_ofL ?_ | with_reducible refine DL.r_lst ?_ | with_reducible refine DL.r_tup ?_ | with_reducible refine DL.r_b ?_ | with_reducible refine DL.r_not ?_ | with_reducible refine DL.r_and ?_ | with_reducible refine DL.r_or ?_ | with_reducible refine DL.r_andV ?_ | with_reducible refine DL.r_orV ?_ | with_reducible refine DL.r_notV ?_ | with_reducible refine DL.r_neg ?_ | with_reducible refine DL.r_par ?_ | with_reducible refine DL.r_par3 ?_ | with_reducible refine DL.r_gname ?_ | with_reducible refine DL.r_callO ?_ | (with_reducible apply DL.r_var; focus exact rfl) | with_reducible refine DL.r_if1 ?_ | with_reducible refine DL.r_if0 ?_)
    cases den
    all_goals
      refine r_var rfl ?_
      first | refine r_if1 ?_ | refine r_if0 ?_
      refine k_makeS ?_
      repeat (first | with_reducible refine DL.r_seq ?_ | with_reducible refine DL.r_next ?_ | with_reducible refine DL.r_ret ?_ | with_reducible refine DL.r_ifS ?_ | with_reducible refine DL.r_asg ?_ | with_reducible refine DL.r_drop ?_ | with_reducible refine DL.r_c ?_ | with_reducible refine DL.r_nil ?_ | with_reducible refine DL.r_cons ?_ | with_reducible refine DL.r_op ?_ | with_reducible refine DL.r_cb ?_ | with_reducible refine DL.r_ofL ?_ | with_reducible refine DL.r_lst ?_ | with_reducible refine DL.r_tup ?_ | with_reducible refine DL.r_b ?_ | with_reducible refine DL.r_not ?_ | with_reducible refine DL.r_and ?_ | with_reducible refine DL.r_or ?_ | with_reducible refine DL.r_andV ?_ | with_reducible refine DL.r_orV ?_ | with_reducible refine DL.r_notV ?_ | with_reducible refine DL.r_neg ?_ | with_reducible refine DL.r_par ?_ | with_reducible refine DL.r_par3 ?_ | with_reducible refine DL.r_gname ?_ | with_reducible refine DL.r_callO ?_ | (with_reducible apply DL.r_var; focus exact rfl) | with_reducible refine DL.r_if1 ?_ | with_reducible refine DL.r_if0 ?_)
      repeat (refine r_var rfl ?_; (repeat (first | with_reducible refine DL.r_seq ?_ | with_reducible refine DL.r_next ?_ | with_reducible refine DL.r_ret ?_ | with_reducible refine DL.r_ifS ?_ | with_reducible refine DL.r_asg ?_ | with_reducible refine DL.r_drop ?_ | with_reducible refine DL.r_c ?_ | with_reducible refine DL.r_nil ?_ | with_reducible refine DL.r_cons ?_ | with_reducible refine DL.r_op ?_ | with_reducible refine DL.r_cb ?_ | with_reducible refine DL.r_ofL ?_ | with_reducible refine DL.r_lst ?_ | with_reducible refine DL.r_tup ?_ | with_reducible refine DL.r_b ?_ | with_reducible refine DL.r_not ?_ | with_reducible refine DL.r_and ?_ | with_reducible refine DL.r_or ?_ | with_reducible refine DL.r_andV ?_ | with_reducible refine DL.r_orV ?_ | with_reducible refine DL.r_notV ?_ | with_reducible refine DL.r_neg ?_ | with_reducible refine DL.r_par ?_ | with_reducible refine DL.r_par3 ?_ | with_reducible refine DL.r_gname ?_ | with_reducible refine DL.r_callO ?_ | (with_reducible apply DL.r_var; focus exact rfl) | with_reducible refine DL.r_if1 ?_ | with_reducible refine DL.r_if0 ?_)))
      refine k_ix (xs := [a]) (i := 0) rfl ha ?_
      repeat (first | with_reducible refine DL.r_seq ?_ | with_reducible refine DL.r_next ?_ | with_reducible refine DL.r_ret ?_ | with_reducible refine DL.r_ifS ?_ | with_reducible refine DL.r_asg ?_ | with_reducible refine DL.r_drop ?_ | with_reducible refine DL.r_c ?_ | with_reducible refine DL.r_nil ?_ | with_reducible refine DL.r_cons ?_ | with_reducible refine DL.r_op ?_ | with_reducible refine DL.r_cb ?_ | with_reducible refine DL.r_ofL ?_ | with_reducible refine DL.r_lst ?_ | with_reducible refine DL.r_tup ?_ | with_reducible refine DL.r_b ?_ | with_reducible refine DL.r_not ?_ | with_reducible refine DL.r_and ?_ | with_reducible refine DL.r_or ?_ | with_reducible refine DL.r_andV ?_ | with_reducible refine DL.r_orV ?_ | with_reducible refine DL.r_notV ?_ | with_reducible refine DL.r_neg ?_ | with_reducible refine DL.r_par ?_ | with_reducible refine DL.r_par3 ?_ | with_reducible refine DL.r_gname ?_ | with_reducible refine DL.r_callO ?_ | (with_reducible apply DL.r_var; focus exact rfl) | with_reducible refine DL.r_if1 ?_ | with_reducible refine DL.r_if0 ?_)
      exact ⟨noSlots_cons rfl (noSlots_cons ha rfl), (show 1 ≤ 1000 by decide), wd, [a], rfl, hps, q⟩
  | [a, a1], _ =>
    have ha : a.isSlot = false := okW_slot (List.all_eq_true.mp hall.2 a (by simp))
    have ha1 : a1.isSlot = false := okW_slot (List.all_eq_true.mp hall.2 a1 (by simp))
    rw [r2 (by simp)]
    repeat (first | with_reducible refine DL.r_seq ?_ | with_reducible refine DL.r_next ?_ | with_reducible refine DL.r_ret ?_ | with_reducible refine DL.r_ifS ?_ | with_reducible refine DL.r_asg ?_ | with_reducible refine DL.r_drop ?_ | with_reducible refine DL.r_c ?_ | with_reducible refine DL.r_nil ?_ | with_reducible refine DL.r_cons ?_ | with_reducible refine DL.r_op ?_ | with_reducible refine DL.r_cb ?_ | with_reducible refine DL.r_ofL ?_ | with_reducible refine DL.r_lst ?_ | with_reducible refine DL.r_tup ?_ | with_reducible refine DL.r_b ?_ | with_reducible refine DL.r_not ?_ | with_reducible refine DL.r_and ?_ | with_reducible refine DL.r_or ?_ | with_reducible refine DL.r_andV ?_ | with_reducible refine DL.r_orV ?_ | with_reducible refine DL.r_notV ?_ | with_reducible refine DL.r_neg ?_ | with_reducible refine DL.r_par ?_ | with_reducible refine DL.r_par3 ?_ | with_reducible refine DL.r_gname ?_ | with_reducible refine DL.r_callO ?_ | (with_reducible apply DL.r_var; focus exact rfl) | with_reducible refine DL.r_if1 ?_ | with_reducible refine DL.r_if0 ?_)
    refine r_var rfl ?_
    repeat (first | with_reducible refine DL.r_seq ?_ | with_reducible refine DL.r_next ?_ | with_reducible refine DL.r_ret ?_ | with_reducible refine DL.r_ifS ?_ | with_reducible refine DL.r_asg ?_ | with_reducible refine DL.r_drop ?_ | with_reducible refine DL.r_c ?_ | with_reducible refine DL.r_nil ?_ | with_reducible refine DL.r_cons ?_ | with_reducible refine DL.r_op ?_ | with_reducible refine DL.r_cb ?_ | with_reducible refine DL.r_ofL ?_ | with_reducible refine DL.r_lst ?_ | with_reducible refine DL.r_tup ?_ | with_reducible refine DL.r_b ?_ | with_reducible refine DL.r_not ?_ | with_reducible refine DL.r_and ?_ | with_reducible refine DL.r_or ?_ | with_reducible refine DL.r_andV ?_ | with_reducible refine DL.r_orV ?_ | with_reducible refine DL.r_notV ?_ | with_reducible refine DL.r_neg ?_ | with_reducible refine DL.r_par ?_ | with_reducible refine DL.r_par3 ?_ | with_reducible refine DL.r_gname ?_ | with_reducible refine DL.r_callO ?_ | (with_reducible apply DL.r_var; focus exact rfl) | with_reducible refine DL.r_if1 ?_ | with_reducible refine DL.r_if0 ?_)
    refine k_len ?_
    repeat (first | with_reducible refine DL.r_seq ?_ | with_reducible refine DL.r_next ?_ | with_reducible refine DL.r_ret ?_ | with_reducible refine DL.r_ifS ?_ | with_reducible refine DL.r_asg ?_ | with_reducible refine DL.r_drop ?_ | with_reducible refine DL.r_c ?_ | with_reducible refine DL.r_nil ?_ | with_reducible refine DL.r_cons ?_ | with_reducible refine DL.r_op ?_ | with_reducible refine DL.r_cb ?_ | with_reducible refine DL.r_ofL ?_ | with_reducible refine DL.r_lst ?_ | with_reducible refine DL.r_tup ?_ | with_reducible refine DL.r_b ?_ | with_reducible refine DL.r_not ?_ | with_reducible refine DL.r_and ?_ | with_reducible refine DL.r_or ?_ | with_reducible refine DL.r_andV ?_ | with_reducible refine DL.r_orV ?_ | with_reducible refine DL.r_notV ?_ | with_reducible refine DL.r_neg ?_ | with_reducible refine DL.r_par ?_ | with_reducible refine DL.r_par3 ?_ | with_reducible refine DL.r_gname ?_ | with_reducible refine DL.r_callO ?_ | (with_reducible apply DL.r_var; focus exact rfl) | with_reducible refine DL.r_if1 ?_ | with_reducible refine DL.r_if0 ?_)
    refine eq_int ?_
    refine r_if0 ?_
    repeat (first | with_reducible refine DL.r_seq ?_ | with_reducible refine DL.r_next ?_ | with_reducible refine DL.r_ret ?_ | with_reducible refine DL.r_ifS ?_ | with_reducible refine DL.r_asg ?_ | with_reducible refine DL.r_drop ?_ | with_reducible refine DL.r_c ?_ | with_reducible refine DL.r_nil ?_ | with_reducible refine DL.r_cons ?_ | with_reducible refine DL.r_op ?_ | with_reducible refine DL.r_cb ?_ | with_reducible refine DL.r_ofL ?_ | with_reducible refine DL.r_lst ?_ | with_reducible refine DL.r_tup ?_ | with_reducible refine DL.r_b ?_ | with_reducible refine DL.r_not ?_ | with_reducible refine DL.r_and ?_ | with_reducible refine DL.r_or ?_ | with_reducible refine DL.r_andV ?_ | with_reducible refine DL.r_orV ?_ | with_reducible refine DL.r_notV ?_ | with_reducible refine DL.r_neg ?_ | with_reducible refine DL.r_par ?_ | with_reducible refine DL.r_par3 ?_ | with_reducible refine DL.r_gname ?_ | with_reducible refine DL.r_callO ?_ | (with_reducible apply DL.r_var; focus exact rfl) | with_reducible refine DL.r_if1 ?_ | with_reducible refine DL.r_if0 ?_)
    refine r_var rfl ?_
    repeat (first | with_reducible refine DL.r_seq ?_ | with_reducible refine DL.r_next ?_ | with_reducible refine DL.r_ret ?_ | with_reducible refine DL.r_ifS ?_ | with_reducible refine DL.r_asg ?_ | with_reducible refine DL.r_drop ?_ | with_reducible refine DL.r_c ?_ | with_reducible refine DL.r_nil ?_ | with_reducible refine DL.r_cons ?_ | with_reducible refine DL.r_op ?_ | with_reducible refine DL.r_cb ?_ | with_reducible refine DL.r_ofL ?_ | with_reducible refine DL.r_lst ?_ | with_reducible refine DL.r_tup ?_ | with_reducible refine DL.r_b ?_ | with_reducible refine DL.r_not ?_ | with_reducible refine DL.r_and ?_ | with_reducible refine DL.r_or ?_ | with_reducible refine DL.r_andV ?_ | with_reducible refine DL.r_orV ?_ | with_reducible refine DL.r_notV ?_ | with_reducible refine DL.r_neg ?_ | with_reducible refine DL.r_par ?_ | with_reducible refine DL.r_par3 ?_ | with_reducible refine DL.r_gname ?_ | with_reducible refine DL.r_callO ?_ | (with_reducible apply DL.r_var; focus exact rfl) | with_reducible refine DL.r_if1 ?_ | with_reducible refine DL.r_if0 ?_)
    refine k_len ?_
    repeat (first | with_reducible refine DL.r_seq ?_ | with_reducible refine DL.r_next ?_ | with_reducible refine DL.r_ret ?_ | with_reducible refine DL.r_ifS ?_ | with_reducible refine DL.r_asg ?_ | with_reducible refine DL.r_drop ?_ | with_reducible refine DL.r_c ?_ | with_reducible refine DL.r_nil ?_ | with_reducible refine DL.r_cons ?_ | with_reducible refine DL.r_op ?_ | with_reducible refine DL.r_cb ?_ | with_reducible refine DL.r_ofL ?_ | with_reducible refine DL.r_lst ?_ | with_reducible refine DL.r_tup ?_ | with_reducible refine DL.r_b ?_ | with_reducible refine DL.r_not ?_ | with_reducible refine DL.r_and ?_ | with_reducible refine DL.r_or ?_ | with_reducible refine DL.r_andV ?_ | with_reducible refine DL.r_orV ?_ | with_reducible refine DL.r_notV ?_ | with_reducible refine DL.r_neg ?_ | with_reducible refine DL.r_par ?_ | with_reducible refine DL.r_par3 ?_ | with_reducible refine DL.r_gname ?_ | with_reducible refine DL.r_callO ?_ | (with_reducible apply DL.r_var; focus exact rfl) | with_reducible refine DL.r_if1 ?_ | with_reducible refine DL.r_if0 ?_)
    refine eq_int ?_
    refine r_if1 ?_
    repeat (first | with_reducible refine DL.r_seq ?_ | with_reducible refine DL.r_next ?_ | with_reducible refine DL.r_ret ?_ | with_reducible refine DL.r_ifS ?_ | with_reducible refine DL.r_asg ?_ | with_reducible refine DL.r_drop ?_ | with_reducible refine DL.r_c ?_ | with_reducible refine DL.r_nil ?_ | with_reducible refine DL.r_cons ?_ | with_reducible refine DL.r_op ?_ | with_reducible refine DL.r_cb ?_ | with_reducible refine DL.r_ofL ?_ | with_reducible refine DL.r_lst ?_ | with_reducible refine DL.r_tup ?_ | with_reducible refine DL.r_b ?_ | with_reducible refine DL.r_not ?_ | with_reducible refine DL.r_and ?_ | with_reducible refine DL.r_or ?_ | with_reducible refine DL.r_andV ?_ | with_reducible refine DL.r_orV ?_ | with_reducible refine DL.r_notV ?_ | with_reducible refine DL.r_neg ?_ | with_reducible refine DL.r_par ?_ | with_reducible refine DL.r_par3 ?_ | with_reducible refine DL.r_gname ?_ | with_reducible refine DL.r_callO ?_ | (with_reducible apply DL.r_var; focus exact rfl) | with_reducible refine DL.r_if1 ?_ | with_reducible refine DL.r_if0 ?_)
    unfold dIf
    repeat (first | with_reducible refine DL.r_seq ?_ | with_reducible refine DL.r_next ?_ | with_reducible refine DL.r_ret ?_ | with_reducible refine DL.r_ifS ?_ | with_reducible refine DL.r_asg ?_ | with_reducible refine DL.r_drop ?_ | with_reducible refine DL.r_c ?_ | with_reducible refine DL.r_nil ?_ | with_reducible refine DL.r_cons ?_ | with_reducible refine DL.r_op ?_ | with_reducible refine DL.r_cb ?_ | with_reducible refine DL.r_ofL ?_ | with_reducible refine DL.r_lst ?_ | with_reducible refine DL.r_tup ?_ | with_reducible refine DL.r_b ?_ | with_reducible refine DL.r_not ?_ | with_reducible refine DL.r_and ?_ | with_reducible refine DL.r_or ?_ | with_reducible refine DL.r_andV ?_ | with_reducible refine DL.r_orV ?_ | with_reducible refine DL.r_notV ?_ | with_reducible refine DL.r_neg ?_ | with_reducible refine DL.r_par ?_ | with_reducible refine DL.r_par3 ?_ | with_reducible refine DL.r_gname ?_ | with_reducible refine DL.r_callO ?_ | (with_reducible apply DL.r_var; focus exact rfl) | with_reducible refine DL.r_if1 ?_ | with_reducible refine DL.r_if0 ?_)
    cases den
    all_goals
      refine r_var rfl ?_
      first | refine r_if1 ?_ | refine r_if0 ?_
      refine k_makeS ?_
      repeat (first | with_reducible refine DL.r_seq ?_ | with_reducible refine DL.r_next ?_ | with_reducible refine DL.r_ret ?_ | with_reducible refine DL.r_ifS ?_ | with_reducible refine DL.r_asg ?_ | with_reducible refine DL.r_drop ?_ | with_reducible refine DL.r_c ?_ | with_reducible refine DL.r_nil ?_ | with_reducible refine DL.r_cons ?_ | with_reducible refine DL.r_op ?_ | with_reducible refine DL.r_cb ?_ | with_reducible refine DL.r_ofL ?_ | with_reducible refine DL.r_lst ?_ | with_reducible refine DL.r_tup ?_ | with_reducible refine DL.r_b ?_ | with_reducible refine DL.r_not ?_ | with_reducible refine DL.r_and ?_ | with_reducible refine DL.r_or ?_ | with_reducible refine DL.r_andV ?_ | with_reducible refine DL.r_orV ?_ | with_reducible refine DL.r_notV ?_ | with_reducible refine DL.r_neg ?_ | with_reducible refine DL.r_par ?_ | with_reducible refine DL.r_par3 ?_ | with_reducible refine DL.r_gname ?_ | with_reducible refine DL.r_callO ?_ | (with_reducible apply DL.r_var; focus exact rfl) | with_reducible refine DL.r_if1 ?_ | with_reducible refine DL.r_if0 ?_)
      repeat (refine r_var rfl ?_; (repeat (first | with_reducible refine DL.r_seq ?_ | with_reducible refine DL.r_next ?_ | with_reducible refine DL.r_ret ?_ | with_reducible refine DL.r_ifS ?_ | with_reducible refine DL.r_asg ?_ | with_reducible refine DL.r_drop ?_ | with_reducible refine DL.r_c ?_ | with_reducible refine DL.r_nil ?_ | with_reducible refine DL.r_cons ?_ | with_reducible refine DL.r_op ?_ | with_reducible refine DL.r_cb ?_ | with_reducible refine DL.r_ofL ?_ | with_reducible refine DL.r_lst ?_ | with_reducible refine DL.r_tup ?_ | with_reducible refine DL.r_b ?_ | with_reducible refine DL.r_not ?_ | with_reducible refine DL.r_and ?_ | with_reducible refine DL.r_or ?_ | with_reducible refine DL.r_andV ?_ | with_reducible refine DL.r_orV ?_ | with_reducible refine DL.r_notV ?_ | with_reducible refine DL.r_neg ?_ | with_reducible refine DL.r_par ?_ | with_reducible refine DL.r_par3 ?_ | with_reducible refine DL.r_gname ?_ | with_reducible refine DL.r_callO ?_ | (with_reducible apply DL.r_var; focus exact rfl) | with_reducible refine DL.r_if1 ?_ | with_reducible refine DL.r_if0 ?_)))
      refine k_ix (xs := [a, a1]) (i := 0) rfl ha ?_
      repeat (first | with_reducible refine DL.r_seq ?_ | with_reducible refine DL.r_next ?_ | with_reducible refine DL.r_ret ?_ | with_reducible refine DL.r_ifS ?_ | with_reducible refine DL.r_asg ?_ | with_reducible refine DL.r_drop ?_ | with_reducible refine DL.r_c ?_ | with_reducible refine DL.r_nil ?_ | with_reducible refine DL.r_cons ?_ | with_reducible refine DL.r_op ?_ | with_reducible refine DL.r_cb ?_ | with_reducible refine DL.r_ofL ?_ | with_reducible refine DL.r_lst ?_ | with_reducible refine DL.r_tup ?_ | with_reducible refine DL.r_b ?_ | with_reducible refine DL.r_not ?_ | with_reducible refine DL.r_and ?_ | with_reducible refine DL.r_or ?_ | with_reducible refine DL.r_andV ?_ | with_reducible refine DL.r_orV ?_ | with_reducible refine DL.r_notV ?_ | with_reducible refine DL.r_neg ?_ | with_reducible refine DL.r_par ?_ | with_reducible refine DL.r_par3 ?_ | with_reducible refine DL.r_gname ?_ | with_reducible refine DL.r_callO ?_ | (with_reducible apply DL.r_var; focus exact rfl) | with_reducible refine DL.r_if1 ?_ | with_reducible refine DL.r_if0 ?_)
      repeat (refine r_var rfl ?_; (repeat (first | with_reducible refine DL.r_seq ?_ | with_reducible refine DL.r_next ?_ | with_reducible refine DL.r_ret ?_ | with_reducible refine DL.r_ifS ?_ | with_reducible refine DL.r_asg ?_ | with_reducible refine DL.r_drop ?_ | with_reducible refine DL.r_c ?_ | with_reducible refine DL.r_nil ?_ | with_reducible refine DL.r_cons ?_ | with_reducible refine DL.r_op ?_ | with_reducible refine DL.r_cb ?_ | with_reducible refine DL.r_ofL ?_ | with_reducible refine DL.r_lst ?_ | with_reducible refine DL.r_tup ?_ | with_reducible refine DL.r_b ?_ | with_reducible refine DL.r_not ?_ | with_reducible refine DL.r_and ?_ | with_reducible refine DL.r_or ?_ | with_reducible refine DL.r_andV ?_ | with_reducible refine DL.r_orV ?_ | with_reducible refine DL.r_notV ?_ | with_reducible refine DL.r_neg ?_ | with_reducible refine DL.r_par ?_ | with_reducible refine DL.r_par3 ?_ | with_reducible refine DL.r_gname ?_ | with_reducible refine DL.r_callO ?_ | (with_reducible apply DL.r_var; focus exact rfl) | with_reducible refine DL.r_if1 ?_ | with_reducible refine DL.r_if0 ?_)))
      refine k_ix (xs := [a, a1]) (i := 1) rfl ha1 ?_
      repeat (first | with_reducible refine DL.r_seq ?_ | with_reducible refine DL.r_next ?_ | with_reducible refine DL.r_ret ?_ | with_reducible refine DL.r_ifS ?_ | with_reducible refine DL.r_asg ?_ | with_reducible refine DL.r_drop ?_ | with_reducible refine DL.r_c ?_ | with_reducible refine DL.r_nil ?_ | with_reducible refine DL.r_cons ?_ | with_reducible refine DL.r_op ?_ | with_reducible refine DL.r_cb ?_ | with_reducible refine DL.r_ofL ?_ | with_reducible refine DL.r_lst ?_ | with_reducible refine DL.r_tup ?_ | with_reducible refine DL.r_b ?_ | with_reducible refine DL.r_not ?_ | with_reducible refine DL.r_and ?_ | with_reducible refine DL.r_or ?_ | with_reducible refine DL.r_andV ?_ | with_reducible refine DL.r_orV ?_ | with_reducible refine DL.r_notV ?_ | with_reducible refine DL.r_neg ?_ | with_reducible refine DL.r_par ?_ | with_reducible refine DL.r_par3 ?_ | with_reducible refine DL.r_gname ?_ | with_reducible refine DL.r_callO ?_ | (with_reducible apply DL.r_var; focus exact rfl) | with_reducible refine DL.r_if1 ?_ | with_reducible refine DL.r_if0 ?_)
      exact ⟨noSlots_cons rfl (noSlots_cons ha (noSlots_cons ha1 rfl)), (show 2 ≤ 1000 by decide), wd, [a, a1], rfl, hps, q⟩
  | [a, a1, a2], _ =>
    have ha : a.isSlot = false := okW_slot (List.all_eq_true.mp hall.2 a (by simp))
    have ha1 : a1.isSlot = false := okW_slot (List.all_eq_true.mp hall.2 a1 (by simp))
    have ha2 : a2.isSlot = false := okW_slot (List.all_eq_true.mp hall.2 a2 (by simp))
    rw [r2 (by simp)]
    repeat (first | with_reducible refine DL.r_seq ?_ | with_reducible refine DL.r_next ?_ | with_reducible refine DL.r_ret ?_ | with_reducible refine DL.r_ifS ?_ | with_reducible refine DL.r_asg ?_ | with_reducible refine DL.r_drop ?_ | with_reducible refine DL.r_c ?_ | with_reducible refine DL.r_nil ?_ | with_reducible refine DL.r_cons ?_ | with_reducible refine DL.r_op ?_ | with_reducible refine DL.r_cb ?_ | with_reducible refine DL.r_ofL ?_ | with_reducible refine DL.r_lst ?_ | with_reducible refine DL.r_tup ?_ | with_reducible refine DL.r_b ?_ | with_reducible refine DL.r_not ?_ | with_reducible refine DL.r_and ?_ | with_reducible refine DL.r_or ?_ | with_reducible refine DL.r_andV ?_ | with_reducible refine DL.r_orV ?_ | with_reducible refine DL.r_notV ?_ | with_reducible refine DL.r_neg ?_ | with_reducible refine DL.r_par ?_ | with_reducible refine DL.r_par3 ?_ | with_reducible refine DL.r_gname ?_ | with_reducible refine DL.r_callO ?_ | (with_reducible apply DL.r_var; focus exact rfl) | with_reducible refine DL.r_if1 ?_ | with_reducible refine DL.r_if0 ?_)
    refine r_var rfl ?_
    repeat (first | with_reducible refine DL.r_seq ?_ | with_reducible refine DL.r_next ?_ | with_reducible refine DL.r_ret ?_ | with_reducible refine DL.r_ifS ?_ | with_reducible refine DL.r_asg ?_ | with_reducible refine DL.r_drop ?_ | with_reducible refine DL.r_c ?_ | with_reducible refine DL.r_nil ?_ | with_reducible refine DL.r_cons ?_ | with_reducible refine DL.r_op ?_ | with_reducible refine DL.r_cb ?_ | with_reducible refine DL.r_ofL ?_ | with_reducible refine DL.r_lst ?_ | with_reducible refine DL.r_tup ?_ | with_reducible refine DL.r_b ?_ | with_reducible refine DL.r_not ?_ | with_reducible refine DL.r_and ?_ | with_reducible refine DL.r_or ?_ | with_reducible refine DL.r_andV ?_ | with_reducible refine DL.r_orV ?_ | with_reducible refine DL.r_notV ?_ | with_reducible refine DL.r_neg ?_ | with_reducible refine DL.r_par ?_ | with_reducible refine DL.r_par3 ?_ | with_reducible refine DL.r_gname ?_ | with_reducible refine DL.r_callO ?_ | (with_reducible apply DL.r_var; focus exact rfl) | with_reducible refine DL.r_if1 ?_ | with_reducible refine DL.r_if0 ?_)
    refine k_len ?_
    repeat (first | with_reducible refine DL.r_seq ?_ | with_reducible refine DL.r_next ?_ | with_reducible refine DL.r_ret ?_ | with_reducible refine DL.r_ifS ?_ | with_reducible refine DL.r_asg ?_ | with_reducible refine DL.r_drop ?_ | with_reducible refine DL.r_c ?_ | with_reducible refine DL.r_nil ?_ | with_reducible refine DL.r_cons ?_ | with_reducible refine DL.r_op ?_ | with_reducible refine DL.r_cb ?_ | with_reducible refine DL.r_ofL ?_ | with_reducible refine DL.r_lst ?_ | with_reducible refine DL.r_tup ?_ | with_reducible refine DL.r_b ?_ | with_reducible refine DL.r_not ?_ | with_reducible refine DL.r_and ?_ | with_reducible refine DL.r_or ?_ | with_reducible refine DL.r_andV ?_ | with_reducible refine DL.r_orV ?_ | with_reducible refine DL.r_notV ?_ | with_reducible refine DL.r_neg ?_ | with_reducible refine DL.r_par ?_ | with_reducible refine DL.r_par3 ?_ | with_reducible refine DL.r_gname ?_ | with_reducible refine DL.r_callO ?_ | (with_reducible apply DL.r_var; focus exact rfl) | with_reducible refine DL.r_if1 ?_ | with_reducible refine DL.r_if0 ?_)
    refine eq_int ?_
    refine r_if0 ?_
    repeat (first | with_reducible refine DL.r_seq ?_ | with_reducible refine DL.r_next ?_ | with_reducible refine DL.r_ret ?_ | with_reducible refine DL.r_ifS ?_ | with_reducible refine DL.r_asg ?_ | with_reducible refine DL.r_drop ?_ | with_reducible refine DL.r_c ?_ | with_reducible refine DL.r_nil ?_ | with_reducible refine DL.r_cons ?_ | with_reducible refine DL.r_op ?_ | with_reducible refine DL.r_cb ?_ | with_reducible refine DL.r_ofL ?_ | with_reducible refine DL.r_lst ?_ | with_reducible refine DL.r_tup ?_ | with_reducible refine DL.r_b ?_ | with_reducible refine DL.r_not ?_ | with_reducible refine DL.r_and ?_ | with_reducible refine DL.r_or ?_ | with_reducible refine DL.r_andV ?_ | with_reducible refine DL.r_orV ?_ | with_reducible refine DL.r_notV ?_ | with_reducible refine DL.r_neg ?_ | with_reducible refine DL.r_par ?_ | with_reducible refine DL.r_par3 ?_ | with_reducible refine DL.r_gname ?_ | with_reducible refine DL.r_callO ?_ | (with_reducible apply DL.r_var; focus exact rfl) | with_reducible refine DL.r_if1 ?_ | with_reducible refine DL.r_if0 ?_)
    refine r_var rfl ?_
    repeat (first | with_reducible refine DL.r_seq ?_ | with_reducible refine DL.r_next ?_ | with_reducible refine DL.r_ret ?_ | with_reducible refine DL.r_ifS ?_ | with_reducible refine DL.r_asg ?_ | with_reducible refine DL.r_drop ?_ | with_reducible refine DL.r_c ?_ | with_reducible refine DL.r_nil ?_ | with_reducible refine DL.r_cons ?_ | with_reducible refine DL.r_op ?_ | with_reducible refine DL.r_cb ?_ | with_reducible refine DL.r_ofL ?_ | with_reducible refine DL.r_lst ?_ | with_reducible refine DL.r_tup ?_ | with_reducible refine DL.r_b ?_ | with_reducible refine DL.r_not ?_ | with_reducible refine DL.r_and ?_ | with_reducible refine DL.r_or ?_ | with_reducible refine DL.r_andV ?_ | with_reducible refine DL.r_orV ?_ | with_reducible refine DL.r_notV ?_ | with_reducible refine DL.r_neg ?_ | with_reducible refine DL.r_par ?_ | with_reducible refine DL.r_par3 ?_ | with_reducible refine DL.r_gname ?_ | with_reducible refine DL.r_callO ?_ | (with_reducible apply DL.r_var; focus exact rfl) | with_reducible refine DL.r_if1 ?_ | with_reducible refine DL.r_if0 ?_)
    refine k_len ?_
    repeat (first | with_reducible refine DL.r_seq ?_ | with_reducible refine DL.r_next ?_ | with_reducible refine DL.r_ret ?_ | with_reducible refine DL.r_ifS ?_ | with_reducible refine DL.r_asg ?_ | with_reducible refine DL.r_drop ?_ | with_reducible refine DL.r_c ?_ | with_reducible refine DL.r_nil ?_ | with_reducible refine DL.r_cons ?_ | with_reducible refine DL.r_op ?_ | with_reducible refine DL.r_cb ?_ | with_reducible refine DL.r_ofL ?_ | with_reducible refine DL.r_lst ?_ | with_reducible refine DL.r_tup ?_ | with_reducible refine DL.r_b ?_ | with_reducible refine DL.r_not ?_ | with_reducible refine DL.r_and ?_ | with_reducible refine DL.r_or ?_ | with_reducible refine DL.r_andV ?_ | with_reducible refine DL.r_orV ?_ | with_reducible refine DL.r_notV ?_ | with_reducible refine DL.r_neg ?_ | with_reducible refine DL.r_par ?_ | with_reducible refine DL.r_par3 ?_ | with_reducible refine DL.r_gname ?_ | with_reducible refine DL.r_callO ?_ | (with_reducible apply DL.r_var; focus exact rfl) | with_reducible refine DL.r_if1 ?_ | with_reducible refine DL.r_if0 ?_)
    refine eq_int ?_
    refine r_if0 ?_
    repeat (first | with_reducible refine DL.r_seq ?_ | with_reducible refine DL.r_next ?_ | with_reducible refine DL.r_ret ?_ | with_reducible refine DL.r_ifS ?_ | with_reducible refine DL.r_asg ?_ | with_reducible refine DL.r_drop ?_ | with_reducible refine DL.r_c ?_ | with_reducible refine DL.r_nil ?_ | with_reducible refine DL.r_cons ?_ | with_reducible refine DL.r_op ?_ | with_reducible refine DL.r_cb ?_ | with_reducible refine DL.r_ofL ?_ | with_reducible refine DL.r_lst ?_ | with_reducible refine DL.r_tup ?_ | with_reducible refine DL.r_b ?_ | with_reducible refine DL.r_not ?_ | with_reducible refine DL.r_and ?_ | with_reducible refine DL.r_or ?_ | with_reducible refine DL.r_andV ?_ | with_reducible refine DL.r_orV ?_ | with_reducible refine DL.r_notV ?_ | with_reducible refine DL.r_neg ?_ | with_reducible refine DL.r_par ?_ | with_reducible refine DL.r_par3 ?_ | with_reducible refine DL.r_gname ?_ | with_reducible refine DL.r_callO ?_ | (with_reducible apply DL.r_var; focus exact rfl) | with_reducible refine DL.r_if1 ?_ | with_reducible refine DL.r_if0 ?_)
    unfold dIf
    repeat (first | with_reducible refine DL.r_seq ?_ | with_reducible refine DL.r_next ?_ | with_reducible refine DL.r_ret ?_ | with_reducible refine DL.r_ifS ?_ | with_reducible refine DL.r_asg ?_ | with_reducible refine DL.r_drop ?_ | with_reducible refine DL.r_c ?_ | with_reducible refine DL.r_nil ?_ | with_reducible refine DL.r_cons ?_ | with_reducible refine DL.r_op ?_ | with_reducible refine DL.r_cb ?_ | with_reducible refine DL.r_ofL ?_ | with_reducible refine DL.r_lst ?_ | with_reducible refine DL.r_tup ?_ | with_reducible refine DL.r_b ?_ | with_reducible refine DL.r_not ?_ | with_reducible refine DL.r_and ?_ | with_reducible refine DL.r_or ?_ | with_reducible refine DL.r_andV ?_ | with_reducible refine DL.r_orV ?_ | with_reducible refine DL.r_notV ?_ | with_reducible refine DL.r_neg ?_ | with_reducible refine DL.r_par ?_ | with_reducible refine DL.r_par3 ?_ | with_reducible refine DL.r_gname ?_ | with_reducible refine DL.r_callO ?_ | (with_reducible apply DL.r_var; focus exact rfl) | with_reducible refine DL.r_if1 ?_ | with_reducible refine DL.r_if0 ?_)
    cases den
    all_goals
      refine r_var rfl ?_
      first | refine r_if1 ?_ | refine r_if0 ?_
      refine k_makeS ?_
      repeat (first | with_reducible refine DL.r_seq ?_ | with_reducible refine DL.r_next ?_ | with_reducible refine DL.r_ret ?_ | with_reducible refine DL.r_ifS ?_ | with_reducible refine DL.r_asg ?_ | with_reducible refine DL.r_drop ?_ | with_reducible refine DL.r_c ?_ | with_reducible refine DL.r_nil ?_ | with_reducible refine DL.r_cons ?_ | with_reducible refine DL.r_op ?_ | with_reducible refine DL.r_cb ?_ | with_reducible refine DL.r_ofL ?_ | with_reducible refine DL.r_lst ?_ | with_reducible refine DL.r_tup ?_ | with_reducible refine DL.r_b ?_ | with_reducible refine DL.r_not ?_ | with_reducible refine DL.r_and ?_ | with_reducible refine DL.r_or ?_ | with_reducible refine DL.r_andV ?_ | with_reducible refine DL.r_orV ?_ | with_reducible refine DL.r_notV ?_ | with_reducible refine DL.r_neg ?_ | with_reducible refine DL.r_par ?_ | with_reducible refine DL.r_par3 ?_ | with_reducible refine DL.r_gname ?_ | with_reducible refine DL.r_callO ?_ | (with_reducible apply DL.r_var; focus exact rfl) | with_reducible refine DL.r_if1 ?_ | with_reducible refine DL.r_if0 ?_)
      repeat (refine r_var rfl ?_; (repeat (first | with_reducible refine DL.r_seq ?_ | with_reducible refine DL.r_next ?_ | with_reducible refine DL.r_ret ?_ | with_reducible refine DL.r_ifS ?_ | with_reducible refine DL.r_asg ?_ | with_reducible refine DL.r_drop ?_ | with_reducible refine DL.r_c ?_ | with_reducible refine DL.r_nil ?_ | with_reducible refine DL.r_cons ?_ | with_reducible refine DL.r_op ?_ | with_reducible refine DL.r_cb ?_ | with_reducible refine DL.r_ofL ?_ | with_reducible refine DL.r_lst ?_ | with_reducible refine DL.r_tup ?_ | with_reducible refine DL.r_b ?_ | with_reducible refine DL.r_not ?_ | with_reducible refine DL.r_and ?_ | with_reducible refine DL.r_or ?_ | with_reducible refine DL.r_andV ?_ | with_reducible refine DL.r_orV ?_ | with_reducible refine DL.r_notV ?_ | with_reducible refine DL.r_neg ?_ | with_reducible refine DL.r_par ?_ | with_reducible refine DL.r_par3 ?_ | with_reducible refine DL.r_gname ?_ | with_reducible refine DL.r_callO ?_ | (with_reducible apply DL.r_var; focus exact rfl) | with_reducible refine DL.r_if1 ?_ | with_reducible refine DL.r_if0 ?_)))
      refine k_ix (xs := [a, a1, a2]) (i := 0) rfl ha ?_
      repeat (first | with_reducible refine DL.r_seq ?_ | with_reducible refine DL.r_next ?_ | with_reducible refine DL.r_ret ?_ | with_reducible refine DL.r_ifS ?_ | with_reducible refine DL.r_asg ?_ | with_reducible refine DL.r_drop ?_ | with_reducible refine DL.r_c ?_ | with_reducible refine DL.r_nil ?_ | with_reducible refine DL.r_cons ?_ | with_reducible refine DL.r_op ?_ | with_reducible refine DL.r_cb ?_ | with_reducible refine DL.r_ofL ?_ | with_reducible refine DL.r_lst ?_ | with_reducible refine DL.r_tup ?_ | with_reducible refine DL.r_b ?_ | with_reducible refine DL.r_not ?_ | with_reducible refine DL.r_and ?_ | with_reducible refine DL.r_or ?_ | with_reducible refine DL.r_andV ?_ | with_reducible refine DL.r_orV ?_ | with_reducible refine DL.r_notV ?_ | with_reducible refine DL.r_neg ?_ | with_reducible refine DL.r_par ?_ | with_reducible refine DL.r_par3 ?_ | with_reducible refine DL.r_gname ?_ | with_reducible refine DL.r_callO ?_ | (with_reducible apply DL.r_var; focus exact rfl) | with_reducible refine DL.r_if1 ?_ | with_reducible refine DL.r_if0 ?_)
      repeat (refine r_var rfl ?_; (repeat (first | with_reducible refine DL.r_seq ?_ | with_reducible refine DL.r_next ?_ | with_reducible refine DL.r_ret ?_ | with_reducible refine DL.r_ifS ?_ | with_reducible refine DL.r_asg ?_ | with_reducible refine DL.r_drop ?_ | with_reducible refine DL.r_c ?_ | with_reducible refine DL.r_nil ?_ | with_reducible refine DL.r_cons ?_ | with_reducible refine DL.r_op ?_ | with_reducible refine DL.r_cb ?_ | with_reducible refine DL.r_ofL ?_ | with_reducible refine DL.r_lst ?_ | with_reducible refine DL.r_tup ?_ | with_reducible refine DL.r_b ?_ | with_reducible refine DL.r_not ?_ | with_reducible refine DL.r_and ?_ | with_reducible refine DL.r_or ?_ | with_reducible refine DL.r_andV ?_ | with_reducible refine DL.r_orV ?_ | with_reducible refine DL.r_notV ?_ | with_reducible refine DL.r_neg ?_ | with_reducible refine DL.r_par ?_ | with_reducible refine DL.r_par3 ?_ | with_reducible refine DL.r_gname ?_ | with_reducible refine DL.r_callO ?_ | (with_reducible apply DL.r_var; focus exact rfl) | with_reducible refine DL.r_if1 ?_ | with_reducible refine DL.r_if0 ?_)))
      refine k_ix (xs := [a, a1, a2]) (i := 1) rfl ha1 ?_
      repeat (first | with_reducible refine DL.r_seq ?_ | with_reducible refine DL.r_next ?_ | with_reducible refine DL.r_ret ?_ | with_reducible refine DL.r_ifS ?_ | with_reducible refine DL.r_asg ?_ | with_reducible refine DL.r_drop ?_ | with_reducible refine DL.r_c ?_ | with_reducible refine DL.r_nil ?_ | with_reducible refine DL.r_cons ?_ | with_reducible refine DL.r_op ?_ | with_reducible refine DL.r_cb ?_ | with_reducible refine DL.r_ofL ?_ | with_reducible refine DL.r_lst ?_ | with_reducible refine DL.r_tup ?_ | with_reducible refine DL.r_b ?_ | with_reducible refine DL.r_not ?_ | with_reducible refine DL.r_and ?_ | with_reducible refine DL.r_or ?_ | with_reducible refine DL.r_andV ?_ | with_reducible refine DL.r_orV ?_ | with_reducible refine DL.r_notV ?_ | with_reducible refine DL.r_neg ?_ | with_reducible refine DL.r_par ?_ | with_reducible refine DL.r_par3 ?_ | with_reducible refine DL.r_gname ?_ | with_reducible refine DL.r_callO ?_ | (with_reducible apply DL.r_var; focus exact rfl) | with_reducible refine DL.r_if1 ?_ | with_reducible refine DL.r_if0 ?_)
      repeat (refine r_var rfl ?_; (repeat (first | with_reducible refine DL.r_seq ?_ | with_reducible refine DL.r_next ?_ | with_reducible refine DL.r_ret ?_ | with_reducible refine DL.r_ifS ?_ | with_reducible refine DL.r_asg ?_ | with_reducible refine DL.r_drop ?_ | with_reducible refine DL.r_c ?_ | with_reducible refine DL.r_nil ?_ | with_reducible refine DL.r_cons ?_ | with_reducible refine DL.r_op ?_ | with_reducible refine DL.r_cb ?_ | with_reducible refine DL.r_ofL ?_ | with_reducible refine DL.r_lst ?_ | with_reducible refine DL.r_tup ?_ | with_reducible refine DL.r_b ?_ | with_reducible refine DL.r_not ?_ | with_reducible refine DL.r_and ?_ | with_reducible refine DL.r_or ?_ | with_reducible refine DL.r_andV ?_ | with_reducible refine DL.r_orV ?_ | with_reducible refine DL.r_notV ?_ | with_reducible refine DL.r_neg ?_ | with_reducible refine DL.r_par ?_ | with_reducible refine DL.r_par3 ?_ | with_reducible refine DL.r_gname ?_ | with_reducible refine DL.r_callO ?_ | (with_reducible apply DL.r_var; focus exact rfl) | with_reducible refine DL.r_if1 ?_ | with_reducible refine DL.r_if0 ?_)))
      refine k_ix (xs := [a, a1, a2]) (i := 2) rfl ha2 ?_
      repeat (first | with_reducible refine DL.r_seq ?_ | with_reducible refine DL.r_next ?_ | with_reducible refine DL.r_ret ?_ | with_reducible refine DL.r_ifS ?_ | with_reducible refine DL.r_asg ?_ | with_reducible refine DL.r_drop ?_ | with_reducible refine DL.r_c ?_ | with_reducible refine DL.r_nil ?_ | with_reducible refine DL.r_cons ?_ | with_reducible refine DL.r_op ?_ | with_reducible refine DL.r_cb ?_ | with_reducible refine DL.r_ofL ?_ | with_reducible refine DL.r_lst ?_ | with_reducible refine DL.r_tup ?_ | with_reducible refine DL.r_b ?_ | with_reducible refine DL.r_not ?_ | with_reducible refine DL.r_and ?_ | with_reducible refine DL.r_or ?_ | with_reducible refine DL.r_andV ?_ | with_reducible refine DL.r_orV ?_ | with_reducible refine DL.r_notV ?_ | with_reducible refine DL.r_neg ?_ | with_reducible refine DL.r_par ?_ | with_reducible refine DL.r_par3 ?_ | with_reducible refine DL.r_gname ?_ | with_reducible refine DL.r_callO ?_ | (with_reducible apply DL.r_var; focus exact rfl) | with_reducible refine DL.r_if1 ?_ | with_reducible refine DL.r_if0 ?_)
      exact ⟨noSlots_cons rfl (noSlots_cons ha (noSlots_cons ha1 (noSlots_cons ha2 rfl))), (show 3 ≤ 1000 by decide), wd, [a, a1, a2], rfl, hps, q⟩
end
end K01

namespace K01
open PySem L2 DL DX
structure Txt0 (K : PySem.W.Frag) (mg : Str → Option Value) : Prop where
  b_int : mg "int" = none
  b_abs : mg "abs" = none
  b_len : mg "len" = none
section
variable {P : Program} {w : World} {K : PySem.W.Frag} {mg : Str → Option Value} {base : Heap}
/-! ### the well of draws -/
theorem sc_paw : FnScope ["script", "cell"] ["script"] (defScope s__law_paw) := ⟨rfl, rfl, rfl, by decide +kernel, rfl, by decide +kernel, by decide +kernel⟩
theorem ok_paw {f : Addr} {fd : FuncData} (F : Fun K "_law_paw" "_law_paw" s__law_paw f fd) (T : Txt0 K mg) : FnOk P w K mg base CX0 1 f fd ["script"] (spDen K) := by
  refine F.ok sc_paw (fun vs H Q E h => ?_) (fun cdv A outer s H vs Q E hr h => ?_)
  · obtain ⟨a, ns, rfl, _⟩ := h
    rfl
  · obtain ⟨a, ns, rfl, hS, hlen, k⟩ := h
    have nd := sc_paw.nd
    refine ⟨_, pss_one (ps_ret (pe_lst (pa_cons (pe_lc (own := [("cell", 1)]) (g := gName 1) (tt := tYes) rfl nd (pi_list (pe_slice sl_list (pv 0) po_none (po_some pe_int))) (blkOk_by (N := ["script", "cell"]) (sc := defScope s__law_paw) (by decide +kernel))
      (fun _ _ _ _ _ => pg_name (i := 1) nd rfl (Or.inl rfl)) (fun _ _ _ _ _ => pts_nil) (fun _ _ _ _ _ => pe_callTy call_int1 (by rfl) T.b_int (by decide +kernel) (pa_cons (pv 1) pa_nil))) (pa_cons pe_int (pa_cons pe_int pa_nil))))), ?_⟩
    refine ⟨_, rfl, _, rfl, a, ns.map V.int, rfl, hS, fun c nc => ?_⟩
    have e0 : ∀ xs : List V, cutV xs none (some 63) = (xs.drop 0).take (HT.sIx xs.length xs.length (some 63) - 0) := fun xs => rfl
    generalize hcut : cutV (ns.map V.int) none (some 63) = ys
    obtain ⟨ms, hms, hml⟩ : ∃ ms : List Int, ys = ms.map V.int ∧ ms.length ≤ 63 := by
      refine ⟨ns.take (HT.sIx ns.length ns.length (some 63)), ?_, ?_⟩
      · rw [← hcut, e0, List.drop_zero, List.length_map, Nat.sub_zero, List.map_take]
      · rw [List.length_take]; omega
    subst hms
    refine ⟨_, rfl, ⟨_, SqL.of upd_same⟩, fun D hD => ?_⟩
    have hDc : D ≠ c := fun e => by
      subst e
      rw [upd_same] at hD
      cases hD
    have hD0 : H D = none := by
      rw [upd_ne hDc] at hD
      exact hD
    refine lc_list (K := K) (a := c) (xs := ms.map V.int) (fun i H' => H' = upd (upd H c (.lst (ms.map V.int))) D (.lst ((ms.take i).map V.int))) rfl (fun i H' _ e => ?_) (fun i x H' hx e => ?_) (fun H' e => ?_)
    · subst e
      exact SqL.of ((upd_ne (Ne.symm hDc)).trans upd_same)
    · subst e
      rw [List.getElem?_map] at hx
      cases hm : ms[i]? with
      | none => rw [hm] at hx; cases hx
      | some z =>
        rw [hm] at hx
        cases hx
        refine ⟨rfl, _, rfl, .inl ⟨z, rfl, _, upd_same, ?_, ?_⟩⟩
        · rw [List.length_map, List.length_take]
          exact small1000 (by omega)
        · rw [upd_upd, List.take_add_one, hm, List.map_append]
          rfl
    · subst e
      rw [List.length_map, List.take_length]
      refine ⟨by show 3 ≤ sizeLine; decide, fun p hp => ?_⟩
      have hpD : p ≠ D := fun e => by
        subst e
        rw [upd_same] at hp
        cases hp
      have hpc : p ≠ c := fun e => by
        subst e
        rw [upd_ne hpD, upd_same] at hp
        cases hp
      have hp0 : H p = none := by
        rw [upd_ne hpD, upd_ne hpc] at hp
        exact hp
      refine k p D _ ms (fun b o e => ?_) hp0 hD0 hpD hml ((upd_ne (Ne.symm hpD)).trans upd_same) upd_same
      rw [upd_ne (ne_of_none e hp0), upd_ne (ne_of_none e hD0), upd_ne (ne_of_none e nc)]
      exact e
theorem pe_i1 {X : Cx} {e : Expr} {te : TE} {p pos : Pos} (hm : X.mg "int" = none) (he : PE X e te) (hg : Gl X "int" := by rfl) (hs : starEach [e] X.env = (false, eval e X.env) :: starEach [] X.env := by rfl) (hpl : (backTo pos (starEach [] X.env)).any (·.1) = false := by rfl) :
    PE X (.Call (.Name "int" p) [e] [] pos) (tCB (fun xs H Q => (∃ i, xs = [.int i] ∧ Q (.int i) H) ∨ ∃ k, xs = [.bl k] ∧ Q (.int (if k then 1 else 0)) H) (tCons te tNil)) := pe_callTy call_int1 hg hm (by decide +kernel) (pa_cons he pa_nil hs) (by decide) (by decide) hs hpl
theorem sc_tell : FnScope ["paw", "many", "rest", "turn", "cell", "mixed"] ["paw", "many"] (defScope s__law_tell) := ⟨rfl, rfl, rfl, by decide +kernel, rfl, by decide +kernel, by decide +kernel⟩
theorem ok_tell {f : Addr} {fd : FuncData} (F : Fun K "_law_tell" "_law_tell" s__law_tell f fd) (T : Txt0 K mg) : FnOk P w K mg base CX0 1 f fd ["paw", "many"] (spC K CTell) := by
  refine F.ok sc_tell (okC_len ctell_len) (fun cdv A outer s H vs Q E hr h => ?_)
  obtain ⟨M, pa, pl, ds, b, Qd, r, mp, npl, m0, pw, hc, k⟩ := h
  obtain ⟨n, rfl, n0, n1, hb, q⟩ := hc
  have nd := sc_tell.nd
  have hu := hu_of hr
  have hu64 : (A.deeper (PyProof.Rows.envOfC "_law_tell" (defScope s__law_tell) s.heap.objs.size f cdv)).units + 64 < cLine := by have := hr.un; omega
  cases r with
  | cons r1 r2 =>
  cases r2 with
  | cons r2 r3 =>
  cases r3
  cases r1
  cases r2
  obtain ⟨t, rst, ns, h1, h2, hl, t0, t1, r0⟩ := pw
  have npp : pl ≠ pa := fun e => npl (e ▸ mp)
  -- the well behind a draw
  have fin : ∀ (t' r' v : Int), 0 ≤ t' → t' ≤ t + 1 → 0 ≤ r' → 0 ≤ v → v < n → Q (.int v) (upd H pa (.lst [.ref pl, .int t', .int r'])) := fun t' r' v a1 a2 a3 a4 a5 => by
    refine k (.int v) _ (.int v) (b - 1) (fun a o e ne => (upd_ne ne).trans e) ⟨t', r', ns, upd_same, (upd_ne npp).trans h2, hl, a1, by omega, a3⟩ (.int v) (q v a4 a5)
  obtain ⟨tu, hTail7, htail7⟩ : ∃ tt, PSs (cxOf CX0 P w K mg base ["paw", "many", "rest", "turn", "cell", "mixed"] "_law_tell" (defScope s__law_tell) f cdv A outer s H E).nox ((defBody s__law_tell).drop 7) tt ∧
      ∀ (D : Ends) (o2 o4 : Option V) (m1 : Int) (H2 : Hp), 0 ≤ m1 → m1 < 2147483648 → (∀ v : Int, 0 ≤ v → v < n → D.rt (.int v) H2) → tt D [some (.ref pa), some (.int n), o2, some (.int t), o4, some (.int m1)] H2 := by
    refine ⟨_, (pss_cons (ps_set (i := 5) nd rfl (.inl rfl) (pe_op op_mod (pe_i1 T.b_int (pe_op op_pow (pe_op op_add (pe_op op_add (pe_op op_mul (pv 5) (pe_op op_add (pe_op op_mul pe_int (pv 3)) pe_int)) (pe_op op_mul (pe_op op_mul pe_int (pv 3)) (pv 3))) pe_int) pe_int)) pe_int))
    (pss_one (ps_ret (pe_op op_mod (pe_i1 T.b_int (pe_op op_fdiv (pv 5) pe_int)) (pv 1))))), fun D o2 o4 m1 H2 m0' m1' hD => ?_⟩
    have b1 : m1 * (2 * t + 42744) ≤ 2147483648 * 4194304 := Int.mul_le_mul (by omega) (by omega) (by omega) (by decide)
    have b2 : 0 ≤ m1 * (2 * t + 42744) := Int.mul_nonneg m0' (by omega)
    have b3 : 605752 * t * t ≤ 605752 * 1000000 * 1000000 := Int.mul_le_mul (by omega) (by omega) t0 (by decide)
    have b4 : 0 ≤ 605752 * t * t := Int.mul_nonneg (by omega) t0
    refine ⟨_, rfl, _, rfl, _, t, rfl, rfl, .inl (by decide), _, _, rfl, rfl, m1, _, rfl, rfl, .inl ⟨by omega, by omega⟩, _, rfl, _, t, rfl, rfl, .inl (by decide), _, rfl, _, t, rfl, rfl, .inl ⟨by omega, by omega⟩, _, _, rfl, rfl, _, _, rfl, rfl, _, 3, rfl, rfl, pow3 (by omega) (by omega), .inl ⟨_, rfl, _, _, rfl, rfl, (by show (0 : Int) < _; decide), ?_⟩⟩
    refine ⟨_, rfl, _, _, rfl, rfl, ⟨by decide, by decide⟩, .inl ⟨_, rfl, _, rfl, _, n, rfl, rfl, n0, ?_⟩⟩
    exact hD _ (Int.emod_nonneg _ (by omega)) (Int.emod_lt_of_pos _ n0)
  obtain ⟨tt, hTail, htail⟩ : ∃ tt, PSs (cxOf CX0 P w K mg base ["paw", "many", "rest", "turn", "cell", "mixed"] "_law_tell" (defScope s__law_tell) f cdv A outer s H E).nox ((defBody s__law_tell).drop 6) tt ∧
      ∀ (D : Ends) (o2 o5 : Option V) (cell : Int) (H2 : Hp), (∀ v : Int, 0 ≤ v → v < n → D.rt (.int v) H2) → tt D [some (.ref pa), some (.int n), o2, some (.int t), some (.int cell), o5] H2 := by
    refine ⟨_, (pss_cons (ps_set (i := 5) nd rfl (.inl rfl) (pe_op op_mod (pe_i1 T.b_int (pe_op op_pow (pe_op op_add (pe_op op_add (pe_op op_mod (pe_i1 T.b_int (pv 4)) pe_int) (pe_op op_mul pe_int (pv 3))) pe_int) pe_int)) pe_int)) hTail7), fun D o2 o5 cell H2 hD => ?_⟩
    refine ⟨_, rfl, .inl ⟨cell, rfl, _, _, rfl, rfl, (by show (0 : Int) < _; decide), _, rfl, _, t, rfl, rfl, .inl (by decide), _, _, rfl, rfl, _, _, rfl, rfl, _, 5, rfl, rfl, pow5 (by omega) (by omega), .inl ⟨_, rfl, _, _, rfl, rfl, (by show (0 : Int) < _; decide), ?_⟩⟩⟩
    refine htail7 D o2 (some (.int cell)) _ H2 ?_ ?_ hD
    · exact Int.emod_nonneg _ (by decide)
    · exact Int.lt_trans (Int.emod_lt_of_pos _ (by decide)) (by decide)
  refine ⟨_, pss_cons (ps_if (pt_cmpR op_gt (pe_ix ix_list (pv 0) pe_int (fun _ _ => rfl)) pe_int (nomark _))
      (pss_cons (ps_set (i := 2) nd rfl (.inl rfl) (pe_i1 T.b_int (pe_ix ix_list (pv 0) pe_int (fun _ _ => rfl)))) (pss_cons (ps_asg (pe_op op_fdiv (pv 2) (pv 1)) (pg_sub (pv 0) pe_int set_list)) (pss_one (ps_ret (pe_op op_mod (pe_i1 T.b_int (pv 2)) (pv 1)))))) pss_nil)
    (pss_cons (ps_set (i := 3) nd rfl (.inl rfl) (pe_ix ix_list (pv 0) pe_int (fun _ _ => rfl)))
    (pss_cons (ps_asg (pe_op op_add (pv 3) pe_int) (pg_sub (pv 0) pe_int set_list))
    (pss_cons (ps_set (i := 4) nd rfl (.inl rfl) (pe_op op_add (pe_op op_mul pe_int (pv 3)) pe_int))
    (pss_cons (ps_if (pt_cmpR (op_neD hu64) (pe_ix ix_list (pv 0) pe_int (fun _ _ => rfl)) (pe_lst pa_nil) (nomark _))
      (pss_one (ps_set (i := 4) nd rfl (.inl rfl) (pe_ix ix_list (pe_ix ix_list (pv 0) pe_int (fun _ _ => rfl)) (pe_op op_mod (pe_i1 T.b_int (pv 3)) (pe_callB call_len_seq (by rfl) T.b_len PySem.boot_len (pa_cons (pe_ix ix_list (pv 0) pe_int (fun _ _ => rfl)) pa_nil))) (fun _ _ => rfl)))) pss_nil)
    (pss_cons (ps_if (PW.pt (pw_and (pt_cmpR op_lt (pv 3) (pe_callB call_len_seq (by rfl) T.b_len PySem.boot_len (pa_cons (pe_ix ix_list (pv 0) pe_int (fun _ _ => rfl)) pa_nil)) (nomark _))
        (pw_and1 (pt_cmpR op_ge (pe_callB call_abs (by rfl) T.b_abs (by decide +kernel) (pa_cons (pv 4) pa_nil)) (pe_op op_pow pe_int pe_int) (nomark _)))))
      (pss_cons (ps_set (i := 2) nd rfl (.inl rfl) (pe_op op_add (pe_op op_mul pe_int (pe_op op_sub (pe_callB call_abs (by rfl) T.b_abs (by decide +kernel) (pa_cons (pv 4) pa_nil)) (pe_op op_pow pe_int pe_int))) (pe_i1 T.b_int (pe_cmpR op_lt (pv 4) pe_int (nomark _)))))
        (pss_cons (ps_asg (pe_op op_fdiv (pv 2) (pv 1)) (pg_sub (pv 0) pe_int set_list)) (pss_one (ps_ret (pe_op op_mod (pe_i1 T.b_int (pv 2)) (pv 1)))))) pss_nil)
hTail))))), ?_⟩
  have hL : SqL K H pa [.ref pl, .int t, .int rst] := SqL.of h1
  refine ⟨_, rfl, pa, _, 2, _, rfl, rfl, hL, rfl, rst, 0, rfl, rfl, _, rfl, ?_⟩
  refine ite2 (fun hp => ?_) (fun hp => ?_)
  · have hp : 0 < rst := of_decide_eq_true hp
    refine ⟨_, rfl, pa, _, 2, _, rfl, rfl, hL, rfl, .inl ⟨rst, rfl, ?_⟩⟩
    refine ⟨_, rfl, _, rfl, rst, n, rfl, rfl, ⟨n0, n1⟩, _, rfl, pa, _, 2, 2, rfl, rfl, h1, rfl, ?_⟩
    refine ⟨_, rfl, .inl ⟨rst, rfl, _, rfl, rst, n, rfl, rfl, n0, ?_⟩⟩
    exact fin t (rst / n) (rst % n) t0 (by omega) (Int.ediv_nonneg r0 (Int.le_of_lt n0)) (Int.emod_nonneg _ (by omega)) (Int.emod_lt_of_pos _ n0)
  · -- turn = paw[1]; paw[1] = turn + 1
    refine ⟨_, rfl, pa, _, 1, _, rfl, rfl, hL, rfl, ?_⟩
    refine ⟨_, rfl, t, 1, rfl, rfl, _, rfl, pa, _, 1, 1, rfl, rfl, h1, rfl, ?_⟩
    generalize hH1 : upd H pa (.lst ([V.ref pl, .int t, .int rst].set 1 (.int (t + 1)))) = H1
    have e1 : H1 pa = some (.lst [.ref pl, .int (t + 1), .int rst]) := by rw [← hH1]; exact upd_same
    have e2 : H1 pl = some (.lst (ns.map V.int)) := by rw [← hH1]; exact (upd_ne npp).trans h2
    have e3 : ∀ o, upd H1 pa o = upd H pa o := fun o => by rw [← hH1, upd_upd]
    have hL1 : SqL K H1 pa [.ref pl, .int (t + 1), .int rst] := SqL.of e1
    have hL2 : SqL K H1 pl (ns.map V.int) := SqL.of e2
    -- cell = c * turn + c
    refine ⟨_, rfl, _, t, rfl, rfl, .inl (by decide), _, _, rfl, rfl, ?_⟩
    refine ⟨_, rfl, pa, _, 0, _, rfl, rfl, hL1, rfl, Nat.zero_le _, fun p hp => ?_⟩
    have p1 : p ≠ pa := fun e => by rw [e, e1] at hp; cases hp
    have p2 : p ≠ pl := fun e => by rw [e, e2] at hp; cases hp
    have p3 : H p = none := by
      rw [← hH1, upd_ne p1] at hp
      exact hp
    generalize hH2 : upd H1 p (.lst []) = H2
    have f1 : H2 pa = some (.lst [.ref pl, .int (t + 1), .int rst]) := by rw [← hH2]; exact (upd_ne (Ne.symm p1)).trans e1
    have f2 : H2 pl = some (.lst (ns.map V.int)) := by rw [← hH2]; exact (upd_ne (Ne.symm p2)).trans e2
    have f3 : H2 p = some (.lst []) := by rw [← hH2]; exact upd_same
    have fL1 : SqL K H2 pa [.ref pl, .int (t + 1), .int rst] := SqL.of f1
    have fL2 : SqL K H2 pl (ns.map V.int) := SqL.of f2
    -- the well behind a draw, with the new list beside it
    have fin2 : ∀ (r' v : Int), 0 ≤ r' → 0 ≤ v → v < n → Q (.int v) (upd H2 pa (.lst [.ref pl, .int (t + 1), .int r'])) := fun r' v a3 a4 a5 => by
      refine k (.int v) _ (.int v) (b - 1) (fun a o e ne => ?_) ⟨t + 1, r', ns, upd_same, (upd_ne npp).trans f2, hl, by omega, by omega, a3⟩ (.int v) (q v a4 a5)
      rw [upd_ne ne, ← hH2, upd_ne (ne_of_none e p3), ← hH1, upd_ne ne]
      exact e
    have upd_self : H2 = upd H2 pa (.lst [.ref pl, .int (t + 1), .int rst]) := by
      funext z
      by_cases hz : z = pa
      · subst hz; rw [upd_same, f1]
      · rw [upd_ne hz]
    refine ⟨_, _, .lst fL2 dp_nums, .lst (SqL.of f3) .nil, shaped_nums, by decide, _, rfl, ?_⟩
    rw [eqv_nil]
    have len63 : ((ns.map V.int).length : Int) ≤ 63 := by rw [List.length_map]; omega
    refine use_go (G := ?G) ?rest (fun go => ?cell)
    case cell =>
     refine ite2 (fun hc => ?_) (fun hc => ?_)
     · have hpos : 0 < ns.length := by
         cases ns with
         | nil => simp at hc
         | cons _ _ => simp
       have hmod0 : 0 ≤ t % ((ns.map V.int).length : Int) := Int.emod_nonneg _ (by rw [List.length_map]; omega)
       have hmod1 : t % ((ns.map V.int).length : Int) < ((ns.map V.int).length : Int) := Int.emod_lt_of_pos _ (by rw [List.length_map]; omega)
       obtain ⟨j, hj⟩ : ∃ j : Nat, t % ((ns.map V.int).length : Int) = (j : Int) := ⟨(t % ((ns.map V.int).length : Int)).toNat, by omega⟩
       have hjn : j < ns.length := by
         rw [hj, List.length_map] at hmod1
         omega
       refine ⟨_, rfl, pa, _, 0, _, rfl, rfl, fL1, rfl, _, rfl, .inl ⟨t, rfl, _, rfl, pa, _, 0, _, rfl, rfl, fL1, rfl, pl, _, rfl, .inl fL2, t, _, rfl, rfl, (by rw [List.length_map]; omega), pl, _, _, .int ns[j], rfl, rfl, fL2, at_of hj (by rw [List.getElem?_map, List.getElem?_eq_getElem hjn]; rfl), ?_⟩⟩
       generalize ns[j] = cell
       exact go cell
     · exact go _
    case rest =>
      intro cell
      refine ⟨_, rfl, _, rfl, pa, _, 0, _, rfl, rfl, fL1, rfl, pl, _, rfl, .inl fL2, t, _, rfl, rfl, _, rfl, ?_⟩
      refine ite2 (fun ha => ?_) (fun ha => htail _ _ _ cell H2 ?_)
      · refine ⟨_, rfl, cell, rfl, 10, 18, rfl, rfl, ⟨by decide, by decide, by decide⟩, _, _, rfl, rfl, _, rfl, ?_⟩
        refine ite2 (fun hb => ?_) (fun hb => htail _ _ _ cell H2 ?_)
        · have hb2 : (10 : Int) ^ 18 ≤ (if cell < 0 then -cell else cell) := of_decide_eq_true hb
          refine ⟨_, rfl, cell, rfl, 10, 18, rfl, rfl, ⟨by decide, by decide, by decide⟩, _, _, rfl, rfl, 2, _, rfl, rfl, .inl (by decide), _, rfl, cell, 0, rfl, rfl, .inr ⟨_, rfl, _, _, rfl, rfl, ?_⟩⟩
          have Rn : (0 : Int) ≤ 2 * ((if cell < 0 then -cell else cell) - 10 ^ (18 : Int).toNat) + (if decide (cell < 0) = true then 1 else 0) := by
            have e18 : (10 : Int) ^ (18 : Int).toNat = 10 ^ 18 := rfl
            rw [e18]
            split <;> omega
          refine ⟨_, rfl, _, rfl, _, n, rfl, rfl, ⟨n0, n1⟩, _, rfl, pa, _, 2, 2, rfl, rfl, f1, rfl, ?_⟩
          refine ⟨_, rfl, .inl ⟨_, rfl, _, rfl, _, n, rfl, rfl, n0, ?_⟩⟩
          exact fin2 _ _ (Int.ediv_nonneg Rn (Int.le_of_lt n0)) (Int.emod_nonneg _ (by omega)) (Int.emod_lt_of_pos _ n0)
        · intro v a4 a5
          rw [upd_self]
          exact fin2 rst v r0 a4 a5
      · intro v a4 a5
        rw [upd_self]
        exact fin2 rst v r0 a4 a5
end
end K01

namespace K01
open PySem L2 DL DX
section
variable {P : Program} {w : World} {K : PySem.W.Frag} {mg : Str → Option Value} {base : Heap} {CP CD : Addr}
/-! ### _law_pick: one of some -/
def CPick : Ctr := fun ds b Q => ∃ xs : List D, ds = [.paw, .lst xs] ∧ 0 < xs.length ∧ xs.length < 1000 ∧ noSlots xs = true ∧ 1 ≤ b ∧ ∀ d, d ∈ xs → Q d (b - 1)
abbrev N_p : List Str := ["paw", "some"]
theorem sc_pick : FnScope N_p N_p (defScope s__law_pick) := ⟨rfl, rfl, rfl, by decide +kernel, rfl, by decide +kernel, by decide +kernel⟩
theorem noSlots_mem : ∀ {xs : List D} {x : D}, noSlots xs = true → x ∈ xs → x.isSlot = false
  | y :: ys, x, h, hx => by
    have h' : (!y.isSlot && noSlots ys) = true := h
    rw [Bool.and_eq_true] at h'
    rcases List.mem_cons.mp hx with rfl | hx
    · simpa using h'.1
    · exact noSlots_mem h'.2 hx
theorem ok_pick (Df : Dfn K mg "_law_pick" s__law_pick N_p) (G__law_tell : Fn P w K mg base 1 "_law_tell" s__law_tell ["paw", "many"] CTell) (T : Txt K mg CP CD) : Fn P w K mg base 2 "_law_pick" s__law_pick N_p CPick := by
  refine fnC Df sc_pick (fun ds b Q h => by obtain ⟨xs, h, _⟩ := h; subst h; rfl) fun f cdv A outer s H E hr hgd => ?_
  have nd := sc_pick.nd
  refine ⟨_, _, (dss_one (ds_ret (d_ix (dv 1) (d_call G__law_tell (hr.mono (by decide)) hgd (da_cons (dv 0) (da_cons (d_callB b_len (by rfl) T.b_len (by decide +kernel) (da_cons (dv 1) da_nil)) da_nil)))))), ?_⟩
  rintro _ b Qd ⟨xs, rfl, h0, h1, hn, hb, q⟩
  refine ⟨xs.length, rfl, by omega, by omega, hb, fun r r0 r1 => ?_⟩
  obtain ⟨j, rfl⟩ : ∃ j : Nat, r = (j : Int) := ⟨r.toNat, by omega⟩
  have hj : j < xs.length := by omega
  have e : atI xs (j : Int) = some xs[j] := atI_nat (List.getElem?_eq_getElem hj)
  have hm := List.getElem_mem hj
  have hs := noSlots_mem hn hm
  refine ⟨rfl, ?_⟩
  show match atI xs (j : Int) with
    | some d => d.isSlot = false ∧ rtD Qd d _
    | none => False
  rw [e]
  exact ⟨hs, rtD_of hs (q _ hm)⟩
/-! ### _law_value: drawn data -/
def cost : Nat → Nat
  | 0 => 3
  | n + 1 => 3 * cost n + 2
theorem cost_3 : ∀ n, 3 ≤ cost n
  | 0 => Nat.le_refl _
  | n + 1 => by have := cost_3 n; rw [cost]; omega
def CVal (n : Nat) : Ctr := fun ds b Q => ∃ m : Nat, n = m + 1 ∧ ds = [.paw, .int (m : Int)] ∧ m ≤ 10 ∧ cost m ≤ b ∧ ∀ d b', okW (m + 2) d = true → b - cost m ≤ b' → Q d b'
theorem cval_len {n : Nat} : ∀ ds b Q, CVal n ds b Q → ds.length = 2 := by
  rintro ds b Q ⟨m, _, rfl, _⟩
  rfl
abbrev N__law_value : List Str := ["paw", "deep", "way", "parts", "turn"]
theorem sc__law_value : FnScope N__law_value ["paw", "deep"] (defScope s__law_value) := ⟨rfl, rfl, rfl, by decide +kernel, rfl, by decide +kernel, by decide +kernel⟩
theorem okW_upto {d : D} : ∀ {m n : Nat}, m ≤ n → okW m d = true → okW n d = true := by
  intro m n h
  induction h with
  | refl => exact id
  | step _ ih => exact fun h => okW_up _ _ (ih h)
theorem menu_ok {r : Int} (r0 : 0 ≤ r) (r1 : r < 9) : ∀ d, d ∈ [D.non, .bl true, .int 0, .int (-1), .str "north", .int (10 ^ 20), .int r, .dK [(.inr "a", .lst [.int 1])]] → okW 2 d = true := by
  have hr : shortP (.int r) = true := by
    have h : r = 0 ∨ r = 1 ∨ r = 2 ∨ r = 3 ∨ r = 4 ∨ r = 5 ∨ r = 6 ∨ r = 7 ∨ r = 8 := by omega
    rcases h with rfl | rfl | rfl | rfl | rfl | rfl | rfl | rfl | rfl <;> decide +kernel
  intro d hd
  simp only [List.mem_cons, List.not_mem_nil, or_false] at hd
  rcases hd with rfl | rfl | rfl | rfl | rfl | rfl | rfl | rfl
  · rfl
  · rfl
  · decide +kernel
  · decide +kernel
  · decide +kernel
  · decide +kernel
  · exact hr
  · decide +kernel
def SV (n : Nat) (e2 e3 e4 : EV) (b : Nat) : DS := ⟨[.fz .paw, .fz (.int (n : Int)), e2, e3, e4], b⟩
theorem SV_wipe {n b : Nat} {e2 e3 e4 : EV} : (SV n e2 e3 e4 b).wipe [4] = SV n e2 e3 .un b := rfl
theorem ok_value (Df : Dfn K mg "_law_value" s__law_value ["paw", "deep"]) (G__law_tell : Fn P w K mg base 1 "_law_tell" s__law_tell ["paw", "many"] CTell) (G__law_pick : Fn P w K mg base 2 "_law_pick" s__law_pick N_p CPick) (T : Txt K mg CP CD) :
    ∀ n, Fn P w K mg base (n + 2) "_law_value" s__law_value ["paw", "deep"] (CVal n) := by
  intro n
  induction n with
  | zero =>
    refine fnOf_ok Df fun f fd F => ⟨okC_len cval_len, fun A outer s H args us vs Q E hr e0 hb r h => ?_⟩
    obtain ⟨_, _, _, _, _, _, _, _, _, _, _, ⟨m, e, _⟩, _⟩ := h
    cases e
  | succ n G__law_value =>
    refine fnC Df sc__law_value cval_len fun f cdv A outer s H E hr hgd => ?_
    have nd := sc__law_value.nd
    have hu : (A.deeper (PyProof.Rows.envOfC "_law_value" (defScope s__law_value) s.heap.objs.size f cdv)).units + 64 < cLine := by have := hr.un; omega
    have hr1 := hr.mono (show 1 ≤ n + 2 by omega)
    have hr2 := hr.mono (show 2 ≤ n + 2 by omega)
    refine ⟨_, _, (dss_cons (ds_set (i := 2) nd rfl (Or.inl rfl) (d_call G__law_tell hr1 hgd (da_cons (dv 0) (da_cons (d_if (dt_cmp o_gt (dv 1) d_int) d_int d_int) da_nil))))
      (dss_cons (ds_if (dt_cmp o_gt (dv 2) d_int) (dss_cons (ds_setLc (i := 3) rfl nd rfl rfl (sw_true rfl rfl rfl (by decide +kernel)) (own := [("turn", 4)]) (di_range1 (by rfl) T.b_range (da_cons (d_call G__law_tell hr1 hgd (da_cons (dv 0) (da_cons d_int da_nil))) da_nil)) (blkOk_by (N := N__law_value) (sc := defScope s__law_value) (by decide +kernel)) (gk_name (by decide)) (fun _ _ _ _ _ => (dg_name (i := 4) nd rfl (by first | exact .inl rfl | exact .inr rfl))) (fun _ _ _ _ _ => by exact dts_nil) (fun _ _ _ _ _ => by exact (d_callX G__law_value hr hgd (da_cons (dv 0) (da_cons (d_op o_sub (dv 1) d_int) da_nil)))))
      (dss_one (ds_ret (d_if (dt_cmp (o_eq hu) (dv 2) d_int) (dv 3) (d_callTy b_tuple (by rfl) T.b_tuple (by decide +kernel) (da_cons (dv 3) da_nil)))))) dss_nil)
      (dss_one (ds_ret (d_call G__law_pick hr2 hgd (da_cons (dv 0) (da_cons (d_ofL (dl_lst (da_cons d_non (da_cons d_bl (da_cons d_int (da_cons (d_neg d_int) (da_cons d_str (da_cons (d_op o_pow d_int d_int) (da_cons (d_call G__law_tell hr1 hgd (da_cons (dv 0) (da_cons d_int da_nil))) (da_cons (d_dict (dp_cons d_str (d_ofL (dl_lst (da_cons d_int da_nil))) dp_nil)) da_nil)))))))))) da_nil))))))), ?_⟩
    rintro _ b Qd ⟨m, e, rfl, hm, hb, q⟩
    cases e
    have c3 := cost_3 n
    repeat (first | with_reducible refine DL.r_seq ?_ | with_reducible refine DL.r_next ?_ | with_reducible refine DL.r_ret ?_ | with_reducible refine DL.r_ifS ?_ | with_reducible refine DL.r_asg ?_ | with_reducible refine DL.r_drop ?_ | with_reducible refine DL.r_c ?_ | with_reducible refine DL.r_nil ?_ | with_reducible refine DL.r_cons ?_ | with_reducible refine DL.r_op ?_ | with_reducible refine DL.r_cb ?_ | with_reducible refine DL.r_ofL ?_ | with_reducible refine DL.r_lst ?_ | with_reducible refine DL.r_tup ?_ | with_reducible refine DL.r_b ?_ | with_reducible refine DL.r_not ?_ | with_reducible refine DL.r_and ?_ | with_reducible refine DL.r_or ?_ | with_reducible refine DL.r_andV ?_ | with_reducible refine DL.r_orV ?_ | with_reducible refine DL.r_notV ?_ | with_reducible refine DL.r_neg ?_ | with_reducible refine DL.r_par ?_ | with_reducible refine DL.r_par3 ?_ | with_reducible refine DL.r_gname ?_ | with_reducible refine DL.r_callO ?_ | (with_reducible apply DL.r_var; focus exact rfl) | with_reducible refine DL.r_if1 ?_ | with_reducible refine DL.r_if0 ?_)
    refine r_call (s1 := startD N__law_value [.paw, .int (n : Int)] b) (ds := [.paw, .int (if decide ((0 : Int) < (n : Int)) = true then 9 else 6)]) (fun R h => ?_) rfl ⟨_, rfl, ?_, ?_, ?_, fun way w0 w1 => ?_⟩
    · repeat (first | with_reducible refine DL.r_seq ?_ | with_reducible refine DL.r_next ?_ | with_reducible refine DL.r_ret ?_ | with_reducible refine DL.r_ifS ?_ | with_reducible refine DL.r_asg ?_ | with_reducible refine DL.r_drop ?_ | with_reducible refine DL.r_c ?_ | with_reducible refine DL.r_nil ?_ | with_reducible refine DL.r_cons ?_ | with_reducible refine DL.r_op ?_ | with_reducible refine DL.r_cb ?_ | with_reducible refine DL.r_ofL ?_ | with_reducible refine DL.r_lst ?_ | with_reducible refine DL.r_tup ?_ | with_reducible refine DL.r_b ?_ | with_reducible refine DL.r_not ?_ | with_reducible refine DL.r_and ?_ | with_reducible refine DL.r_or ?_ | with_reducible refine DL.r_andV ?_ | with_reducible refine DL.r_orV ?_ | with_reducible refine DL.r_notV ?_ | with_reducible refine DL.r_neg ?_ | with_reducible refine DL.r_par ?_ | with_reducible refine DL.r_par3 ?_ | with_reducible refine DL.r_gname ?_ | with_reducible refine DL.r_callO ?_ | (with_reducible apply DL.r_var; focus exact rfl) | with_reducible refine DL.r_if1 ?_ | with_reducible refine DL.r_if0 ?_)
      unfold dIf
      repeat (first | with_reducible refine DL.r_seq ?_ | with_reducible refine DL.r_next ?_ | with_reducible refine DL.r_ret ?_ | with_reducible refine DL.r_ifS ?_ | with_reducible refine DL.r_asg ?_ | with_reducible refine DL.r_drop ?_ | with_reducible refine DL.r_c ?_ | with_reducible refine DL.r_nil ?_ | with_reducible refine DL.r_cons ?_ | with_reducible refine DL.r_op ?_ | with_reducible refine DL.r_cb ?_ | with_reducible refine DL.r_ofL ?_ | with_reducible refine DL.r_lst ?_ | with_reducible refine DL.r_tup ?_ | with_reducible refine DL.r_b ?_ | with_reducible refine DL.r_not ?_ | with_reducible refine DL.r_and ?_ | with_reducible refine DL.r_or ?_ | with_reducible refine DL.r_andV ?_ | with_reducible refine DL.r_orV ?_ | with_reducible refine DL.r_notV ?_ | with_reducible refine DL.r_neg ?_ | with_reducible refine DL.r_par ?_ | with_reducible refine DL.r_par3 ?_ | with_reducible refine DL.r_gname ?_ | with_reducible refine DL.r_callO ?_ | (with_reducible apply DL.r_var; focus exact rfl) | with_reducible refine DL.r_if1 ?_ | with_reducible refine DL.r_if0 ?_)
      refine r_var rfl ?_
      repeat (first | with_reducible refine DL.r_seq ?_ | with_reducible refine DL.r_next ?_ | with_reducible refine DL.r_ret ?_ | with_reducible refine DL.r_ifS ?_ | with_reducible refine DL.r_asg ?_ | with_reducible refine DL.r_drop ?_ | with_reducible refine DL.r_c ?_ | with_reducible refine DL.r_nil ?_ | with_reducible refine DL.r_cons ?_ | with_reducible refine DL.r_op ?_ | with_reducible refine DL.r_cb ?_ | with_reducible refine DL.r_ofL ?_ | with_reducible refine DL.r_lst ?_ | with_reducible refine DL.r_tup ?_ | with_reducible refine DL.r_b ?_ | with_reducible refine DL.r_not ?_ | with_reducible refine DL.r_and ?_ | with_reducible refine DL.r_or ?_ | with_reducible refine DL.r_andV ?_ | with_reducible refine DL.r_orV ?_ | with_reducible refine DL.r_notV ?_ | with_reducible refine DL.r_neg ?_ | with_reducible refine DL.r_par ?_ | with_reducible refine DL.r_par3 ?_ | with_reducible refine DL.r_gname ?_ | with_reducible refine DL.r_callO ?_ | (with_reducible apply DL.r_var; focus exact rfl) | with_reducible refine DL.r_if1 ?_ | with_reducible refine DL.r_if0 ?_)
      show (if decide ((0 : Int) < (n : Int)) = true then _ else _)
      cases hd : decide ((0 : Int) < (n : Int)) with
      | true => rw [hd] at h; exact h
      | false => rw [hd] at h; exact h
    · split <;> decide
    · split <;> decide
    · show 1 ≤ b
      omega
    · refine ⟨rfl, r_gname ?_⟩
      repeat (first | with_reducible refine DL.r_seq ?_ | with_reducible refine DL.r_next ?_ | with_reducible refine DL.r_ret ?_ | with_reducible refine DL.r_ifS ?_ | with_reducible refine DL.r_asg ?_ | with_reducible refine DL.r_drop ?_ | with_reducible refine DL.r_c ?_ | with_reducible refine DL.r_nil ?_ | with_reducible refine DL.r_cons ?_ | with_reducible refine DL.r_op ?_ | with_reducible refine DL.r_cb ?_ | with_reducible refine DL.r_ofL ?_ | with_reducible refine DL.r_lst ?_ | with_reducible refine DL.r_tup ?_ | with_reducible refine DL.r_b ?_ | with_reducible refine DL.r_not ?_ | with_reducible refine DL.r_and ?_ | with_reducible refine DL.r_or ?_ | with_reducible refine DL.r_andV ?_ | with_reducible refine DL.r_orV ?_ | with_reducible refine DL.r_notV ?_ | with_reducible refine DL.r_neg ?_ | with_reducible refine DL.r_par ?_ | with_reducible refine DL.r_par3 ?_ | with_reducible refine DL.r_gname ?_ | with_reducible refine DL.r_callO ?_ | (with_reducible apply DL.r_var; focus exact rfl) | with_reducible refine DL.r_if1 ?_ | with_reducible refine DL.r_if0 ?_)
      refine r_var rfl ?_
      repeat (first | with_reducible refine DL.r_seq ?_ | with_reducible refine DL.r_next ?_ | with_reducible refine DL.r_ret ?_ | with_reducible refine DL.r_ifS ?_ | with_reducible refine DL.r_asg ?_ | with_reducible refine DL.r_drop ?_ | with_reducible refine DL.r_c ?_ | with_reducible refine DL.r_nil ?_ | with_reducible refine DL.r_cons ?_ | with_reducible refine DL.r_op ?_ | with_reducible refine DL.r_cb ?_ | with_reducible refine DL.r_ofL ?_ | with_reducible refine DL.r_lst ?_ | with_reducible refine DL.r_tup ?_ | with_reducible refine DL.r_b ?_ | with_reducible refine DL.r_not ?_ | with_reducible refine DL.r_and ?_ | with_reducible refine DL.r_or ?_ | with_reducible refine DL.r_andV ?_ | with_reducible refine DL.r_orV ?_ | with_reducible refine DL.r_notV ?_ | with_reducible refine DL.r_neg ?_ | with_reducible refine DL.r_par ?_ | with_reducible refine DL.r_par3 ?_ | with_reducible refine DL.r_gname ?_ | with_reducible refine DL.r_callO ?_ | (with_reducible apply DL.r_var; focus exact rfl) | with_reducible refine DL.r_if1 ?_ | with_reducible refine DL.r_if0 ?_)
      cases hw : decide ((5 : Int) < way) with
      | false =>
        change (if decide ((5 : Int) < way) = true then _ else _)
        rw [hw]
        refine r_if0 ?_
        refine r_next ?_
        dsimp only
        change dRet _ _ (SV n (.fz (.int way)) .un .un (b - 1))
        refine r_ret ?_
        refine k_callx ?_
        repeat (first | with_reducible refine DL.r_seq ?_ | with_reducible refine DL.r_next ?_ | with_reducible refine DL.r_ret ?_ | with_reducible refine DL.r_ifS ?_ | with_reducible refine DL.r_asg ?_ | with_reducible refine DL.r_drop ?_ | with_reducible refine DL.r_c ?_ | with_reducible refine DL.r_nil ?_ | with_reducible refine DL.r_cons ?_ | with_reducible refine DL.r_op ?_ | with_reducible refine DL.r_cb ?_ | with_reducible refine DL.r_ofL ?_ | with_reducible refine DL.r_lst ?_ | with_reducible refine DL.r_tup ?_ | with_reducible refine DL.r_b ?_ | with_reducible refine DL.r_not ?_ | with_reducible refine DL.r_and ?_ | with_reducible refine DL.r_or ?_ | with_reducible refine DL.r_andV ?_ | with_reducible refine DL.r_orV ?_ | with_reducible refine DL.r_notV ?_ | with_reducible refine DL.r_neg ?_ | with_reducible refine DL.r_par ?_ | with_reducible refine DL.r_par3 ?_ | with_reducible refine DL.r_gname ?_ | with_reducible refine DL.r_callO ?_ | (with_reducible apply DL.r_var; focus exact rfl) | with_reducible refine DL.r_if1 ?_ | with_reducible refine DL.r_if0 ?_)
        have cp : CPow 10 20 := ⟨by decide, by decide, by decide⟩
        refine ⟨cp, ?_⟩
        repeat (first | with_reducible refine DL.r_seq ?_ | with_reducible refine DL.r_next ?_ | with_reducible refine DL.r_ret ?_ | with_reducible refine DL.r_ifS ?_ | with_reducible refine DL.r_asg ?_ | with_reducible refine DL.r_drop ?_ | with_reducible refine DL.r_c ?_ | with_reducible refine DL.r_nil ?_ | with_reducible refine DL.r_cons ?_ | with_reducible refine DL.r_op ?_ | with_reducible refine DL.r_cb ?_ | with_reducible refine DL.r_ofL ?_ | with_reducible refine DL.r_lst ?_ | with_reducible refine DL.r_tup ?_ | with_reducible refine DL.r_b ?_ | with_reducible refine DL.r_not ?_ | with_reducible refine DL.r_and ?_ | with_reducible refine DL.r_or ?_ | with_reducible refine DL.r_andV ?_ | with_reducible refine DL.r_orV ?_ | with_reducible refine DL.r_notV ?_ | with_reducible refine DL.r_neg ?_ | with_reducible refine DL.r_par ?_ | with_reducible refine DL.r_par3 ?_ | with_reducible refine DL.r_gname ?_ | with_reducible refine DL.r_callO ?_ | (with_reducible apply DL.r_var; focus exact rfl) | with_reducible refine DL.r_if1 ?_ | with_reducible refine DL.r_if0 ?_)
        refine r_call (s1 := SV n (.fz (.int way)) .un .un (b - 1)) (ds := [.paw, .int 9]) (fun _ h => h) rfl ⟨9, rfl, by decide, by decide, ?_, fun r r0 r1 => ?_⟩
        · show 1 ≤ b - 1
          omega
        repeat (first | with_reducible refine DL.r_seq ?_ | with_reducible refine DL.r_next ?_ | with_reducible refine DL.r_ret ?_ | with_reducible refine DL.r_ifS ?_ | with_reducible refine DL.r_asg ?_ | with_reducible refine DL.r_drop ?_ | with_reducible refine DL.r_c ?_ | with_reducible refine DL.r_nil ?_ | with_reducible refine DL.r_cons ?_ | with_reducible refine DL.r_op ?_ | with_reducible refine DL.r_cb ?_ | with_reducible refine DL.r_ofL ?_ | with_reducible refine DL.r_lst ?_ | with_reducible refine DL.r_tup ?_ | with_reducible refine DL.r_b ?_ | with_reducible refine DL.r_not ?_ | with_reducible refine DL.r_and ?_ | with_reducible refine DL.r_or ?_ | with_reducible refine DL.r_andV ?_ | with_reducible refine DL.r_orV ?_ | with_reducible refine DL.r_notV ?_ | with_reducible refine DL.r_neg ?_ | with_reducible refine DL.r_par ?_ | with_reducible refine DL.r_par3 ?_ | with_reducible refine DL.r_gname ?_ | with_reducible refine DL.r_callO ?_ | (with_reducible apply DL.r_var; focus exact rfl) | with_reducible refine DL.r_if1 ?_ | with_reducible refine DL.r_if0 ?_)
        refine (show dPairs [(dC (D.str "a"), dOfL (dlLst (dCons (dC (D.int 1)) dNil)))] _ _ from ?_)
        unfold dPairs
        repeat (first | with_reducible refine DL.r_seq ?_ | with_reducible refine DL.r_next ?_ | with_reducible refine DL.r_ret ?_ | with_reducible refine DL.r_ifS ?_ | with_reducible refine DL.r_asg ?_ | with_reducible refine DL.r_drop ?_ | with_reducible refine DL.r_c ?_ | with_reducible refine DL.r_nil ?_ | with_reducible refine DL.r_cons ?_ | with_reducible refine DL.r_op ?_ | with_reducible refine DL.r_cb ?_ | with_reducible refine DL.r_ofL ?_ | with_reducible refine DL.r_lst ?_ | with_reducible refine DL.r_tup ?_ | with_reducible refine DL.r_b ?_ | with_reducible refine DL.r_not ?_ | with_reducible refine DL.r_and ?_ | with_reducible refine DL.r_or ?_ | with_reducible refine DL.r_andV ?_ | with_reducible refine DL.r_orV ?_ | with_reducible refine DL.r_notV ?_ | with_reducible refine DL.r_neg ?_ | with_reducible refine DL.r_par ?_ | with_reducible refine DL.r_par3 ?_ | with_reducible refine DL.r_gname ?_ | with_reducible refine DL.r_callO ?_ | (with_reducible apply DL.r_var; focus exact rfl) | with_reducible refine DL.r_if1 ?_ | with_reducible refine DL.r_if0 ?_)
        refine ⟨by decide, rfl, rfl, by show 1 ≤ 15; decide, by decide +kernel, ?_⟩
        repeat (first | with_reducible refine DL.r_seq ?_ | with_reducible refine DL.r_next ?_ | with_reducible refine DL.r_ret ?_ | with_reducible refine DL.r_ifS ?_ | with_reducible refine DL.r_asg ?_ | with_reducible refine DL.r_drop ?_ | with_reducible refine DL.r_c ?_ | with_reducible refine DL.r_nil ?_ | with_reducible refine DL.r_cons ?_ | with_reducible refine DL.r_op ?_ | with_reducible refine DL.r_cb ?_ | with_reducible refine DL.r_ofL ?_ | with_reducible refine DL.r_lst ?_ | with_reducible refine DL.r_tup ?_ | with_reducible refine DL.r_b ?_ | with_reducible refine DL.r_not ?_ | with_reducible refine DL.r_and ?_ | with_reducible refine DL.r_or ?_ | with_reducible refine DL.r_andV ?_ | with_reducible refine DL.r_orV ?_ | with_reducible refine DL.r_notV ?_ | with_reducible refine DL.r_neg ?_ | with_reducible refine DL.r_par ?_ | with_reducible refine DL.r_par3 ?_ | with_reducible refine DL.r_gname ?_ | with_reducible refine DL.r_callO ?_ | (with_reducible apply DL.r_var; focus exact rfl) | with_reducible refine DL.r_if1 ?_ | with_reducible refine DL.r_if0 ?_)
        refine ⟨by show 8 ≤ sizeLine; decide, rfl, ?_⟩
        repeat (first | with_reducible refine DL.r_seq ?_ | with_reducible refine DL.r_next ?_ | with_reducible refine DL.r_ret ?_ | with_reducible refine DL.r_ifS ?_ | with_reducible refine DL.r_asg ?_ | with_reducible refine DL.r_drop ?_ | with_reducible refine DL.r_c ?_ | with_reducible refine DL.r_nil ?_ | with_reducible refine DL.r_cons ?_ | with_reducible refine DL.r_op ?_ | with_reducible refine DL.r_cb ?_ | with_reducible refine DL.r_ofL ?_ | with_reducible refine DL.r_lst ?_ | with_reducible refine DL.r_tup ?_ | with_reducible refine DL.r_b ?_ | with_reducible refine DL.r_not ?_ | with_reducible refine DL.r_and ?_ | with_reducible refine DL.r_or ?_ | with_reducible refine DL.r_andV ?_ | with_reducible refine DL.r_orV ?_ | with_reducible refine DL.r_notV ?_ | with_reducible refine DL.r_neg ?_ | with_reducible refine DL.r_par ?_ | with_reducible refine DL.r_par3 ?_ | with_reducible refine DL.r_gname ?_ | with_reducible refine DL.r_callO ?_ | (with_reducible apply DL.r_var; focus exact rfl) | with_reducible refine DL.r_if1 ?_ | with_reducible refine DL.r_if0 ?_)
        refine r_call (s1 := SV n (.fz (.int way)) .un .un (b - 2)) (ds := [.paw, .lst [D.non, .bl true, .int 0, .int (-1), .str "north", .int (10 ^ 20), .int r, .dK [(.inr "a", .lst [.int 1])]]]) (fun _ h => h) rfl ⟨_, rfl, by show 0 < 8; decide, by show 8 < 1000; decide, rfl, ?_, fun d hd => ?_⟩
        · show 1 ≤ b - 2
          omega
        · have hd' := menu_ok r0 r1 d hd
          exact rtD_of (okW_slot hd') (q d _ (okW_upto (by omega) hd') (by show b - cost n ≤ b - 2 - 1; omega))
      | true =>
        change (if decide ((5 : Int) < way) = true then _ else _)
        rw [hw]
        refine r_if1 ?_
        have hn : 0 < n := by
          have hw' : (5 : Int) < way := of_decide_eq_true hw
          cases n with
          | zero =>
            rw [show decide ((0 : Int) < ((0 : Nat) : Int)) = false from by decide] at w1
            simp at w1
            omega
          | succ k => omega
        obtain ⟨k, rfl⟩ : ∃ k, n = k + 1 := ⟨n - 1, by omega⟩
        have ck : cost (k + 1) = 3 * cost k + 2 := rfl
        change dSeq _ _ _ (SV (k + 1) (.fz (.int way)) .un .un (b - 1))
        repeat (first | with_reducible refine DL.r_seq ?_ | with_reducible refine DL.r_next ?_ | with_reducible refine DL.r_ret ?_ | with_reducible refine DL.r_ifS ?_ | with_reducible refine DL.r_asg ?_ | with_reducible refine DL.r_drop ?_ | with_reducible refine DL.r_c ?_ | with_reducible refine DL.r_nil ?_ | with_reducible refine DL.r_cons ?_ | with_reducible refine DL.r_op ?_ | with_reducible refine DL.r_cb ?_ | with_reducible refine DL.r_ofL ?_ | with_reducible refine DL.r_lst ?_ | with_reducible refine DL.r_tup ?_ | with_reducible refine DL.r_b ?_ | with_reducible refine DL.r_not ?_ | with_reducible refine DL.r_and ?_ | with_reducible refine DL.r_or ?_ | with_reducible refine DL.r_andV ?_ | with_reducible refine DL.r_orV ?_ | with_reducible refine DL.r_notV ?_ | with_reducible refine DL.r_neg ?_ | with_reducible refine DL.r_par ?_ | with_reducible refine DL.r_par3 ?_ | with_reducible refine DL.r_gname ?_ | with_reducible refine DL.r_callO ?_ | (with_reducible apply DL.r_var; focus exact rfl) | with_reducible refine DL.r_if1 ?_ | with_reducible refine DL.r_if0 ?_)
        refine k_lc (k_rng1 ?_)
        repeat (first | with_reducible refine DL.r_seq ?_ | with_reducible refine DL.r_next ?_ | with_reducible refine DL.r_ret ?_ | with_reducible refine DL.r_ifS ?_ | with_reducible refine DL.r_asg ?_ | with_reducible refine DL.r_drop ?_ | with_reducible refine DL.r_c ?_ | with_reducible refine DL.r_nil ?_ | with_reducible refine DL.r_cons ?_ | with_reducible refine DL.r_op ?_ | with_reducible refine DL.r_cb ?_ | with_reducible refine DL.r_ofL ?_ | with_reducible refine DL.r_lst ?_ | with_reducible refine DL.r_tup ?_ | with_reducible refine DL.r_b ?_ | with_reducible refine DL.r_not ?_ | with_reducible refine DL.r_and ?_ | with_reducible refine DL.r_or ?_ | with_reducible refine DL.r_andV ?_ | with_reducible refine DL.r_orV ?_ | with_reducible refine DL.r_notV ?_ | with_reducible refine DL.r_neg ?_ | with_reducible refine DL.r_par ?_ | with_reducible refine DL.r_par3 ?_ | with_reducible refine DL.r_gname ?_ | with_reducible refine DL.r_callO ?_ | (with_reducible apply DL.r_var; focus exact rfl) | with_reducible refine DL.r_if1 ?_ | with_reducible refine DL.r_if0 ?_)
        refine r_call (s1 := SV (k + 1) (.fz (.int way)) .un .un (b - 1)) (ds := [.paw, .int 4]) (fun _ h => h) rfl ⟨4, rfl, by decide, by decide, ?_, fun r r0 r1 => ?_⟩
        · show 1 ≤ b - 1
          omega
        repeat (first | with_reducible refine DL.r_seq ?_ | with_reducible refine DL.r_next ?_ | with_reducible refine DL.r_ret ?_ | with_reducible refine DL.r_ifS ?_ | with_reducible refine DL.r_asg ?_ | with_reducible refine DL.r_drop ?_ | with_reducible refine DL.r_c ?_ | with_reducible refine DL.r_nil ?_ | with_reducible refine DL.r_cons ?_ | with_reducible refine DL.r_op ?_ | with_reducible refine DL.r_cb ?_ | with_reducible refine DL.r_ofL ?_ | with_reducible refine DL.r_lst ?_ | with_reducible refine DL.r_tup ?_ | with_reducible refine DL.r_b ?_ | with_reducible refine DL.r_not ?_ | with_reducible refine DL.r_and ?_ | with_reducible refine DL.r_or ?_ | with_reducible refine DL.r_andV ?_ | with_reducible refine DL.r_orV ?_ | with_reducible refine DL.r_notV ?_ | with_reducible refine DL.r_neg ?_ | with_reducible refine DL.r_par ?_ | with_reducible refine DL.r_par3 ?_ | with_reducible refine DL.r_gname ?_ | with_reducible refine DL.r_callO ?_ | (with_reducible apply DL.r_var; focus exact rfl) | with_reducible refine DL.r_if1 ?_ | with_reducible refine DL.r_if0 ?_)
        refine ⟨by omega, by omega, trivial, ?_⟩
        change lcL _ _ _ _ _ _ _ (SV (k + 1) (.fz (.int way)) .un .un (b - 2)) _
        refine lcW_any (ok := fun d => okW (k + 2) d = true) (S0 := fun b => SV (k + 1) (.fz (.int way)) .un .un b) (k := cost k) (fun _ => trivial) (fun x hx b' hb' R hR => ?_) ?_ ?_ ?_ ?_
        · refine r_gname ?_
          change dCall _ _ (SV (k + 1) (.fz (.int way)) .un (.fz x) b') _
          refine r_call (s1 := SV (k + 1) (.fz (.int way)) .un (.fz x) b') (ds := [.paw, .int (k : Int)]) (fun R' h => ?_) rfl ⟨k, rfl, rfl, by omega, hb', fun d b'' hd hb'' => ?_⟩
          · repeat (first | with_reducible refine DL.r_seq ?_ | with_reducible refine DL.r_next ?_ | with_reducible refine DL.r_ret ?_ | with_reducible refine DL.r_ifS ?_ | with_reducible refine DL.r_asg ?_ | with_reducible refine DL.r_drop ?_ | with_reducible refine DL.r_c ?_ | with_reducible refine DL.r_nil ?_ | with_reducible refine DL.r_cons ?_ | with_reducible refine DL.r_op ?_ | with_reducible refine DL.r_cb ?_ | with_reducible refine DL.r_ofL ?_ | with_reducible refine DL.r_lst ?_ | with_reducible refine DL.r_tup ?_ | with_reducible refine DL.r_b ?_ | with_reducible refine DL.r_not ?_ | with_reducible refine DL.r_and ?_ | with_reducible refine DL.r_or ?_ | with_reducible refine DL.r_andV ?_ | with_reducible refine DL.r_orV ?_ | with_reducible refine DL.r_notV ?_ | with_reducible refine DL.r_neg ?_ | with_reducible refine DL.r_par ?_ | with_reducible refine DL.r_par3 ?_ | with_reducible refine DL.r_gname ?_ | with_reducible refine DL.r_callO ?_ | (with_reducible apply DL.r_var; focus exact rfl) | with_reducible refine DL.r_if1 ?_ | with_reducible refine DL.r_if0 ?_)
            refine r_var rfl ?_
            repeat (first | with_reducible refine DL.r_seq ?_ | with_reducible refine DL.r_next ?_ | with_reducible refine DL.r_ret ?_ | with_reducible refine DL.r_ifS ?_ | with_reducible refine DL.r_asg ?_ | with_reducible refine DL.r_drop ?_ | with_reducible refine DL.r_c ?_ | with_reducible refine DL.r_nil ?_ | with_reducible refine DL.r_cons ?_ | with_reducible refine DL.r_op ?_ | with_reducible refine DL.r_cb ?_ | with_reducible refine DL.r_ofL ?_ | with_reducible refine DL.r_lst ?_ | with_reducible refine DL.r_tup ?_ | with_reducible refine DL.r_b ?_ | with_reducible refine DL.r_not ?_ | with_reducible refine DL.r_and ?_ | with_reducible refine DL.r_or ?_ | with_reducible refine DL.r_andV ?_ | with_reducible refine DL.r_orV ?_ | with_reducible refine DL.r_notV ?_ | with_reducible refine DL.r_neg ?_ | with_reducible refine DL.r_par ?_ | with_reducible refine DL.r_par3 ?_ | with_reducible refine DL.r_gname ?_ | with_reducible refine DL.r_callO ?_ | (with_reducible apply DL.r_var; focus exact rfl) | with_reducible refine DL.r_if1 ?_ | with_reducible refine DL.r_if0 ?_)
            have e : ((k + 1 : Nat) : Int) - 1 = (k : Int) := by omega
            show R' [.paw, .int (((k + 1 : Nat) : Int) - 1)] _
            rw [e]
            exact h
          · exact hR d _ b'' hd (okW_slot hd) hb'' rfl
        · rw [nums_length]
          have : r.toNat ≤ 3 := by omega
          have := Nat.mul_le_mul_left (cost k) this
          omega
        · rw [nums_length, List.length_nil]
          omega
        · intro y hy
          simp at hy
        · intro ys b'' e1 e2 e3
          rw [nums_length, List.length_nil] at e1
          rw [nums_length] at e3
          have r3 : r.toNat ≤ 3 := by omega
          have r4 := Nat.mul_le_mul_left (cost k) r3
          have oL : okW (k + 1 + 2) (.lst ys) = true := by
            rw [okW, Bool.and_eq_true, decide_eq_true_eq]
            exact ⟨by omega, List.all_eq_true.mpr e2⟩
          have oT : okW (k + 1 + 2) (.tup ys) = true := by
            rw [okW, Bool.and_eq_true, decide_eq_true_eq]
            exact ⟨by omega, List.all_eq_true.mpr e2⟩
          refine ⟨rfl, r_gname ?_⟩
          dsimp only
          change dRet _ _ (SV (k + 1) (.fz (.int way)) (.fz (.lst ys)) .un b'')
          refine r_ret ?_
          unfold dIf
          repeat (first | with_reducible refine DL.r_seq ?_ | with_reducible refine DL.r_next ?_ | with_reducible refine DL.r_ret ?_ | with_reducible refine DL.r_ifS ?_ | with_reducible refine DL.r_asg ?_ | with_reducible refine DL.r_drop ?_ | with_reducible refine DL.r_c ?_ | with_reducible refine DL.r_nil ?_ | with_reducible refine DL.r_cons ?_ | with_reducible refine DL.r_op ?_ | with_reducible refine DL.r_cb ?_ | with_reducible refine DL.r_ofL ?_ | with_reducible refine DL.r_lst ?_ | with_reducible refine DL.r_tup ?_ | with_reducible refine DL.r_b ?_ | with_reducible refine DL.r_not ?_ | with_reducible refine DL.r_and ?_ | with_reducible refine DL.r_or ?_ | with_reducible refine DL.r_andV ?_ | with_reducible refine DL.r_orV ?_ | with_reducible refine DL.r_notV ?_ | with_reducible refine DL.r_neg ?_ | with_reducible refine DL.r_par ?_ | with_reducible refine DL.r_par3 ?_ | with_reducible refine DL.r_gname ?_ | with_reducible refine DL.r_callO ?_ | (with_reducible apply DL.r_var; focus exact rfl) | with_reducible refine DL.r_if1 ?_ | with_reducible refine DL.r_if0 ?_)
          refine r_var rfl ?_
          repeat (first | with_reducible refine DL.r_seq ?_ | with_reducible refine DL.r_next ?_ | with_reducible refine DL.r_ret ?_ | with_reducible refine DL.r_ifS ?_ | with_reducible refine DL.r_asg ?_ | with_reducible refine DL.r_drop ?_ | with_reducible refine DL.r_c ?_ | with_reducible refine DL.r_nil ?_ | with_reducible refine DL.r_cons ?_ | with_reducible refine DL.r_op ?_ | with_reducible refine DL.r_cb ?_ | with_reducible refine DL.r_ofL ?_ | with_reducible refine DL.r_lst ?_ | with_reducible refine DL.r_tup ?_ | with_reducible refine DL.r_b ?_ | with_reducible refine DL.r_not ?_ | with_reducible refine DL.r_and ?_ | with_reducible refine DL.r_or ?_ | with_reducible refine DL.r_andV ?_ | with_reducible refine DL.r_orV ?_ | with_reducible refine DL.r_notV ?_ | with_reducible refine DL.r_neg ?_ | with_reducible refine DL.r_par ?_ | with_reducible refine DL.r_par3 ?_ | with_reducible refine DL.r_gname ?_ | with_reducible refine DL.r_callO ?_ | (with_reducible apply DL.r_var; focus exact rfl) | with_reducible refine DL.r_if1 ?_ | with_reducible refine DL.r_if0 ?_)
          refine eq_int ?_
          change (if (way == 6) = true then _ else _)
          cases h6 : way == 6 with
          | true =>
            refine r_if1 ?_
            refine r_var rfl ?_
            exact q _ _ oL (by show b - cost (k + 1) ≤ b''; omega)
          | false =>
            refine r_if0 ?_
            repeat (first | with_reducible refine DL.r_seq ?_ | with_reducible refine DL.r_next ?_ | with_reducible refine DL.r_ret ?_ | with_reducible refine DL.r_ifS ?_ | with_reducible refine DL.r_asg ?_ | with_reducible refine DL.r_drop ?_ | with_reducible refine DL.r_c ?_ | with_reducible refine DL.r_nil ?_ | with_reducible refine DL.r_cons ?_ | with_reducible refine DL.r_op ?_ | with_reducible refine DL.r_cb ?_ | with_reducible refine DL.r_ofL ?_ | with_reducible refine DL.r_lst ?_ | with_reducible refine DL.r_tup ?_ | with_reducible refine DL.r_b ?_ | with_reducible refine DL.r_not ?_ | with_reducible refine DL.r_and ?_ | with_reducible refine DL.r_or ?_ | with_reducible refine DL.r_andV ?_ | with_reducible refine DL.r_orV ?_ | with_reducible refine DL.r_notV ?_ | with_reducible refine DL.r_neg ?_ | with_reducible refine DL.r_par ?_ | with_reducible refine DL.r_par3 ?_ | with_reducible refine DL.r_gname ?_ | with_reducible refine DL.r_callO ?_ | (with_reducible apply DL.r_var; focus exact rfl) | with_reducible refine DL.r_if1 ?_ | with_reducible refine DL.r_if0 ?_)
            refine r_var rfl ?_
            repeat (first | with_reducible refine DL.r_seq ?_ | with_reducible refine DL.r_next ?_ | with_reducible refine DL.r_ret ?_ | with_reducible refine DL.r_ifS ?_ | with_reducible refine DL.r_asg ?_ | with_reducible refine DL.r_drop ?_ | with_reducible refine DL.r_c ?_ | with_reducible refine DL.r_nil ?_ | with_reducible refine DL.r_cons ?_ | with_reducible refine DL.r_op ?_ | with_reducible refine DL.r_cb ?_ | with_reducible refine DL.r_ofL ?_ | with_reducible refine DL.r_lst ?_ | with_reducible refine DL.r_tup ?_ | with_reducible refine DL.r_b ?_ | with_reducible refine DL.r_not ?_ | with_reducible refine DL.r_and ?_ | with_reducible refine DL.r_or ?_ | with_reducible refine DL.r_andV ?_ | with_reducible refine DL.r_orV ?_ | with_reducible refine DL.r_notV ?_ | with_reducible refine DL.r_neg ?_ | with_reducible refine DL.r_par ?_ | with_reducible refine DL.r_par3 ?_ | with_reducible refine DL.r_gname ?_ | with_reducible refine DL.r_callO ?_ | (with_reducible apply DL.r_var; focus exact rfl) | with_reducible refine DL.r_if1 ?_ | with_reducible refine DL.r_if0 ?_)
            exact q _ _ oT (by show b - cost (k + 1) ≤ b''; omega)
end
end K01

namespace K01
open PySem L2 DL DX
abbrev N_law : List Str := ["script", "paw", "turn", "word", "other", "parts", "kept", "due", "paper", "denial", "value", "part"]
theorem sc_law : FnScope N_law ["script"] (defScope s_law) := ⟨rfl, rfl, rfl, by decide +kernel, rfl, by decide +kernel, by decide +kernel⟩
structure Calls (P : Program) (w : World) (K : PySem.W.Frag) (mg : Str → Option Value) (base : Heap) (CP CD : Addr) : Prop where
  te : Fn P w K mg base 1 "_law_tell" s__law_tell ["paw", "many"] CTell
  pi : Fn P w K mg base 2 "_law_pick" s__law_pick N_p CPick
  va : ∀ n, Fn P w K mg base (n + 2) "_law_value" s__law_value ["paw", "deep"] (CVal n)
  fx : FnF P w K mg base 7 "fixed" s_fixed ["value"] (CF 7)
  lf : FnF P w K mg base 7 "_law_fixed" s__law_fixed ["value"] (CF 7)
  ma : FnF P w K mg base 10 "_law_made" s__law_made N__law_made (CMade CP CD)
  eqP : EqF P w K mg base 2 CP (CSame CP CD)
  eqD : EqF P w K mg base 2 CD (CSame CP CD)
  boP : BoF P w K mg base 1 CP (CTrue true CP)
  boD : BoF P w K mg base 1 CD (CTrue false CD)
def SL (e2 e3 e4 e5 e6 e7 e8 e9 e10 e11 : EV) (b : Nat) : DS := ⟨[.un, .fz .paw, e2, e3, e4, e5, e6, e7, e8, e9, e10, e11], b⟩
def InvT (xs : List D) (s : DS) : Prop := (∀ x ∈ xs, ∃ i, x = .int i) ∧ ∃ e2 e3 e4 e5 e6 e7 e8 e9 e10 e11 b, s = SL e2 e3 e4 e5 e6 e7 e8 e9 e10 e11 b ∧ 700 * xs.length ≤ b
theorem ne_bl {s : DS} {a c : Bool} {Q : D → Prop} (q : Q (.bl (!(a == c)))) : fEq true s (.bl a) (.bl c) Q := by
  refine ⟨by cases a <;> decide +kernel, by cases c <;> decide +kernel, ?_⟩
  have e : PyData.eqv (.bool a) (.bool c) = (a == c) := by cases a <;> cases c <;> rfl
  show Q (.bl (if true then !(PyData.eqv (.bool a) (.bool c)) else _))
  rw [e]
  exact q
theorem k_slT {t : DE} {l h : DO} {s : DS} {Q : D → DS → Prop} (q : t s fun d s1 => l s1 fun a s2 => h s2 fun b s3 => match d with
  | .tup xs => Q (.tup (cutD xs a b)) s3
  | _ => False) : dSlT t l h s Q := q
theorem cut1 : ∀ {xs : List D}, xs.length ≤ 3 → cutD xs (some 1) none = xs.tail
  | [], _ => rfl
  | [_], _ => rfl
  | [_, _], _ => rfl
  | [_, _, _], _ => rfl
theorem tail_fix {f : D → D} : ∀ {xs : List D}, xs.map f = xs → xs.tail.map f = xs.tail
  | [], _ => rfl
  | _ :: _, h => by
    injection h
theorem es_bl {s : DS} {a c : Str} {Q : D → Prop} (q : Q (.bl (a == c))) : fES s (.str a) (.str c) Q := q
theorem ns_same {s : DS} {a : Str} {Q : D → Prop} (q : Q (.bl false)) : fNS s (.str a) (.str a) Q := by
  show Q (.bl (!(a == a)))
  rw [beq_self_eq_true]
  exact q
section
variable {P : Program} {w : World} {K : PySem.W.Frag} {mg : Str → Option Value} {base : Heap} {CP CD : Addr}
/-- a field of a paper in a slot -/
theorem fld_w (T : Txt K mg CP CD) {C : Addr} (hC : C = CP ∨ C = CD) {S : DS} {i : Nat} {wn : Str} {du : List D} (v : S.sl[i]? = some (.fz (pap C wn du))) {Q : D → DS → Prop} (q : Q (.str wn) S) : dFldG K "word" (dVar i) S Q := by
  obtain ⟨c, a⟩ := fld_of T hC
  refine k_fldG ?_
  refine r_var v ?_
  exact (show ((Cls K C ∧ NoAttr K C "word") ∧ _) from ⟨⟨c, a _ (by decide)⟩, q⟩)
theorem fld_p (T : Txt K mg CP CD) {C : Addr} (hC : C = CP ∨ C = CD) {S : DS} {i : Nat} {wn : Str} {du : List D} (v : S.sl[i]? = some (.fz (pap C wn du))) {Q : D → DS → Prop} (q : Q (.tup du) S) : dFldG K "parts" (dVar i) S Q := by
  obtain ⟨c, a⟩ := fld_of T hC
  refine k_fldG ?_
  refine r_var v ?_
  exact (show ((Cls K C ∧ NoAttr K C "parts") ∧ _) from ⟨⟨c, a _ (by decide)⟩, q⟩)
section
variable {s : DS} {C C' : Addr} {wn wn' : Str} {ps ps' : List D} {neg : Bool} {Q : D → Prop}
theorem eqS_gen (hC : C = CP ∨ C = CD) (hn : PySem.W.notFirst K C (.ref C) = true) (o : okW 6 (.tup ps) = true) (o' : okW 6 (.tup ps') = true) (q1 : wn ≠ wn' → Q (.bl neg))
    (q2 : wn = wn' → ∀ r, (ps = ps' → r = true) → (ps.length ≠ ps'.length → r = false) → Q (.bl (if neg then !r else r))) : fOE K neg C (CSame CP CD) s (pap C wn ps) (pap C wn' ps') Q := by
  refine ⟨rfl, hn, C, wn, ps, _, rfl, hC, o, .inr (.inr ⟨C, wn', ps', rfl, hC, o', fun h => absurd rfl h, fun _ h => ⟨false, rfl, rfl, ?_⟩, fun _ h r r1 r2 => ⟨r, rfl, rfl, q2 h r r1 r2⟩⟩)⟩
  have := q1 h
  cases neg <;> exact this
theorem eqS_same (hC : C = CP ∨ C = CD) (hn : PySem.W.notFirst K C (.ref C) = true) (o : okW 6 (.tup ps) = true) (q : Q (.bl (!neg))) : fOE K neg C (CSame CP CD) s (pap C wn ps) (pap C wn ps) Q := by
  refine eqS_gen hC hn o o (fun h => absurd rfl h) fun _ r r1 _ => ?_
  rw [r1 rfl]
  cases neg <;> exact q
theorem eqS_word (hC : C = CP ∨ C = CD) (hn : PySem.W.notFirst K C (.ref C) = true) (o : okW 6 (.tup ps) = true) (q : Q (.bl (wn == wn'))) : fOE K false C (CSame CP CD) s (pap C wn ps) (pap C wn' ps) Q := by
  refine eqS_gen hC hn o o (fun h => ?_) fun h r r1 _ => ?_
  · rw [show (wn == wn') = false from by simpa using h] at q
    exact q
  · rw [r1 rfl]
    rw [show (wn == wn') = true from by simpa using h] at q
    exact q
theorem eqS_len (hC : C = CP ∨ C = CD) (hn : PySem.W.notFirst K C (.ref C) = true) (o : okW 6 (.tup ps) = true) (o' : okW 6 (.tup ps') = true) (hl : ps.length ≠ ps'.length) (q : Q (.bl false)) : fOE K false C (CSame CP CD) s (pap C wn ps) (pap C wn' ps') Q := by
  refine eqS_gen hC hn o o' (fun h => q) fun h r _ r2 => ?_
  rw [r2 hl]
  exact q
theorem eqS_cls (hC : C = CP ∨ C = CD) (hC' : C' = CP ∨ C' = CD) (hn : PySem.W.notFirst K C (.ref C') = true) (hne : C ≠ C') (o : okW 6 (.tup ps) = true) (o' : okW 6 (.tup ps') = true) (q : Q (.bl false)) : fOE K false C (CSame CP CD) s (pap C wn ps) (pap C' wn' ps') Q :=
  ⟨rfl, hn, C, wn, ps, _, rfl, hC, o, .inr (.inr ⟨C', wn', ps', rfl, hC', o', fun _ => ⟨false, rfl, rfl, q⟩, fun h => absurd h hne, fun h => absurd h hne⟩)⟩
theorem eqS_sub (hC : C = CP ∨ C = CD) (hC' : C' = CP ∨ C' = CD) (hne : C' ≠ C) (o : okW 6 (.tup ps) = true) (o' : okW 6 (.tup ps') = true) (q : Q (.bl false)) : fOS K C C' (CSame CP CD) s (pap C wn ps) (pap C' wn' ps') Q :=
  ⟨rfl, rfl, C', wn', ps', _, rfl, hC', o', .inr (.inr ⟨C, wn, ps, rfl, hC, o, fun _ => ⟨false, rfl, rfl, q⟩, fun h => absurd h hne, fun h => absurd h hne⟩)⟩
theorem eqS_tup {xs : List D} (hC : C = CP ∨ C = CD) (hn : PySem.W.notFirst K C (.type "tuple") = true) (o : okW 6 (.tup ps) = true) (q : Q (.bl false)) : fOE K false C (CSame CP CD) s (pap C wn ps) (.tup xs) Q :=
  ⟨rfl, hn, C, wn, ps, _, rfl, hC, o, .inr (.inl ⟨xs, rfl, false, rfl, rfl, q⟩)⟩
theorem eqS_str {x : Str} (hC : C = CP ∨ C = CD) (hn : PySem.W.notFirst K C (.type "str") = true) (o : okW 6 (.tup ps) = true) (q : Q (.bl false)) : fOE K false C (CSame CP CD) s (pap C wn ps) (.str x) Q :=
  ⟨rfl, hn, C, wn, ps, _, rfl, hC, o, .inl ⟨x, rfl, false, rfl, rfl, q⟩⟩
end
theorem law_body (T : Txt K mg CP CD) (G : Mks P w K mg base CP CD) (G' : Calls P w K mg base CP CD) {A : Around} {outer : List Env} {f : Addr} {cdv : Value} {s : Shared} {H : Hp} {E : XK} (hr : Room 10 (A.deeper (PyProof.Rows.envOfC "law" (defScope s_law) s.heap.objs.size f cdv)))
    (hgd : (A.deeper (PyProof.Rows.envOfC "law" (defScope s_law) s.heap.objs.size f cdv)).guards = some []) :
    ∃ ts t, PDSs (cxOf CX0 P w K mg base N_law "law" (defScope s_law) f cdv A outer s H E).nox ((defBody s_law).drop 1) ts t ∧ t { nx := fun _ => False, rt := fun d _ => d = .bl true } ⟨.un :: .fz .paw :: List.replicate 10 .un, 1000000⟩ := by
  have nd := sc_law.nd
  have hu : (A.deeper (PyProof.Rows.envOfC "law" (defScope s_law) s.heap.objs.size f cdv)).units + 64 < cLine := by have := hr.un; omega
  have G__law_tell := G'.te
  have G__law_pick := G'.pi
  have G__law_value := G'.va 4
  have G__law_value5 := G'.va 5
  have G_fixed := G'.fx
  have G__law_fixed := G'.lf
  have G__law_made := G'.ma
  have r4 := hr.mono (show 4 ≤ 10 by decide)
  have r3 := hr.mono (show 3 ≤ 10 by decide)
  refine ⟨_, _, (dss_cons (ds_for PassesOwn.never rfl (di_range1 (by rfl) T.b_range (da_cons d_int da_nil)) (dg_name (i := 2) nd rfl (by first | exact .inl rfl | exact .inr rfl)) (dss_cons (ds_par (i := 3) (j := 4) rfl nd rfl rfl (by decide) rfl rfl (da_cons (d_call G__law_pick (hr.mono (by decide)) hgd (da_cons (dv 1) (da_cons (d_ofL (dl_lst (da_cons d_str (da_cons d_str (da_cons d_str da_nil))))) da_nil))) (da_cons (d_call G__law_pick (hr.mono (by decide)) hgd (da_cons (dv 1) (da_cons (d_ofL (dl_lst (da_cons d_str (da_cons d_str da_nil)))) da_nil))) da_nil)) (by rfl))
      (dss_cons (ds_set (i := 5) nd rfl (Or.inl rfl) (d_callTy b_tuple (by rfl) T.b_tuple (by decide +kernel) (da_cons (d_ofL (dl_lc (own := [("part", 11)]) rfl nd (di_range1 (by rfl) T.b_range (da_cons (d_call G__law_tell (hr.mono (by decide)) hgd (da_cons (dv 1) (da_cons d_int da_nil))) da_nil)) (blkOk_by (N := N_law) (sc := defScope s_law) (by decide +kernel)) (gk_name (by decide)) (fun _ _ _ _ _ => (dg_name (i := 11) nd rfl (by first | exact .inl rfl | exact .inr rfl))) (fun _ _ _ _ _ => by exact dts_nil) (fun _ _ _ _ _ => by exact (d_callX G__law_value (hr.mono (by decide)) hgd (da_cons (dv 1) (da_cons d_int da_nil)))))) da_nil)))
      (dss_cons (ds_par (i := 6) (j := 7) rfl nd rfl rfl (by decide) rfl rfl (da_cons (d_callB (b_reprQ hgd hu) (by rfl) T.b_repr (by decide +kernel) (da_cons (dv 5) da_nil)) (da_cons (d_callF G__law_fixed (hr.mono (by decide)) (da_cons (dv 5) da_nil)) da_nil)) (by rfl))
      (dss_cons (ds_par (i := 8) (j := 9) rfl nd rfl rfl (by decide) rfl rfl (da_cons (d_callF G__law_made (hr.mono (by decide)) (da_cons (dv 3) (da_cons (dv 5) (da_cons d_bl da_nil)))) (da_cons (d_callF G__law_made (hr.mono (by decide)) (da_cons (dv 3) (da_cons (dv 5) (da_cons d_bl da_nil)))) da_nil)) (by rfl))
      (dss_cons (ds_if (dt_cmp o_nS (d_callB (b_reprQ hgd hu) (by rfl) T.b_repr (by decide +kernel) (da_cons (d_ofL (dl_lst (da_cons (d_fldG K "word" rfl (dv 8)) (da_cons (d_fldG K "parts" rfl (dv 8)) (da_cons (d_callTy (b_bo G'.boP r3) (by rfl) T.b_bool (by decide +kernel) (da_cons (dv 8) da_nil)) (da_cons (d_fldG K "word" rfl (dv 9)) (da_cons (d_fldG K "parts" rfl (dv 9)) (da_cons (d_callTy (b_bo G'.boD r3) (by rfl) T.b_bool (by decide +kernel) (da_cons (dv 9) da_nil)) da_nil)))))))) da_nil)) (d_callB (b_reprQ hgd hu) (by rfl) T.b_repr (by decide +kernel) (da_cons (d_ofL (dl_lst (da_cons (dv 3) (da_cons (dv 7) (da_cons d_bl (da_cons (dv 3) (da_cons (dv 7) (da_cons d_bl da_nil)))))))) da_nil))) (dss_one (ds_ret d_bl)) dss_nil)
      (dss_cons (ds_if (PDW.pt (dw_or (dt_cmp o_nS (d_callB (b_reprQ hgd hu) (by rfl) T.b_repr (by decide +kernel) (da_cons (dv 5) da_nil)) (dv 6)) (dw_or (dt_val (d_callB (b_isO K rfl) (by rfl) T.b_isinstance (by decide +kernel) (da_cons (dv 8) (da_cons (d_glob (v := .ref CD) (d := .raw (.ref CD)) (by rfl) T.n_Denial rfl (fun _ => .raw _)) da_nil)))) (dw_or1 (dt_not (dt_val (d_callB (b_isO K rfl) (by rfl) T.b_isinstance (by decide +kernel) (da_cons (dv 9) (da_cons (d_glob (v := .ref CP) (d := .raw (.ref CP)) (by rfl) T.n_Paper rfl (fun _ => .raw _)) da_nil))))))))) (dss_one (ds_ret d_bl)) dss_nil)
      (dss_cons (ds_if (PDW.pt (dw_or (dt_cmp (o_on G'.eqP r4) (dv 8) (d_callF G__law_made (hr.mono (by decide)) (da_cons (dv 3) (da_cons (dv 7) (da_cons d_bl da_nil))))) (dw_or (dt_cmp (o_on G'.eqD r4) (dv 9) (d_callF G__law_made (hr.mono (by decide)) (da_cons (dv 3) (da_cons (dv 7) (da_cons d_bl da_nil))))) (dw_or (dt_cmp (o_os (C := CP) G'.eqD T.ne T.sub r3) (dv 8) (dv 9)) (dw_or1 (dt_cmp (o_oe G'.eqD r3) (dv 9) (dv 8))))))) (dss_one (ds_ret d_bl)) dss_nil)
      (dss_cons (ds_if (PDW.pt (dw_or (dt_cmp (o_ne hu) (d_cmp (o_oe G'.eqP r3) (d_callF G__law_made (hr.mono (by decide)) (da_cons (dv 4) (da_cons (dv 5) (da_cons d_bl da_nil)))) (dv 8)) (d_cmp o_eS (dv 4) (dv 3))) (dw_or (dt_cmp (o_oe G'.eqP r3) (dv 8) (dv 7)) (dw_or1 (dt_cmp (o_oe G'.eqP r3) (dv 8) (dv 3)))))) (dss_one (ds_ret d_bl)) dss_nil)
      (dss_cons (ds_if (PDW.pt (dw_or (dt_cmp (o_ne hu) (d_cmp (o_oe G'.eqD r3) (d_callF G__law_made (hr.mono (by decide)) (da_cons (dv 3) (da_cons (d_sliceT (dv 7) (do_some d_int) do_none) (da_cons d_bl da_nil)))) (dv 9)) (d_cmp (o_eqK K hu rfl) (dv 7) (d_tup da_nil))) (dw_or1 (dt_cmp (o_oe G'.eqP r3) (dv 8) (d_makeS G.Paper (hr.mono (by decide)) (da_cons (dv 3) (da_cons d_int (da_cons d_int (da_cons d_int (da_cons d_int da_nil)))))))))) (dss_one (ds_ret d_bl)) dss_nil)
      (dss_cons (ds_set (i := 10) nd rfl (Or.inl rfl) (d_call G__law_value5 (hr.mono (by decide)) hgd (da_cons (dv 1) (da_cons d_int da_nil))))
      (dss_one (ds_if (PDW.pt (dw_or (dt_cmp o_nS (d_callB (b_reprQ hgd hu) (by rfl) T.b_repr (by decide +kernel) (da_cons (d_callF G_fixed (hr.mono (by decide)) (da_cons (dv 10) da_nil)) da_nil)) (d_callB (b_reprQ hgd hu) (by rfl) T.b_repr (by decide +kernel) (da_cons (d_callF G__law_fixed (hr.mono (by decide)) (da_cons (dv 10) da_nil)) da_nil))) (dw_or1 (dt_cmp o_nS (d_callB (b_reprQ hgd hu) (by rfl) T.b_repr (by decide +kernel) (da_cons (d_callK0 (is := [0]) G_fixed.fn (hr.mono (by decide)) hgd (dk_cons (dv 5) dk_nil) (fun _ _ _ _ _ _ ws h => match ws, h with | [_], _ => rfl)) da_nil)) (d_callB (b_reprQ hgd hu) (by rfl) T.b_repr (by decide +kernel) (da_cons (dv 7) da_nil)))))) (dss_one (ds_ret d_bl)) dss_nil)))))))))))))
      (dss_one (ds_ret d_bl))), ?_⟩
  repeat (first | with_reducible refine DL.r_seq ?_ | with_reducible refine DL.r_next ?_ | with_reducible refine DL.r_ret ?_ | with_reducible refine DL.r_ifS ?_ | with_reducible refine DL.r_asg ?_ | with_reducible refine DL.r_drop ?_ | with_reducible refine DL.r_c ?_ | with_reducible refine DL.r_nil ?_ | with_reducible refine DL.r_cons ?_ | with_reducible refine DL.r_op ?_ | with_reducible refine DL.r_cb ?_ | with_reducible refine DL.r_ofL ?_ | with_reducible refine DL.r_lst ?_ | with_reducible refine DL.r_tup ?_ | with_reducible refine DL.r_b ?_ | with_reducible refine DL.r_not ?_ | with_reducible refine DL.r_and ?_ | with_reducible refine DL.r_or ?_ | with_reducible refine DL.r_andV ?_ | with_reducible refine DL.r_orV ?_ | with_reducible refine DL.r_notV ?_ | with_reducible refine DL.r_neg ?_ | with_reducible refine DL.r_par ?_ | with_reducible refine DL.r_par3 ?_ | with_reducible refine DL.r_gname ?_ | with_reducible refine DL.r_callO ?_ | (with_reducible apply DL.r_var; focus exact rfl) | with_reducible refine DL.r_if1 ?_ | with_reducible refine DL.r_if0 ?_)
  refine k_for (k_rng1 ?_)
  repeat (first | with_reducible refine DL.r_seq ?_ | with_reducible refine DL.r_next ?_ | with_reducible refine DL.r_ret ?_ | with_reducible refine DL.r_ifS ?_ | with_reducible refine DL.r_asg ?_ | with_reducible refine DL.r_drop ?_ | with_reducible refine DL.r_c ?_ | with_reducible refine DL.r_nil ?_ | with_reducible refine DL.r_cons ?_ | with_reducible refine DL.r_op ?_ | with_reducible refine DL.r_cb ?_ | with_reducible refine DL.r_ofL ?_ | with_reducible refine DL.r_lst ?_ | with_reducible refine DL.r_tup ?_ | with_reducible refine DL.r_b ?_ | with_reducible refine DL.r_not ?_ | with_reducible refine DL.r_and ?_ | with_reducible refine DL.r_or ?_ | with_reducible refine DL.r_andV ?_ | with_reducible refine DL.r_orV ?_ | with_reducible refine DL.r_notV ?_ | with_reducible refine DL.r_neg ?_ | with_reducible refine DL.r_par ?_ | with_reducible refine DL.r_par3 ?_ | with_reducible refine DL.r_gname ?_ | with_reducible refine DL.r_callO ?_ | (with_reducible apply DL.r_var; focus exact rfl) | with_reducible refine DL.r_if1 ?_ | with_reducible refine DL.r_if0 ?_)
  refine ⟨by decide, by decide, rfl, forL_ind (I := InvT) ?_ ?_ _ _ ⟨fun x hx => ?_, _, _, _, _, _, _, _, _, _, _, _, rfl, ?_⟩⟩
  · intro s _
    refine ⟨trivial, ?_⟩
    repeat (first | with_reducible refine DL.r_seq ?_ | with_reducible refine DL.r_next ?_ | with_reducible refine DL.r_ret ?_ | with_reducible refine DL.r_ifS ?_ | with_reducible refine DL.r_asg ?_ | with_reducible refine DL.r_drop ?_ | with_reducible refine DL.r_c ?_ | with_reducible refine DL.r_nil ?_ | with_reducible refine DL.r_cons ?_ | with_reducible refine DL.r_op ?_ | with_reducible refine DL.r_cb ?_ | with_reducible refine DL.r_ofL ?_ | with_reducible refine DL.r_lst ?_ | with_reducible refine DL.r_tup ?_ | with_reducible refine DL.r_b ?_ | with_reducible refine DL.r_not ?_ | with_reducible refine DL.r_and ?_ | with_reducible refine DL.r_or ?_ | with_reducible refine DL.r_andV ?_ | with_reducible refine DL.r_orV ?_ | with_reducible refine DL.r_notV ?_ | with_reducible refine DL.r_neg ?_ | with_reducible refine DL.r_par ?_ | with_reducible refine DL.r_par3 ?_ | with_reducible refine DL.r_gname ?_ | with_reducible refine DL.r_callO ?_ | (with_reducible apply DL.r_var; focus exact rfl) | with_reducible refine DL.r_if1 ?_ | with_reducible refine DL.r_if0 ?_)
    rfl
  · rintro x xs s ⟨hx, e2, e3, e4, e5, e6, e7, e8, e9, e10, e11, b, rfl, hb⟩ ih
    refine ⟨trivial, ?_⟩
    obtain ⟨j, rfl⟩ := hx x (List.mem_cons_self ..)
    have hb7 : 700 ≤ b := by rw [List.length_cons] at hb; omega
    refine r_gname ?_
    change dSeq _ _ _ (SL (.fz (.int j)) e3 e4 e5 e6 e7 e8 e9 e10 e11 b)
    repeat (first | with_reducible refine DL.r_seq ?_ | with_reducible refine DL.r_next ?_ | with_reducible refine DL.r_ret ?_ | with_reducible refine DL.r_ifS ?_ | with_reducible refine DL.r_asg ?_ | with_reducible refine DL.r_drop ?_ | with_reducible refine DL.r_c ?_ | with_reducible refine DL.r_nil ?_ | with_reducible refine DL.r_cons ?_ | with_reducible refine DL.r_op ?_ | with_reducible refine DL.r_cb ?_ | with_reducible refine DL.r_ofL ?_ | with_reducible refine DL.r_lst ?_ | with_reducible refine DL.r_tup ?_ | with_reducible refine DL.r_b ?_ | with_reducible refine DL.r_not ?_ | with_reducible refine DL.r_and ?_ | with_reducible refine DL.r_or ?_ | with_reducible refine DL.r_andV ?_ | with_reducible refine DL.r_orV ?_ | with_reducible refine DL.r_notV ?_ | with_reducible refine DL.r_neg ?_ | with_reducible refine DL.r_par ?_ | with_reducible refine DL.r_par3 ?_ | with_reducible refine DL.r_gname ?_ | with_reducible refine DL.r_callO ?_ | (with_reducible apply DL.r_var; focus exact rfl) | with_reducible refine DL.r_if1 ?_ | with_reducible refine DL.r_if0 ?_)
    refine r_call (s1 := SL (.fz (.int j)) e3 e4 e5 e6 e7 e8 e9 e10 e11 b) (ds := [.paw, .lst [.str "ends", .str "ring", .str ""]]) (fun R h => ?_) rfl ⟨_, rfl, by decide, by decide, rfl, ?_, fun wd hwd => ?_⟩
    · repeat (first | with_reducible refine DL.r_seq ?_ | with_reducible refine DL.r_next ?_ | with_reducible refine DL.r_ret ?_ | with_reducible refine DL.r_ifS ?_ | with_reducible refine DL.r_asg ?_ | with_reducible refine DL.r_drop ?_ | with_reducible refine DL.r_c ?_ | with_reducible refine DL.r_nil ?_ | with_reducible refine DL.r_cons ?_ | with_reducible refine DL.r_op ?_ | with_reducible refine DL.r_cb ?_ | with_reducible refine DL.r_ofL ?_ | with_reducible refine DL.r_lst ?_ | with_reducible refine DL.r_tup ?_ | with_reducible refine DL.r_b ?_ | with_reducible refine DL.r_not ?_ | with_reducible refine DL.r_and ?_ | with_reducible refine DL.r_or ?_ | with_reducible refine DL.r_andV ?_ | with_reducible refine DL.r_orV ?_ | with_reducible refine DL.r_notV ?_ | with_reducible refine DL.r_neg ?_ | with_reducible refine DL.r_par ?_ | with_reducible refine DL.r_par3 ?_ | with_reducible refine DL.r_gname ?_ | with_reducible refine DL.r_callO ?_ | (with_reducible apply DL.r_var; focus exact rfl) | with_reducible refine DL.r_if1 ?_ | with_reducible refine DL.r_if0 ?_)
      exact ⟨by decide, rfl, h⟩
    · show 1 ≤ b
      omega
    obtain ⟨wn, rfl, hw⟩ : ∃ wn : Str, wd = .str wn ∧ shortP (.str wn) = true := by
      simp only [List.mem_cons, List.not_mem_nil, or_false] at hwd
      rcases hwd with rfl | rfl | rfl <;> exact ⟨_, rfl, by decide +kernel⟩
    repeat (first | with_reducible refine DL.r_seq ?_ | with_reducible refine DL.r_next ?_ | with_reducible refine DL.r_ret ?_ | with_reducible refine DL.r_ifS ?_ | with_reducible refine DL.r_asg ?_ | with_reducible refine DL.r_drop ?_ | with_reducible refine DL.r_c ?_ | with_reducible refine DL.r_nil ?_ | with_reducible refine DL.r_cons ?_ | with_reducible refine DL.r_op ?_ | with_reducible refine DL.r_cb ?_ | with_reducible refine DL.r_ofL ?_ | with_reducible refine DL.r_lst ?_ | with_reducible refine DL.r_tup ?_ | with_reducible refine DL.r_b ?_ | with_reducible refine DL.r_not ?_ | with_reducible refine DL.r_and ?_ | with_reducible refine DL.r_or ?_ | with_reducible refine DL.r_andV ?_ | with_reducible refine DL.r_orV ?_ | with_reducible refine DL.r_notV ?_ | with_reducible refine DL.r_neg ?_ | with_reducible refine DL.r_par ?_ | with_reducible refine DL.r_par3 ?_ | with_reducible refine DL.r_gname ?_ | with_reducible refine DL.r_callO ?_ | (with_reducible apply DL.r_var; focus exact rfl) | with_reducible refine DL.r_if1 ?_ | with_reducible refine DL.r_if0 ?_)
    refine r_call (s1 := SL (.fz (.int j)) e3 e4 e5 e6 e7 e8 e9 e10 e11 (b - 1)) (ds := [.paw, .lst [.str "ends", .str "trap"]]) (fun R h => ?_) rfl ⟨_, rfl, by decide, by decide, rfl, ?_, fun od hod => ?_⟩
    · repeat (first | with_reducible refine DL.r_seq ?_ | with_reducible refine DL.r_next ?_ | with_reducible refine DL.r_ret ?_ | with_reducible refine DL.r_ifS ?_ | with_reducible refine DL.r_asg ?_ | with_reducible refine DL.r_drop ?_ | with_reducible refine DL.r_c ?_ | with_reducible refine DL.r_nil ?_ | with_reducible refine DL.r_cons ?_ | with_reducible refine DL.r_op ?_ | with_reducible refine DL.r_cb ?_ | with_reducible refine DL.r_ofL ?_ | with_reducible refine DL.r_lst ?_ | with_reducible refine DL.r_tup ?_ | with_reducible refine DL.r_b ?_ | with_reducible refine DL.r_not ?_ | with_reducible refine DL.r_and ?_ | with_reducible refine DL.r_or ?_ | with_reducible refine DL.r_andV ?_ | with_reducible refine DL.r_orV ?_ | with_reducible refine DL.r_notV ?_ | with_reducible refine DL.r_neg ?_ | with_reducible refine DL.r_par ?_ | with_reducible refine DL.r_par3 ?_ | with_reducible refine DL.r_gname ?_ | with_reducible refine DL.r_callO ?_ | (with_reducible apply DL.r_var; focus exact rfl) | with_reducible refine DL.r_if1 ?_ | with_reducible refine DL.r_if0 ?_)
      exact ⟨by decide, rfl, h⟩
    · show 1 ≤ b - 1
      omega
    obtain ⟨on, rfl⟩ : ∃ on : Str, od = .str on := by
      simp only [List.mem_cons, List.not_mem_nil, or_false] at hod
      rcases hod with rfl | rfl <;> exact ⟨_, rfl⟩
    repeat (first | with_reducible refine DL.r_seq ?_ | with_reducible refine DL.r_next ?_ | with_reducible refine DL.r_ret ?_ | with_reducible refine DL.r_ifS ?_ | with_reducible refine DL.r_asg ?_ | with_reducible refine DL.r_drop ?_ | with_reducible refine DL.r_c ?_ | with_reducible refine DL.r_nil ?_ | with_reducible refine DL.r_cons ?_ | with_reducible refine DL.r_op ?_ | with_reducible refine DL.r_cb ?_ | with_reducible refine DL.r_ofL ?_ | with_reducible refine DL.r_lst ?_ | with_reducible refine DL.r_tup ?_ | with_reducible refine DL.r_b ?_ | with_reducible refine DL.r_not ?_ | with_reducible refine DL.r_and ?_ | with_reducible refine DL.r_or ?_ | with_reducible refine DL.r_andV ?_ | with_reducible refine DL.r_orV ?_ | with_reducible refine DL.r_notV ?_ | with_reducible refine DL.r_neg ?_ | with_reducible refine DL.r_par ?_ | with_reducible refine DL.r_par3 ?_ | with_reducible refine DL.r_gname ?_ | with_reducible refine DL.r_callO ?_ | (with_reducible apply DL.r_var; focus exact rfl) | with_reducible refine DL.r_if1 ?_ | with_reducible refine DL.r_if0 ?_)
    refine ⟨rfl, rfl, ?_⟩
    dsimp only
    change dSeq _ _ _ (SL (.fz (.int j)) (.fz (.str wn)) (.fz (.str on)) e5 e6 e7 e8 e9 e10 e11 (b - 2))
    repeat (first | with_reducible refine DL.r_seq ?_ | with_reducible refine DL.r_next ?_ | with_reducible refine DL.r_ret ?_ | with_reducible refine DL.r_ifS ?_ | with_reducible refine DL.r_asg ?_ | with_reducible refine DL.r_drop ?_ | with_reducible refine DL.r_c ?_ | with_reducible refine DL.r_nil ?_ | with_reducible refine DL.r_cons ?_ | with_reducible refine DL.r_op ?_ | with_reducible refine DL.r_cb ?_ | with_reducible refine DL.r_ofL ?_ | with_reducible refine DL.r_lst ?_ | with_reducible refine DL.r_tup ?_ | with_reducible refine DL.r_b ?_ | with_reducible refine DL.r_not ?_ | with_reducible refine DL.r_and ?_ | with_reducible refine DL.r_or ?_ | with_reducible refine DL.r_andV ?_ | with_reducible refine DL.r_orV ?_ | with_reducible refine DL.r_notV ?_ | with_reducible refine DL.r_neg ?_ | with_reducible refine DL.r_par ?_ | with_reducible refine DL.r_par3 ?_ | with_reducible refine DL.r_gname ?_ | with_reducible refine DL.r_callO ?_ | (with_reducible apply DL.r_var; focus exact rfl) | with_reducible refine DL.r_if1 ?_ | with_reducible refine DL.r_if0 ?_)
    refine k_lc (k_rng1 ?_)
    repeat (first | with_reducible refine DL.r_seq ?_ | with_reducible refine DL.r_next ?_ | with_reducible refine DL.r_ret ?_ | with_reducible refine DL.r_ifS ?_ | with_reducible refine DL.r_asg ?_ | with_reducible refine DL.r_drop ?_ | with_reducible refine DL.r_c ?_ | with_reducible refine DL.r_nil ?_ | with_reducible refine DL.r_cons ?_ | with_reducible refine DL.r_op ?_ | with_reducible refine DL.r_cb ?_ | with_reducible refine DL.r_ofL ?_ | with_reducible refine DL.r_lst ?_ | with_reducible refine DL.r_tup ?_ | with_reducible refine DL.r_b ?_ | with_reducible refine DL.r_not ?_ | with_reducible refine DL.r_and ?_ | with_reducible refine DL.r_or ?_ | with_reducible refine DL.r_andV ?_ | with_reducible refine DL.r_orV ?_ | with_reducible refine DL.r_notV ?_ | with_reducible refine DL.r_neg ?_ | with_reducible refine DL.r_par ?_ | with_reducible refine DL.r_par3 ?_ | with_reducible refine DL.r_gname ?_ | with_reducible refine DL.r_callO ?_ | (with_reducible apply DL.r_var; focus exact rfl) | with_reducible refine DL.r_if1 ?_ | with_reducible refine DL.r_if0 ?_)
    refine r_call (s1 := SL (.fz (.int j)) (.fz (.str wn)) (.fz (.str on)) e5 e6 e7 e8 e9 e10 e11 (b - 2)) (ds := [.paw, .int 4]) (fun _ h => h) rfl ⟨4, rfl, by decide, by decide, ?_, fun r q0 q1 => ?_⟩
    · show 1 ≤ b - 2
      omega
    repeat (first | with_reducible refine DL.r_seq ?_ | with_reducible refine DL.r_next ?_ | with_reducible refine DL.r_ret ?_ | with_reducible refine DL.r_ifS ?_ | with_reducible refine DL.r_asg ?_ | with_reducible refine DL.r_drop ?_ | with_reducible refine DL.r_c ?_ | with_reducible refine DL.r_nil ?_ | with_reducible refine DL.r_cons ?_ | with_reducible refine DL.r_op ?_ | with_reducible refine DL.r_cb ?_ | with_reducible refine DL.r_ofL ?_ | with_reducible refine DL.r_lst ?_ | with_reducible refine DL.r_tup ?_ | with_reducible refine DL.r_b ?_ | with_reducible refine DL.r_not ?_ | with_reducible refine DL.r_and ?_ | with_reducible refine DL.r_or ?_ | with_reducible refine DL.r_andV ?_ | with_reducible refine DL.r_orV ?_ | with_reducible refine DL.r_notV ?_ | with_reducible refine DL.r_neg ?_ | with_reducible refine DL.r_par ?_ | with_reducible refine DL.r_par3 ?_ | with_reducible refine DL.r_gname ?_ | with_reducible refine DL.r_callO ?_ | (with_reducible apply DL.r_var; focus exact rfl) | with_reducible refine DL.r_if1 ?_ | with_reducible refine DL.r_if0 ?_)
    refine ⟨by omega, by omega, trivial, ?_⟩
    change lcL _ _ _ _ _ _ _ (SL (.fz (.int j)) (.fz (.str wn)) (.fz (.str on)) e5 e6 e7 e8 e9 e10 .un (b - 3)) _
    refine lcW_any (ok := fun d => okW 5 d = true) (S0 := fun b => SL (.fz (.int j)) (.fz (.str wn)) (.fz (.str on)) e5 e6 e7 e8 e9 e10 .un b) (k := cost 3) (fun _ => trivial) (fun x hx b' hb' R hR => ?_) ?_ ?_ ?_ ?_
    · refine r_gname ?_
      change dCall _ _ (SL (.fz (.int j)) (.fz (.str wn)) (.fz (.str on)) e5 e6 e7 e8 e9 e10 (.fz x) b') _
      refine r_call (s1 := SL (.fz (.int j)) (.fz (.str wn)) (.fz (.str on)) e5 e6 e7 e8 e9 e10 (.fz x) b') (ds := [.paw, .int 3]) (fun R' h => h) rfl ⟨3, rfl, rfl, by decide, hb', fun d b'' hd hb'' => ?_⟩
      exact hR d _ b'' hd (okW_slot hd) hb'' rfl
    · rw [nums_length, show cost 3 = 107 from rfl]
      omega
    · rw [nums_length, List.length_nil]
      omega
    · intro y hy
      simp at hy
    intro ys b1 y1 y2 y3
    rw [nums_length, List.length_nil] at y1
    rw [nums_length, show cost 3 = 107 from rfl] at y3
    have yl : ys.length ≤ 3 := by omega
    have hb1 : b - 324 ≤ b1 := by omega
    have hps : okW 6 (.tup ys) = true := by
      rw [okW, Bool.and_eq_true, decide_eq_true_eq]
      exact ⟨by omega, List.all_eq_true.mpr y2⟩
    repeat (first | with_reducible refine DL.r_seq ?_ | with_reducible refine DL.r_next ?_ | with_reducible refine DL.r_ret ?_ | with_reducible refine DL.r_ifS ?_ | with_reducible refine DL.r_asg ?_ | with_reducible refine DL.r_drop ?_ | with_reducible refine DL.r_c ?_ | with_reducible refine DL.r_nil ?_ | with_reducible refine DL.r_cons ?_ | with_reducible refine DL.r_op ?_ | with_reducible refine DL.r_cb ?_ | with_reducible refine DL.r_ofL ?_ | with_reducible refine DL.r_lst ?_ | with_reducible refine DL.r_tup ?_ | with_reducible refine DL.r_b ?_ | with_reducible refine DL.r_not ?_ | with_reducible refine DL.r_and ?_ | with_reducible refine DL.r_or ?_ | with_reducible refine DL.r_andV ?_ | with_reducible refine DL.r_orV ?_ | with_reducible refine DL.r_notV ?_ | with_reducible refine DL.r_neg ?_ | with_reducible refine DL.r_par ?_ | with_reducible refine DL.r_par3 ?_ | with_reducible refine DL.r_gname ?_ | with_reducible refine DL.r_callO ?_ | (with_reducible apply DL.r_var; focus exact rfl) | with_reducible refine DL.r_if1 ?_ | with_reducible refine DL.r_if0 ?_)
    refine ⟨rfl, r_gname ?_⟩
    dsimp only
    change dSeq _ _ _ (SL (.fz (.int j)) (.fz (.str wn)) (.fz (.str on)) (.fz (.tup ys)) e6 e7 e8 e9 e10 .un b1)
    obtain ⟨du, hdu⟩ : ∃ du, du = ys.map (fixD 5) := ⟨_, rfl⟩
    have fdu : fixD 6 (.tup ys) = .tup du := by rw [hdu, fixD]
    have odu : okW 6 (.tup du) = true := fdu ▸ fix_ok 6 _ hps
    have ldu : du.length = ys.length := by rw [hdu, List.length_map]
    have ddu : du.map (fixD 5) = du := by
      rw [hdu, List.map_map]
      exact List.map_congr_left fun x _ => fix_fix 5 x
    obtain ⟨x1, rep1⟩ := repr_W (okW_up 6 _ hps)
    obtain ⟨x2, rep2⟩ := repr_W (d := .lst [.str wn, .tup du, .bl true, .str wn, .tup du, .bl false]) (by
      show (decide (6 ≤ 6) && (shortP (.str wn) && (okW 6 (.tup du) && (true && (shortP (.str wn) && (okW 6 (.tup du) && (true && true))))))) = true
      rw [hw, odu]
      rfl)
    repeat (first | with_reducible refine DL.r_seq ?_ | with_reducible refine DL.r_next ?_ | with_reducible refine DL.r_ret ?_ | with_reducible refine DL.r_ifS ?_ | with_reducible refine DL.r_asg ?_ | with_reducible refine DL.r_drop ?_ | with_reducible refine DL.r_c ?_ | with_reducible refine DL.r_nil ?_ | with_reducible refine DL.r_cons ?_ | with_reducible refine DL.r_op ?_ | with_reducible refine DL.r_cb ?_ | with_reducible refine DL.r_ofL ?_ | with_reducible refine DL.r_lst ?_ | with_reducible refine DL.r_tup ?_ | with_reducible refine DL.r_b ?_ | with_reducible refine DL.r_not ?_ | with_reducible refine DL.r_and ?_ | with_reducible refine DL.r_or ?_ | with_reducible refine DL.r_andV ?_ | with_reducible refine DL.r_orV ?_ | with_reducible refine DL.r_notV ?_ | with_reducible refine DL.r_neg ?_ | with_reducible refine DL.r_par ?_ | with_reducible refine DL.r_par3 ?_ | with_reducible refine DL.r_gname ?_ | with_reducible refine DL.r_callO ?_ | (with_reducible apply DL.r_var; focus exact rfl) | with_reducible refine DL.r_if1 ?_ | with_reducible refine DL.r_if0 ?_)
    refine r_var rfl ?_
    repeat (first | with_reducible refine DL.r_seq ?_ | with_reducible refine DL.r_next ?_ | with_reducible refine DL.r_ret ?_ | with_reducible refine DL.r_ifS ?_ | with_reducible refine DL.r_asg ?_ | with_reducible refine DL.r_drop ?_ | with_reducible refine DL.r_c ?_ | with_reducible refine DL.r_nil ?_ | with_reducible refine DL.r_cons ?_ | with_reducible refine DL.r_op ?_ | with_reducible refine DL.r_cb ?_ | with_reducible refine DL.r_ofL ?_ | with_reducible refine DL.r_lst ?_ | with_reducible refine DL.r_tup ?_ | with_reducible refine DL.r_b ?_ | with_reducible refine DL.r_not ?_ | with_reducible refine DL.r_and ?_ | with_reducible refine DL.r_or ?_ | with_reducible refine DL.r_andV ?_ | with_reducible refine DL.r_orV ?_ | with_reducible refine DL.r_notV ?_ | with_reducible refine DL.r_neg ?_ | with_reducible refine DL.r_par ?_ | with_reducible refine DL.r_par3 ?_ | with_reducible refine DL.r_gname ?_ | with_reducible refine DL.r_callO ?_ | (with_reducible apply DL.r_var; focus exact rfl) | with_reducible refine DL.r_if1 ?_ | with_reducible refine DL.r_if0 ?_)
    refine rep1 _ _ ?_
    repeat (first | with_reducible refine DL.r_seq ?_ | with_reducible refine DL.r_next ?_ | with_reducible refine DL.r_ret ?_ | with_reducible refine DL.r_ifS ?_ | with_reducible refine DL.r_asg ?_ | with_reducible refine DL.r_drop ?_ | with_reducible refine DL.r_c ?_ | with_reducible refine DL.r_nil ?_ | with_reducible refine DL.r_cons ?_ | with_reducible refine DL.r_op ?_ | with_reducible refine DL.r_cb ?_ | with_reducible refine DL.r_ofL ?_ | with_reducible refine DL.r_lst ?_ | with_reducible refine DL.r_tup ?_ | with_reducible refine DL.r_b ?_ | with_reducible refine DL.r_not ?_ | with_reducible refine DL.r_and ?_ | with_reducible refine DL.r_or ?_ | with_reducible refine DL.r_andV ?_ | with_reducible refine DL.r_orV ?_ | with_reducible refine DL.r_notV ?_ | with_reducible refine DL.r_neg ?_ | with_reducible refine DL.r_par ?_ | with_reducible refine DL.r_par3 ?_ | with_reducible refine DL.r_gname ?_ | with_reducible refine DL.r_callO ?_ | (with_reducible apply DL.r_var; focus exact rfl) | with_reducible refine DL.r_if1 ?_ | with_reducible refine DL.r_if0 ?_)
    refine r_call (s1 := SL (.fz (.int j)) (.fz (.str wn)) (.fz (.str on)) (.fz (.tup ys)) e6 e7 e8 e9 e10 .un b1) (ds := [.tup ys]) (fun _ h => h) rfl ⟨.tup ys, 6, rfl, rfl, hps, ?_⟩
    rw [fdu]
    repeat (first | with_reducible refine DL.r_seq ?_ | with_reducible refine DL.r_next ?_ | with_reducible refine DL.r_ret ?_ | with_reducible refine DL.r_ifS ?_ | with_reducible refine DL.r_asg ?_ | with_reducible refine DL.r_drop ?_ | with_reducible refine DL.r_c ?_ | with_reducible refine DL.r_nil ?_ | with_reducible refine DL.r_cons ?_ | with_reducible refine DL.r_op ?_ | with_reducible refine DL.r_cb ?_ | with_reducible refine DL.r_ofL ?_ | with_reducible refine DL.r_lst ?_ | with_reducible refine DL.r_tup ?_ | with_reducible refine DL.r_b ?_ | with_reducible refine DL.r_not ?_ | with_reducible refine DL.r_and ?_ | with_reducible refine DL.r_or ?_ | with_reducible refine DL.r_andV ?_ | with_reducible refine DL.r_orV ?_ | with_reducible refine DL.r_notV ?_ | with_reducible refine DL.r_neg ?_ | with_reducible refine DL.r_par ?_ | with_reducible refine DL.r_par3 ?_ | with_reducible refine DL.r_gname ?_ | with_reducible refine DL.r_callO ?_ | (with_reducible apply DL.r_var; focus exact rfl) | with_reducible refine DL.r_if1 ?_ | with_reducible refine DL.r_if0 ?_)
    refine ⟨rfl, rfl, ?_⟩
    dsimp only
    change dSeq _ _ _ (SL (.fz (.int j)) (.fz (.str wn)) (.fz (.str on)) (.fz (.tup ys)) (.fz (.str x1)) (.fz (.tup du)) e8 e9 e10 .un b1)
    repeat (first | with_reducible refine DL.r_seq ?_ | with_reducible refine DL.r_next ?_ | with_reducible refine DL.r_ret ?_ | with_reducible refine DL.r_ifS ?_ | with_reducible refine DL.r_asg ?_ | with_reducible refine DL.r_drop ?_ | with_reducible refine DL.r_c ?_ | with_reducible refine DL.r_nil ?_ | with_reducible refine DL.r_cons ?_ | with_reducible refine DL.r_op ?_ | with_reducible refine DL.r_cb ?_ | with_reducible refine DL.r_ofL ?_ | with_reducible refine DL.r_lst ?_ | with_reducible refine DL.r_tup ?_ | with_reducible refine DL.r_b ?_ | with_reducible refine DL.r_not ?_ | with_reducible refine DL.r_and ?_ | with_reducible refine DL.r_or ?_ | with_reducible refine DL.r_andV ?_ | with_reducible refine DL.r_orV ?_ | with_reducible refine DL.r_notV ?_ | with_reducible refine DL.r_neg ?_ | with_reducible refine DL.r_par ?_ | with_reducible refine DL.r_par3 ?_ | with_reducible refine DL.r_gname ?_ | with_reducible refine DL.r_callO ?_ | (with_reducible apply DL.r_var; focus exact rfl) | with_reducible refine DL.r_if1 ?_ | with_reducible refine DL.r_if0 ?_)
    refine r_call (s1 := SL (.fz (.int j)) (.fz (.str wn)) (.fz (.str on)) (.fz (.tup ys)) (.fz (.str x1)) (.fz (.tup du)) e8 e9 e10 .un b1) (ds := [.str wn, .tup ys, .bl false]) (fun _ h => h) rfl ⟨wn, ys, false, rfl, yl, hps, ?_⟩
    rw [← hdu]
    repeat (first | with_reducible refine DL.r_seq ?_ | with_reducible refine DL.r_next ?_ | with_reducible refine DL.r_ret ?_ | with_reducible refine DL.r_ifS ?_ | with_reducible refine DL.r_asg ?_ | with_reducible refine DL.r_drop ?_ | with_reducible refine DL.r_c ?_ | with_reducible refine DL.r_nil ?_ | with_reducible refine DL.r_cons ?_ | with_reducible refine DL.r_op ?_ | with_reducible refine DL.r_cb ?_ | with_reducible refine DL.r_ofL ?_ | with_reducible refine DL.r_lst ?_ | with_reducible refine DL.r_tup ?_ | with_reducible refine DL.r_b ?_ | with_reducible refine DL.r_not ?_ | with_reducible refine DL.r_and ?_ | with_reducible refine DL.r_or ?_ | with_reducible refine DL.r_andV ?_ | with_reducible refine DL.r_orV ?_ | with_reducible refine DL.r_notV ?_ | with_reducible refine DL.r_neg ?_ | with_reducible refine DL.r_par ?_ | with_reducible refine DL.r_par3 ?_ | with_reducible refine DL.r_gname ?_ | with_reducible refine DL.r_callO ?_ | (with_reducible apply DL.r_var; focus exact rfl) | with_reducible refine DL.r_if1 ?_ | with_reducible refine DL.r_if0 ?_)
    refine r_call (s1 := SL (.fz (.int j)) (.fz (.str wn)) (.fz (.str on)) (.fz (.tup ys)) (.fz (.str x1)) (.fz (.tup du)) e8 e9 e10 .un b1) (ds := [.str wn, .tup ys, .bl true]) (fun _ h => h) rfl ⟨wn, ys, true, rfl, yl, hps, ?_⟩
    rw [← hdu]
    repeat (first | with_reducible refine DL.r_seq ?_ | with_reducible refine DL.r_next ?_ | with_reducible refine DL.r_ret ?_ | with_reducible refine DL.r_ifS ?_ | with_reducible refine DL.r_asg ?_ | with_reducible refine DL.r_drop ?_ | with_reducible refine DL.r_c ?_ | with_reducible refine DL.r_nil ?_ | with_reducible refine DL.r_cons ?_ | with_reducible refine DL.r_op ?_ | with_reducible refine DL.r_cb ?_ | with_reducible refine DL.r_ofL ?_ | with_reducible refine DL.r_lst ?_ | with_reducible refine DL.r_tup ?_ | with_reducible refine DL.r_b ?_ | with_reducible refine DL.r_not ?_ | with_reducible refine DL.r_and ?_ | with_reducible refine DL.r_or ?_ | with_reducible refine DL.r_andV ?_ | with_reducible refine DL.r_orV ?_ | with_reducible refine DL.r_notV ?_ | with_reducible refine DL.r_neg ?_ | with_reducible refine DL.r_par ?_ | with_reducible refine DL.r_par3 ?_ | with_reducible refine DL.r_gname ?_ | with_reducible refine DL.r_callO ?_ | (with_reducible apply DL.r_var; focus exact rfl) | with_reducible refine DL.r_if1 ?_ | with_reducible refine DL.r_if0 ?_)
    refine ⟨rfl, rfl, ?_⟩
    dsimp only
    obtain ⟨S, hS⟩ : ∃ S, S = SL (.fz (.int j)) (.fz (.str wn)) (.fz (.str on)) (.fz (.tup ys)) (.fz (.str x1)) (.fz (.tup du)) (.fz (pap CP wn du)) (.fz (pap CD wn du)) e10 .un b1 := ⟨_, rfl⟩
    change dSeq _ _ _ (SL (.fz (.int j)) (.fz (.str wn)) (.fz (.str on)) (.fz (.tup ys)) (.fz (.str x1)) (.fz (.tup du)) (.fz (pap CP wn du)) (.fz (pap CD wn du)) e10 .un b1)
    have v1 : S.sl[1]? = some (.fz .paw) := by rw [hS]; rfl
    have v3 : S.sl[3]? = some (.fz (.str wn)) := by rw [hS]; rfl
    have v4 : S.sl[4]? = some (.fz (.str on)) := by rw [hS]; rfl
    have v5 : S.sl[5]? = some (.fz (.tup ys)) := by rw [hS]; rfl
    have v6 : S.sl[6]? = some (.fz (.str x1)) := by rw [hS]; rfl
    have v7 : S.sl[7]? = some (.fz (.tup du)) := by rw [hS]; rfl
    have v8 : S.sl[8]? = some (.fz (pap CP wn du)) := by rw [hS]; rfl
    have v9 : S.sl[9]? = some (.fz (pap CD wn du)) := by rw [hS]; rfl
    rw [← hS]
    have pC : CP = CP ∨ CP = CD := .inl rfl
    have dC' : CD = CP ∨ CD = CD := .inr rfl
    repeat (first | with_reducible refine DL.r_seq ?_ | with_reducible refine DL.r_next ?_ | with_reducible refine DL.r_ret ?_ | with_reducible refine DL.r_ifS ?_ | with_reducible refine DL.r_asg ?_ | with_reducible refine DL.r_drop ?_ | with_reducible refine DL.r_c ?_ | with_reducible refine DL.r_nil ?_ | with_reducible refine DL.r_cons ?_ | with_reducible refine DL.r_op ?_ | with_reducible refine DL.r_cb ?_ | with_reducible refine DL.r_ofL ?_ | with_reducible refine DL.r_lst ?_ | with_reducible refine DL.r_tup ?_ | with_reducible refine DL.r_b ?_ | with_reducible refine DL.r_not ?_ | with_reducible refine DL.r_and ?_ | with_reducible refine DL.r_or ?_ | with_reducible refine DL.r_andV ?_ | with_reducible refine DL.r_orV ?_ | with_reducible refine DL.r_notV ?_ | with_reducible refine DL.r_neg ?_ | with_reducible refine DL.r_par ?_ | with_reducible refine DL.r_par3 ?_ | with_reducible refine DL.r_gname ?_ | with_reducible refine DL.r_callO ?_ | (with_reducible apply DL.r_var; focus exact rfl) | with_reducible refine DL.r_if1 ?_ | with_reducible refine DL.r_if0 ?_)
    refine fld_w T pC v8 ?_
    repeat (first | with_reducible refine DL.r_seq ?_ | with_reducible refine DL.r_next ?_ | with_reducible refine DL.r_ret ?_ | with_reducible refine DL.r_ifS ?_ | with_reducible refine DL.r_asg ?_ | with_reducible refine DL.r_drop ?_ | with_reducible refine DL.r_c ?_ | with_reducible refine DL.r_nil ?_ | with_reducible refine DL.r_cons ?_ | with_reducible refine DL.r_op ?_ | with_reducible refine DL.r_cb ?_ | with_reducible refine DL.r_ofL ?_ | with_reducible refine DL.r_lst ?_ | with_reducible refine DL.r_tup ?_ | with_reducible refine DL.r_b ?_ | with_reducible refine DL.r_not ?_ | with_reducible refine DL.r_and ?_ | with_reducible refine DL.r_or ?_ | with_reducible refine DL.r_andV ?_ | with_reducible refine DL.r_orV ?_ | with_reducible refine DL.r_notV ?_ | with_reducible refine DL.r_neg ?_ | with_reducible refine DL.r_par ?_ | with_reducible refine DL.r_par3 ?_ | with_reducible refine DL.r_gname ?_ | with_reducible refine DL.r_callO ?_ | (with_reducible apply DL.r_var; focus exact rfl) | with_reducible refine DL.r_if1 ?_ | with_reducible refine DL.r_if0 ?_)
    refine fld_p T pC v8 ?_
    repeat (first | with_reducible refine DL.r_seq ?_ | with_reducible refine DL.r_next ?_ | with_reducible refine DL.r_ret ?_ | with_reducible refine DL.r_ifS ?_ | with_reducible refine DL.r_asg ?_ | with_reducible refine DL.r_drop ?_ | with_reducible refine DL.r_c ?_ | with_reducible refine DL.r_nil ?_ | with_reducible refine DL.r_cons ?_ | with_reducible refine DL.r_op ?_ | with_reducible refine DL.r_cb ?_ | with_reducible refine DL.r_ofL ?_ | with_reducible refine DL.r_lst ?_ | with_reducible refine DL.r_tup ?_ | with_reducible refine DL.r_b ?_ | with_reducible refine DL.r_not ?_ | with_reducible refine DL.r_and ?_ | with_reducible refine DL.r_or ?_ | with_reducible refine DL.r_andV ?_ | with_reducible refine DL.r_orV ?_ | with_reducible refine DL.r_notV ?_ | with_reducible refine DL.r_neg ?_ | with_reducible refine DL.r_par ?_ | with_reducible refine DL.r_par3 ?_ | with_reducible refine DL.r_gname ?_ | with_reducible refine DL.r_callO ?_ | (with_reducible apply DL.r_var; focus exact rfl) | with_reducible refine DL.r_if1 ?_ | with_reducible refine DL.r_if0 ?_)
    refine r_var v8 ?_
    repeat (first | with_reducible refine DL.r_seq ?_ | with_reducible refine DL.r_next ?_ | with_reducible refine DL.r_ret ?_ | with_reducible refine DL.r_ifS ?_ | with_reducible refine DL.r_asg ?_ | with_reducible refine DL.r_drop ?_ | with_reducible refine DL.r_c ?_ | with_reducible refine DL.r_nil ?_ | with_reducible refine DL.r_cons ?_ | with_reducible refine DL.r_op ?_ | with_reducible refine DL.r_cb ?_ | with_reducible refine DL.r_ofL ?_ | with_reducible refine DL.r_lst ?_ | with_reducible refine DL.r_tup ?_ | with_reducible refine DL.r_b ?_ | with_reducible refine DL.r_not ?_ | with_reducible refine DL.r_and ?_ | with_reducible refine DL.r_or ?_ | with_reducible refine DL.r_andV ?_ | with_reducible refine DL.r_orV ?_ | with_reducible refine DL.r_notV ?_ | with_reducible refine DL.r_neg ?_ | with_reducible refine DL.r_par ?_ | with_reducible refine DL.r_par3 ?_ | with_reducible refine DL.r_gname ?_ | with_reducible refine DL.r_callO ?_ | (with_reducible apply DL.r_var; focus exact rfl) | with_reducible refine DL.r_if1 ?_ | with_reducible refine DL.r_if0 ?_)
    refine ⟨rfl, wn, du, rfl, true, rfl, rfl, ?_⟩
    repeat (first | with_reducible refine DL.r_seq ?_ | with_reducible refine DL.r_next ?_ | with_reducible refine DL.r_ret ?_ | with_reducible refine DL.r_ifS ?_ | with_reducible refine DL.r_asg ?_ | with_reducible refine DL.r_drop ?_ | with_reducible refine DL.r_c ?_ | with_reducible refine DL.r_nil ?_ | with_reducible refine DL.r_cons ?_ | with_reducible refine DL.r_op ?_ | with_reducible refine DL.r_cb ?_ | with_reducible refine DL.r_ofL ?_ | with_reducible refine DL.r_lst ?_ | with_reducible refine DL.r_tup ?_ | with_reducible refine DL.r_b ?_ | with_reducible refine DL.r_not ?_ | with_reducible refine DL.r_and ?_ | with_reducible refine DL.r_or ?_ | with_reducible refine DL.r_andV ?_ | with_reducible refine DL.r_orV ?_ | with_reducible refine DL.r_notV ?_ | with_reducible refine DL.r_neg ?_ | with_reducible refine DL.r_par ?_ | with_reducible refine DL.r_par3 ?_ | with_reducible refine DL.r_gname ?_ | with_reducible refine DL.r_callO ?_ | (with_reducible apply DL.r_var; focus exact rfl) | with_reducible refine DL.r_if1 ?_ | with_reducible refine DL.r_if0 ?_)
    refine fld_w T dC' v9 ?_
    repeat (first | with_reducible refine DL.r_seq ?_ | with_reducible refine DL.r_next ?_ | with_reducible refine DL.r_ret ?_ | with_reducible refine DL.r_ifS ?_ | with_reducible refine DL.r_asg ?_ | with_reducible refine DL.r_drop ?_ | with_reducible refine DL.r_c ?_ | with_reducible refine DL.r_nil ?_ | with_reducible refine DL.r_cons ?_ | with_reducible refine DL.r_op ?_ | with_reducible refine DL.r_cb ?_ | with_reducible refine DL.r_ofL ?_ | with_reducible refine DL.r_lst ?_ | with_reducible refine DL.r_tup ?_ | with_reducible refine DL.r_b ?_ | with_reducible refine DL.r_not ?_ | with_reducible refine DL.r_and ?_ | with_reducible refine DL.r_or ?_ | with_reducible refine DL.r_andV ?_ | with_reducible refine DL.r_orV ?_ | with_reducible refine DL.r_notV ?_ | with_reducible refine DL.r_neg ?_ | with_reducible refine DL.r_par ?_ | with_reducible refine DL.r_par3 ?_ | with_reducible refine DL.r_gname ?_ | with_reducible refine DL.r_callO ?_ | (with_reducible apply DL.r_var; focus exact rfl) | with_reducible refine DL.r_if1 ?_ | with_reducible refine DL.r_if0 ?_)
    refine fld_p T dC' v9 ?_
    repeat (first | with_reducible refine DL.r_seq ?_ | with_reducible refine DL.r_next ?_ | with_reducible refine DL.r_ret ?_ | with_reducible refine DL.r_ifS ?_ | with_reducible refine DL.r_asg ?_ | with_reducible refine DL.r_drop ?_ | with_reducible refine DL.r_c ?_ | with_reducible refine DL.r_nil ?_ | with_reducible refine DL.r_cons ?_ | with_reducible refine DL.r_op ?_ | with_reducible refine DL.r_cb ?_ | with_reducible refine DL.r_ofL ?_ | with_reducible refine DL.r_lst ?_ | with_reducible refine DL.r_tup ?_ | with_reducible refine DL.r_b ?_ | with_reducible refine DL.r_not ?_ | with_reducible refine DL.r_and ?_ | with_reducible refine DL.r_or ?_ | with_reducible refine DL.r_andV ?_ | with_reducible refine DL.r_orV ?_ | with_reducible refine DL.r_notV ?_ | with_reducible refine DL.r_neg ?_ | with_reducible refine DL.r_par ?_ | with_reducible refine DL.r_par3 ?_ | with_reducible refine DL.r_gname ?_ | with_reducible refine DL.r_callO ?_ | (with_reducible apply DL.r_var; focus exact rfl) | with_reducible refine DL.r_if1 ?_ | with_reducible refine DL.r_if0 ?_)
    refine r_var v9 ?_
    repeat (first | with_reducible refine DL.r_seq ?_ | with_reducible refine DL.r_next ?_ | with_reducible refine DL.r_ret ?_ | with_reducible refine DL.r_ifS ?_ | with_reducible refine DL.r_asg ?_ | with_reducible refine DL.r_drop ?_ | with_reducible refine DL.r_c ?_ | with_reducible refine DL.r_nil ?_ | with_reducible refine DL.r_cons ?_ | with_reducible refine DL.r_op ?_ | with_reducible refine DL.r_cb ?_ | with_reducible refine DL.r_ofL ?_ | with_reducible refine DL.r_lst ?_ | with_reducible refine DL.r_tup ?_ | with_reducible refine DL.r_b ?_ | with_reducible refine DL.r_not ?_ | with_reducible refine DL.r_and ?_ | with_reducible refine DL.r_or ?_ | with_reducible refine DL.r_andV ?_ | with_reducible refine DL.r_orV ?_ | with_reducible refine DL.r_notV ?_ | with_reducible refine DL.r_neg ?_ | with_reducible refine DL.r_par ?_ | with_reducible refine DL.r_par3 ?_ | with_reducible refine DL.r_gname ?_ | with_reducible refine DL.r_callO ?_ | (with_reducible apply DL.r_var; focus exact rfl) | with_reducible refine DL.r_if1 ?_ | with_reducible refine DL.r_if0 ?_)
    refine ⟨rfl, wn, du, rfl, false, rfl, rfl, ?_⟩
    repeat (first | with_reducible refine DL.r_seq ?_ | with_reducible refine DL.r_next ?_ | with_reducible refine DL.r_ret ?_ | with_reducible refine DL.r_ifS ?_ | with_reducible refine DL.r_asg ?_ | with_reducible refine DL.r_drop ?_ | with_reducible refine DL.r_c ?_ | with_reducible refine DL.r_nil ?_ | with_reducible refine DL.r_cons ?_ | with_reducible refine DL.r_op ?_ | with_reducible refine DL.r_cb ?_ | with_reducible refine DL.r_ofL ?_ | with_reducible refine DL.r_lst ?_ | with_reducible refine DL.r_tup ?_ | with_reducible refine DL.r_b ?_ | with_reducible refine DL.r_not ?_ | with_reducible refine DL.r_and ?_ | with_reducible refine DL.r_or ?_ | with_reducible refine DL.r_andV ?_ | with_reducible refine DL.r_orV ?_ | with_reducible refine DL.r_notV ?_ | with_reducible refine DL.r_neg ?_ | with_reducible refine DL.r_par ?_ | with_reducible refine DL.r_par3 ?_ | with_reducible refine DL.r_gname ?_ | with_reducible refine DL.r_callO ?_ | (with_reducible apply DL.r_var; focus exact rfl) | with_reducible refine DL.r_if1 ?_ | with_reducible refine DL.r_if0 ?_)
    refine ⟨by show 6 ≤ sizeLine; decide, rfl, ?_⟩
    repeat (first | with_reducible refine DL.r_seq ?_ | with_reducible refine DL.r_next ?_ | with_reducible refine DL.r_ret ?_ | with_reducible refine DL.r_ifS ?_ | with_reducible refine DL.r_asg ?_ | with_reducible refine DL.r_drop ?_ | with_reducible refine DL.r_c ?_ | with_reducible refine DL.r_nil ?_ | with_reducible refine DL.r_cons ?_ | with_reducible refine DL.r_op ?_ | with_reducible refine DL.r_cb ?_ | with_reducible refine DL.r_ofL ?_ | with_reducible refine DL.r_lst ?_ | with_reducible refine DL.r_tup ?_ | with_reducible refine DL.r_b ?_ | with_reducible refine DL.r_not ?_ | with_reducible refine DL.r_and ?_ | with_reducible refine DL.r_or ?_ | with_reducible refine DL.r_andV ?_ | with_reducible refine DL.r_orV ?_ | with_reducible refine DL.r_notV ?_ | with_reducible refine DL.r_neg ?_ | with_reducible refine DL.r_par ?_ | with_reducible refine DL.r_par3 ?_ | with_reducible refine DL.r_gname ?_ | with_reducible refine DL.r_callO ?_ | (with_reducible apply DL.r_var; focus exact rfl) | with_reducible refine DL.r_if1 ?_ | with_reducible refine DL.r_if0 ?_)
    refine rep2 _ _ ?_
    repeat (first | with_reducible refine DL.r_seq ?_ | with_reducible refine DL.r_next ?_ | with_reducible refine DL.r_ret ?_ | with_reducible refine DL.r_ifS ?_ | with_reducible refine DL.r_asg ?_ | with_reducible refine DL.r_drop ?_ | with_reducible refine DL.r_c ?_ | with_reducible refine DL.r_nil ?_ | with_reducible refine DL.r_cons ?_ | with_reducible refine DL.r_op ?_ | with_reducible refine DL.r_cb ?_ | with_reducible refine DL.r_ofL ?_ | with_reducible refine DL.r_lst ?_ | with_reducible refine DL.r_tup ?_ | with_reducible refine DL.r_b ?_ | with_reducible refine DL.r_not ?_ | with_reducible refine DL.r_and ?_ | with_reducible refine DL.r_or ?_ | with_reducible refine DL.r_andV ?_ | with_reducible refine DL.r_orV ?_ | with_reducible refine DL.r_notV ?_ | with_reducible refine DL.r_neg ?_ | with_reducible refine DL.r_par ?_ | with_reducible refine DL.r_par3 ?_ | with_reducible refine DL.r_gname ?_ | with_reducible refine DL.r_callO ?_ | (with_reducible apply DL.r_var; focus exact rfl) | with_reducible refine DL.r_if1 ?_ | with_reducible refine DL.r_if0 ?_)
    refine r_var v3 ?_
    repeat (first | with_reducible refine DL.r_seq ?_ | with_reducible refine DL.r_next ?_ | with_reducible refine DL.r_ret ?_ | with_reducible refine DL.r_ifS ?_ | with_reducible refine DL.r_asg ?_ | with_reducible refine DL.r_drop ?_ | with_reducible refine DL.r_c ?_ | with_reducible refine DL.r_nil ?_ | with_reducible refine DL.r_cons ?_ | with_reducible refine DL.r_op ?_ | with_reducible refine DL.r_cb ?_ | with_reducible refine DL.r_ofL ?_ | with_reducible refine DL.r_lst ?_ | with_reducible refine DL.r_tup ?_ | with_reducible refine DL.r_b ?_ | with_reducible refine DL.r_not ?_ | with_reducible refine DL.r_and ?_ | with_reducible refine DL.r_or ?_ | with_reducible refine DL.r_andV ?_ | with_reducible refine DL.r_orV ?_ | with_reducible refine DL.r_notV ?_ | with_reducible refine DL.r_neg ?_ | with_reducible refine DL.r_par ?_ | with_reducible refine DL.r_par3 ?_ | with_reducible refine DL.r_gname ?_ | with_reducible refine DL.r_callO ?_ | (with_reducible apply DL.r_var; focus exact rfl) | with_reducible refine DL.r_if1 ?_ | with_reducible refine DL.r_if0 ?_)
    refine r_var v7 ?_
    repeat (first | with_reducible refine DL.r_seq ?_ | with_reducible refine DL.r_next ?_ | with_reducible refine DL.r_ret ?_ | with_reducible refine DL.r_ifS ?_ | with_reducible refine DL.r_asg ?_ | with_reducible refine DL.r_drop ?_ | with_reducible refine DL.r_c ?_ | with_reducible refine DL.r_nil ?_ | with_reducible refine DL.r_cons ?_ | with_reducible refine DL.r_op ?_ | with_reducible refine DL.r_cb ?_ | with_reducible refine DL.r_ofL ?_ | with_reducible refine DL.r_lst ?_ | with_reducible refine DL.r_tup ?_ | with_reducible refine DL.r_b ?_ | with_reducible refine DL.r_not ?_ | with_reducible refine DL.r_and ?_ | with_reducible refine DL.r_or ?_ | with_reducible refine DL.r_andV ?_ | with_reducible refine DL.r_orV ?_ | with_reducible refine DL.r_notV ?_ | with_reducible refine DL.r_neg ?_ | with_reducible refine DL.r_par ?_ | with_reducible refine DL.r_par3 ?_ | with_reducible refine DL.r_gname ?_ | with_reducible refine DL.r_callO ?_ | (with_reducible apply DL.r_var; focus exact rfl) | with_reducible refine DL.r_if1 ?_ | with_reducible refine DL.r_if0 ?_)
    refine r_var v3 ?_
    repeat (first | with_reducible refine DL.r_seq ?_ | with_reducible refine DL.r_next ?_ | with_reducible refine DL.r_ret ?_ | with_reducible refine DL.r_ifS ?_ | with_reducible refine DL.r_asg ?_ | with_reducible refine DL.r_drop ?_ | with_reducible refine DL.r_c ?_ | with_reducible refine DL.r_nil ?_ | with_reducible refine DL.r_cons ?_ | with_reducible refine DL.r_op ?_ | with_reducible refine DL.r_cb ?_ | with_reducible refine DL.r_ofL ?_ | with_reducible refine DL.r_lst ?_ | with_reducible refine DL.r_tup ?_ | with_reducible refine DL.r_b ?_ | with_reducible refine DL.r_not ?_ | with_reducible refine DL.r_and ?_ | with_reducible refine DL.r_or ?_ | with_reducible refine DL.r_andV ?_ | with_reducible refine DL.r_orV ?_ | with_reducible refine DL.r_notV ?_ | with_reducible refine DL.r_neg ?_ | with_reducible refine DL.r_par ?_ | with_reducible refine DL.r_par3 ?_ | with_reducible refine DL.r_gname ?_ | with_reducible refine DL.r_callO ?_ | (with_reducible apply DL.r_var; focus exact rfl) | with_reducible refine DL.r_if1 ?_ | with_reducible refine DL.r_if0 ?_)
    refine r_var v7 ?_
    repeat (first | with_reducible refine DL.r_seq ?_ | with_reducible refine DL.r_next ?_ | with_reducible refine DL.r_ret ?_ | with_reducible refine DL.r_ifS ?_ | with_reducible refine DL.r_asg ?_ | with_reducible refine DL.r_drop ?_ | with_reducible refine DL.r_c ?_ | with_reducible refine DL.r_nil ?_ | with_reducible refine DL.r_cons ?_ | with_reducible refine DL.r_op ?_ | with_reducible refine DL.r_cb ?_ | with_reducible refine DL.r_ofL ?_ | with_reducible refine DL.r_lst ?_ | with_reducible refine DL.r_tup ?_ | with_reducible refine DL.r_b ?_ | with_reducible refine DL.r_not ?_ | with_reducible refine DL.r_and ?_ | with_reducible refine DL.r_or ?_ | with_reducible refine DL.r_andV ?_ | with_reducible refine DL.r_orV ?_ | with_reducible refine DL.r_notV ?_ | with_reducible refine DL.r_neg ?_ | with_reducible refine DL.r_par ?_ | with_reducible refine DL.r_par3 ?_ | with_reducible refine DL.r_gname ?_ | with_reducible refine DL.r_callO ?_ | (with_reducible apply DL.r_var; focus exact rfl) | with_reducible refine DL.r_if1 ?_ | with_reducible refine DL.r_if0 ?_)
    refine ⟨by show 6 ≤ sizeLine; decide, rfl, ?_⟩
    repeat (first | with_reducible refine DL.r_seq ?_ | with_reducible refine DL.r_next ?_ | with_reducible refine DL.r_ret ?_ | with_reducible refine DL.r_ifS ?_ | with_reducible refine DL.r_asg ?_ | with_reducible refine DL.r_drop ?_ | with_reducible refine DL.r_c ?_ | with_reducible refine DL.r_nil ?_ | with_reducible refine DL.r_cons ?_ | with_reducible refine DL.r_op ?_ | with_reducible refine DL.r_cb ?_ | with_reducible refine DL.r_ofL ?_ | with_reducible refine DL.r_lst ?_ | with_reducible refine DL.r_tup ?_ | with_reducible refine DL.r_b ?_ | with_reducible refine DL.r_not ?_ | with_reducible refine DL.r_and ?_ | with_reducible refine DL.r_or ?_ | with_reducible refine DL.r_andV ?_ | with_reducible refine DL.r_orV ?_ | with_reducible refine DL.r_notV ?_ | with_reducible refine DL.r_neg ?_ | with_reducible refine DL.r_par ?_ | with_reducible refine DL.r_par3 ?_ | with_reducible refine DL.r_gname ?_ | with_reducible refine DL.r_callO ?_ | (with_reducible apply DL.r_var; focus exact rfl) | with_reducible refine DL.r_if1 ?_ | with_reducible refine DL.r_if0 ?_)
    refine rep2 _ _ ?_
    refine ns_same ?_
    refine r_if0 ?_
    refine r_next ?_
    dsimp only
    repeat (first | with_reducible refine DL.r_seq ?_ | with_reducible refine DL.r_next ?_ | with_reducible refine DL.r_ret ?_ | with_reducible refine DL.r_ifS ?_ | with_reducible refine DL.r_asg ?_ | with_reducible refine DL.r_drop ?_ | with_reducible refine DL.r_c ?_ | with_reducible refine DL.r_nil ?_ | with_reducible refine DL.r_cons ?_ | with_reducible refine DL.r_op ?_ | with_reducible refine DL.r_cb ?_ | with_reducible refine DL.r_ofL ?_ | with_reducible refine DL.r_lst ?_ | with_reducible refine DL.r_tup ?_ | with_reducible refine DL.r_b ?_ | with_reducible refine DL.r_not ?_ | with_reducible refine DL.r_and ?_ | with_reducible refine DL.r_or ?_ | with_reducible refine DL.r_andV ?_ | with_reducible refine DL.r_orV ?_ | with_reducible refine DL.r_notV ?_ | with_reducible refine DL.r_neg ?_ | with_reducible refine DL.r_par ?_ | with_reducible refine DL.r_par3 ?_ | with_reducible refine DL.r_gname ?_ | with_reducible refine DL.r_callO ?_ | (with_reducible apply DL.r_var; focus exact rfl) | with_reducible refine DL.r_if1 ?_ | with_reducible refine DL.r_if0 ?_)
    refine r_var v5 ?_
    repeat (first | with_reducible refine DL.r_seq ?_ | with_reducible refine DL.r_next ?_ | with_reducible refine DL.r_ret ?_ | with_reducible refine DL.r_ifS ?_ | with_reducible refine DL.r_asg ?_ | with_reducible refine DL.r_drop ?_ | with_reducible refine DL.r_c ?_ | with_reducible refine DL.r_nil ?_ | with_reducible refine DL.r_cons ?_ | with_reducible refine DL.r_op ?_ | with_reducible refine DL.r_cb ?_ | with_reducible refine DL.r_ofL ?_ | with_reducible refine DL.r_lst ?_ | with_reducible refine DL.r_tup ?_ | with_reducible refine DL.r_b ?_ | with_reducible refine DL.r_not ?_ | with_reducible refine DL.r_and ?_ | with_reducible refine DL.r_or ?_ | with_reducible refine DL.r_andV ?_ | with_reducible refine DL.r_orV ?_ | with_reducible refine DL.r_notV ?_ | with_reducible refine DL.r_neg ?_ | with_reducible refine DL.r_par ?_ | with_reducible refine DL.r_par3 ?_ | with_reducible refine DL.r_gname ?_ | with_reducible refine DL.r_callO ?_ | (with_reducible apply DL.r_var; focus exact rfl) | with_reducible refine DL.r_if1 ?_ | with_reducible refine DL.r_if0 ?_)
    refine rep1 _ _ ?_
    repeat (first | with_reducible refine DL.r_seq ?_ | with_reducible refine DL.r_next ?_ | with_reducible refine DL.r_ret ?_ | with_reducible refine DL.r_ifS ?_ | with_reducible refine DL.r_asg ?_ | with_reducible refine DL.r_drop ?_ | with_reducible refine DL.r_c ?_ | with_reducible refine DL.r_nil ?_ | with_reducible refine DL.r_cons ?_ | with_reducible refine DL.r_op ?_ | with_reducible refine DL.r_cb ?_ | with_reducible refine DL.r_ofL ?_ | with_reducible refine DL.r_lst ?_ | with_reducible refine DL.r_tup ?_ | with_reducible refine DL.r_b ?_ | with_reducible refine DL.r_not ?_ | with_reducible refine DL.r_and ?_ | with_reducible refine DL.r_or ?_ | with_reducible refine DL.r_andV ?_ | with_reducible refine DL.r_orV ?_ | with_reducible refine DL.r_notV ?_ | with_reducible refine DL.r_neg ?_ | with_reducible refine DL.r_par ?_ | with_reducible refine DL.r_par3 ?_ | with_reducible refine DL.r_gname ?_ | with_reducible refine DL.r_callO ?_ | (with_reducible apply DL.r_var; focus exact rfl) | with_reducible refine DL.r_if1 ?_ | with_reducible refine DL.r_if0 ?_)
    refine r_var v6 ?_
    refine ns_same ?_
    refine r_if0 ?_
    repeat (first | with_reducible refine DL.r_seq ?_ | with_reducible refine DL.r_next ?_ | with_reducible refine DL.r_ret ?_ | with_reducible refine DL.r_ifS ?_ | with_reducible refine DL.r_asg ?_ | with_reducible refine DL.r_drop ?_ | with_reducible refine DL.r_c ?_ | with_reducible refine DL.r_nil ?_ | with_reducible refine DL.r_cons ?_ | with_reducible refine DL.r_op ?_ | with_reducible refine DL.r_cb ?_ | with_reducible refine DL.r_ofL ?_ | with_reducible refine DL.r_lst ?_ | with_reducible refine DL.r_tup ?_ | with_reducible refine DL.r_b ?_ | with_reducible refine DL.r_not ?_ | with_reducible refine DL.r_and ?_ | with_reducible refine DL.r_or ?_ | with_reducible refine DL.r_andV ?_ | with_reducible refine DL.r_orV ?_ | with_reducible refine DL.r_notV ?_ | with_reducible refine DL.r_neg ?_ | with_reducible refine DL.r_par ?_ | with_reducible refine DL.r_par3 ?_ | with_reducible refine DL.r_gname ?_ | with_reducible refine DL.r_callO ?_ | (with_reducible apply DL.r_var; focus exact rfl) | with_reducible refine DL.r_if1 ?_ | with_reducible refine DL.r_if0 ?_)
    refine r_var v8 ?_
    repeat (first | with_reducible refine DL.r_seq ?_ | with_reducible refine DL.r_next ?_ | with_reducible refine DL.r_ret ?_ | with_reducible refine DL.r_ifS ?_ | with_reducible refine DL.r_asg ?_ | with_reducible refine DL.r_drop ?_ | with_reducible refine DL.r_c ?_ | with_reducible refine DL.r_nil ?_ | with_reducible refine DL.r_cons ?_ | with_reducible refine DL.r_op ?_ | with_reducible refine DL.r_cb ?_ | with_reducible refine DL.r_ofL ?_ | with_reducible refine DL.r_lst ?_ | with_reducible refine DL.r_tup ?_ | with_reducible refine DL.r_b ?_ | with_reducible refine DL.r_not ?_ | with_reducible refine DL.r_and ?_ | with_reducible refine DL.r_or ?_ | with_reducible refine DL.r_andV ?_ | with_reducible refine DL.r_orV ?_ | with_reducible refine DL.r_notV ?_ | with_reducible refine DL.r_neg ?_ | with_reducible refine DL.r_par ?_ | with_reducible refine DL.r_par3 ?_ | with_reducible refine DL.r_gname ?_ | with_reducible refine DL.r_callO ?_ | (with_reducible apply DL.r_var; focus exact rfl) | with_reducible refine DL.r_if1 ?_ | with_reducible refine DL.r_if0 ?_)
    refine ⟨_, _, .obj T.NP, T.kPD, ?_⟩
    refine r_if0 ?_
    repeat (first | with_reducible refine DL.r_seq ?_ | with_reducible refine DL.r_next ?_ | with_reducible refine DL.r_ret ?_ | with_reducible refine DL.r_ifS ?_ | with_reducible refine DL.r_asg ?_ | with_reducible refine DL.r_drop ?_ | with_reducible refine DL.r_c ?_ | with_reducible refine DL.r_nil ?_ | with_reducible refine DL.r_cons ?_ | with_reducible refine DL.r_op ?_ | with_reducible refine DL.r_cb ?_ | with_reducible refine DL.r_ofL ?_ | with_reducible refine DL.r_lst ?_ | with_reducible refine DL.r_tup ?_ | with_reducible refine DL.r_b ?_ | with_reducible refine DL.r_not ?_ | with_reducible refine DL.r_and ?_ | with_reducible refine DL.r_or ?_ | with_reducible refine DL.r_andV ?_ | with_reducible refine DL.r_orV ?_ | with_reducible refine DL.r_notV ?_ | with_reducible refine DL.r_neg ?_ | with_reducible refine DL.r_par ?_ | with_reducible refine DL.r_par3 ?_ | with_reducible refine DL.r_gname ?_ | with_reducible refine DL.r_callO ?_ | (with_reducible apply DL.r_var; focus exact rfl) | with_reducible refine DL.r_if1 ?_ | with_reducible refine DL.r_if0 ?_)
    refine r_var v9 ?_
    repeat (first | with_reducible refine DL.r_seq ?_ | with_reducible refine DL.r_next ?_ | with_reducible refine DL.r_ret ?_ | with_reducible refine DL.r_ifS ?_ | with_reducible refine DL.r_asg ?_ | with_reducible refine DL.r_drop ?_ | with_reducible refine DL.r_c ?_ | with_reducible refine DL.r_nil ?_ | with_reducible refine DL.r_cons ?_ | with_reducible refine DL.r_op ?_ | with_reducible refine DL.r_cb ?_ | with_reducible refine DL.r_ofL ?_ | with_reducible refine DL.r_lst ?_ | with_reducible refine DL.r_tup ?_ | with_reducible refine DL.r_b ?_ | with_reducible refine DL.r_not ?_ | with_reducible refine DL.r_and ?_ | with_reducible refine DL.r_or ?_ | with_reducible refine DL.r_andV ?_ | with_reducible refine DL.r_orV ?_ | with_reducible refine DL.r_notV ?_ | with_reducible refine DL.r_neg ?_ | with_reducible refine DL.r_par ?_ | with_reducible refine DL.r_par3 ?_ | with_reducible refine DL.r_gname ?_ | with_reducible refine DL.r_callO ?_ | (with_reducible apply DL.r_var; focus exact rfl) | with_reducible refine DL.r_if1 ?_ | with_reducible refine DL.r_if0 ?_)
    refine ⟨_, _, .obj T.ND, T.kDP, ?_⟩
    refine r_if0 ?_
    refine r_next ?_
    dsimp only
    have dl : du.length ≤ 3 := by omega
    -- paper != the same made anew; denial likewise; paper == denial, denial == paper
    repeat (first | with_reducible refine DL.r_seq ?_ | with_reducible refine DL.r_next ?_ | with_reducible refine DL.r_ret ?_ | with_reducible refine DL.r_ifS ?_ | with_reducible refine DL.r_asg ?_ | with_reducible refine DL.r_drop ?_ | with_reducible refine DL.r_c ?_ | with_reducible refine DL.r_nil ?_ | with_reducible refine DL.r_cons ?_ | with_reducible refine DL.r_op ?_ | with_reducible refine DL.r_cb ?_ | with_reducible refine DL.r_ofL ?_ | with_reducible refine DL.r_lst ?_ | with_reducible refine DL.r_tup ?_ | with_reducible refine DL.r_b ?_ | with_reducible refine DL.r_not ?_ | with_reducible refine DL.r_and ?_ | with_reducible refine DL.r_or ?_ | with_reducible refine DL.r_andV ?_ | with_reducible refine DL.r_orV ?_ | with_reducible refine DL.r_notV ?_ | with_reducible refine DL.r_neg ?_ | with_reducible refine DL.r_par ?_ | with_reducible refine DL.r_par3 ?_ | with_reducible refine DL.r_gname ?_ | with_reducible refine DL.r_callO ?_ | (with_reducible apply DL.r_var; focus exact rfl) | with_reducible refine DL.r_if1 ?_ | with_reducible refine DL.r_if0 ?_)
    refine r_var v8 ?_
    refine r_call (s1 := S) (ds := [.str wn, .tup du, .bl false]) (fun R h => ?_) rfl ⟨wn, du, false, rfl, dl, odu, ?_⟩
    · repeat (first | with_reducible refine DL.r_seq ?_ | with_reducible refine DL.r_next ?_ | with_reducible refine DL.r_ret ?_ | with_reducible refine DL.r_ifS ?_ | with_reducible refine DL.r_asg ?_ | with_reducible refine DL.r_drop ?_ | with_reducible refine DL.r_c ?_ | with_reducible refine DL.r_nil ?_ | with_reducible refine DL.r_cons ?_ | with_reducible refine DL.r_op ?_ | with_reducible refine DL.r_cb ?_ | with_reducible refine DL.r_ofL ?_ | with_reducible refine DL.r_lst ?_ | with_reducible refine DL.r_tup ?_ | with_reducible refine DL.r_b ?_ | with_reducible refine DL.r_not ?_ | with_reducible refine DL.r_and ?_ | with_reducible refine DL.r_or ?_ | with_reducible refine DL.r_andV ?_ | with_reducible refine DL.r_orV ?_ | with_reducible refine DL.r_notV ?_ | with_reducible refine DL.r_neg ?_ | with_reducible refine DL.r_par ?_ | with_reducible refine DL.r_par3 ?_ | with_reducible refine DL.r_gname ?_ | with_reducible refine DL.r_callO ?_ | (with_reducible apply DL.r_var; focus exact rfl) | with_reducible refine DL.r_if1 ?_ | with_reducible refine DL.r_if0 ?_)
      refine r_var v3 ?_
      repeat (first | with_reducible refine DL.r_seq ?_ | with_reducible refine DL.r_next ?_ | with_reducible refine DL.r_ret ?_ | with_reducible refine DL.r_ifS ?_ | with_reducible refine DL.r_asg ?_ | with_reducible refine DL.r_drop ?_ | with_reducible refine DL.r_c ?_ | with_reducible refine DL.r_nil ?_ | with_reducible refine DL.r_cons ?_ | with_reducible refine DL.r_op ?_ | with_reducible refine DL.r_cb ?_ | with_reducible refine DL.r_ofL ?_ | with_reducible refine DL.r_lst ?_ | with_reducible refine DL.r_tup ?_ | with_reducible refine DL.r_b ?_ | with_reducible refine DL.r_not ?_ | with_reducible refine DL.r_and ?_ | with_reducible refine DL.r_or ?_ | with_reducible refine DL.r_andV ?_ | with_reducible refine DL.r_orV ?_ | with_reducible refine DL.r_notV ?_ | with_reducible refine DL.r_neg ?_ | with_reducible refine DL.r_par ?_ | with_reducible refine DL.r_par3 ?_ | with_reducible refine DL.r_gname ?_ | with_reducible refine DL.r_callO ?_ | (with_reducible apply DL.r_var; focus exact rfl) | with_reducible refine DL.r_if1 ?_ | with_reducible refine DL.r_if0 ?_)
      refine r_var v7 ?_
      repeat (first | with_reducible refine DL.r_seq ?_ | with_reducible refine DL.r_next ?_ | with_reducible refine DL.r_ret ?_ | with_reducible refine DL.r_ifS ?_ | with_reducible refine DL.r_asg ?_ | with_reducible refine DL.r_drop ?_ | with_reducible refine DL.r_c ?_ | with_reducible refine DL.r_nil ?_ | with_reducible refine DL.r_cons ?_ | with_reducible refine DL.r_op ?_ | with_reducible refine DL.r_cb ?_ | with_reducible refine DL.r_ofL ?_ | with_reducible refine DL.r_lst ?_ | with_reducible refine DL.r_tup ?_ | with_reducible refine DL.r_b ?_ | with_reducible refine DL.r_not ?_ | with_reducible refine DL.r_and ?_ | with_reducible refine DL.r_or ?_ | with_reducible refine DL.r_andV ?_ | with_reducible refine DL.r_orV ?_ | with_reducible refine DL.r_notV ?_ | with_reducible refine DL.r_neg ?_ | with_reducible refine DL.r_par ?_ | with_reducible refine DL.r_par3 ?_ | with_reducible refine DL.r_gname ?_ | with_reducible refine DL.r_callO ?_ | (with_reducible apply DL.r_var; focus exact rfl) | with_reducible refine DL.r_if1 ?_ | with_reducible refine DL.r_if0 ?_)
      exact h
    rw [ddu]
    refine eqS_same pC T.fPP odu ?_
    refine r_if0 ?_
    repeat (first | with_reducible refine DL.r_seq ?_ | with_reducible refine DL.r_next ?_ | with_reducible refine DL.r_ret ?_ | with_reducible refine DL.r_ifS ?_ | with_reducible refine DL.r_asg ?_ | with_reducible refine DL.r_drop ?_ | with_reducible refine DL.r_c ?_ | with_reducible refine DL.r_nil ?_ | with_reducible refine DL.r_cons ?_ | with_reducible refine DL.r_op ?_ | with_reducible refine DL.r_cb ?_ | with_reducible refine DL.r_ofL ?_ | with_reducible refine DL.r_lst ?_ | with_reducible refine DL.r_tup ?_ | with_reducible refine DL.r_b ?_ | with_reducible refine DL.r_not ?_ | with_reducible refine DL.r_and ?_ | with_reducible refine DL.r_or ?_ | with_reducible refine DL.r_andV ?_ | with_reducible refine DL.r_orV ?_ | with_reducible refine DL.r_notV ?_ | with_reducible refine DL.r_neg ?_ | with_reducible refine DL.r_par ?_ | with_reducible refine DL.r_par3 ?_ | with_reducible refine DL.r_gname ?_ | with_reducible refine DL.r_callO ?_ | (with_reducible apply DL.r_var; focus exact rfl) | with_reducible refine DL.r_if1 ?_ | with_reducible refine DL.r_if0 ?_)
    refine r_var v9 ?_
    refine r_call (s1 := S) (ds := [.str wn, .tup du, .bl true]) (fun R h => ?_) rfl ⟨wn, du, true, rfl, dl, odu, ?_⟩
    · repeat (first | with_reducible refine DL.r_seq ?_ | with_reducible refine DL.r_next ?_ | with_reducible refine DL.r_ret ?_ | with_reducible refine DL.r_ifS ?_ | with_reducible refine DL.r_asg ?_ | with_reducible refine DL.r_drop ?_ | with_reducible refine DL.r_c ?_ | with_reducible refine DL.r_nil ?_ | with_reducible refine DL.r_cons ?_ | with_reducible refine DL.r_op ?_ | with_reducible refine DL.r_cb ?_ | with_reducible refine DL.r_ofL ?_ | with_reducible refine DL.r_lst ?_ | with_reducible refine DL.r_tup ?_ | with_reducible refine DL.r_b ?_ | with_reducible refine DL.r_not ?_ | with_reducible refine DL.r_and ?_ | with_reducible refine DL.r_or ?_ | with_reducible refine DL.r_andV ?_ | with_reducible refine DL.r_orV ?_ | with_reducible refine DL.r_notV ?_ | with_reducible refine DL.r_neg ?_ | with_reducible refine DL.r_par ?_ | with_reducible refine DL.r_par3 ?_ | with_reducible refine DL.r_gname ?_ | with_reducible refine DL.r_callO ?_ | (with_reducible apply DL.r_var; focus exact rfl) | with_reducible refine DL.r_if1 ?_ | with_reducible refine DL.r_if0 ?_)
      refine r_var v3 ?_
      repeat (first | with_reducible refine DL.r_seq ?_ | with_reducible refine DL.r_next ?_ | with_reducible refine DL.r_ret ?_ | with_reducible refine DL.r_ifS ?_ | with_reducible refine DL.r_asg ?_ | with_reducible refine DL.r_drop ?_ | with_reducible refine DL.r_c ?_ | with_reducible refine DL.r_nil ?_ | with_reducible refine DL.r_cons ?_ | with_reducible refine DL.r_op ?_ | with_reducible refine DL.r_cb ?_ | with_reducible refine DL.r_ofL ?_ | with_reducible refine DL.r_lst ?_ | with_reducible refine DL.r_tup ?_ | with_reducible refine DL.r_b ?_ | with_reducible refine DL.r_not ?_ | with_reducible refine DL.r_and ?_ | with_reducible refine DL.r_or ?_ | with_reducible refine DL.r_andV ?_ | with_reducible refine DL.r_orV ?_ | with_reducible refine DL.r_notV ?_ | with_reducible refine DL.r_neg ?_ | with_reducible refine DL.r_par ?_ | with_reducible refine DL.r_par3 ?_ | with_reducible refine DL.r_gname ?_ | with_reducible refine DL.r_callO ?_ | (with_reducible apply DL.r_var; focus exact rfl) | with_reducible refine DL.r_if1 ?_ | with_reducible refine DL.r_if0 ?_)
      refine r_var v7 ?_
      repeat (first | with_reducible refine DL.r_seq ?_ | with_reducible refine DL.r_next ?_ | with_reducible refine DL.r_ret ?_ | with_reducible refine DL.r_ifS ?_ | with_reducible refine DL.r_asg ?_ | with_reducible refine DL.r_drop ?_ | with_reducible refine DL.r_c ?_ | with_reducible refine DL.r_nil ?_ | with_reducible refine DL.r_cons ?_ | with_reducible refine DL.r_op ?_ | with_reducible refine DL.r_cb ?_ | with_reducible refine DL.r_ofL ?_ | with_reducible refine DL.r_lst ?_ | with_reducible refine DL.r_tup ?_ | with_reducible refine DL.r_b ?_ | with_reducible refine DL.r_not ?_ | with_reducible refine DL.r_and ?_ | with_reducible refine DL.r_or ?_ | with_reducible refine DL.r_andV ?_ | with_reducible refine DL.r_orV ?_ | with_reducible refine DL.r_notV ?_ | with_reducible refine DL.r_neg ?_ | with_reducible refine DL.r_par ?_ | with_reducible refine DL.r_par3 ?_ | with_reducible refine DL.r_gname ?_ | with_reducible refine DL.r_callO ?_ | (with_reducible apply DL.r_var; focus exact rfl) | with_reducible refine DL.r_if1 ?_ | with_reducible refine DL.r_if0 ?_)
      exact h
    rw [ddu]
    refine eqS_same dC' T.fDD odu ?_
    refine r_if0 ?_
    repeat (first | with_reducible refine DL.r_seq ?_ | with_reducible refine DL.r_next ?_ | with_reducible refine DL.r_ret ?_ | with_reducible refine DL.r_ifS ?_ | with_reducible refine DL.r_asg ?_ | with_reducible refine DL.r_drop ?_ | with_reducible refine DL.r_c ?_ | with_reducible refine DL.r_nil ?_ | with_reducible refine DL.r_cons ?_ | with_reducible refine DL.r_op ?_ | with_reducible refine DL.r_cb ?_ | with_reducible refine DL.r_ofL ?_ | with_reducible refine DL.r_lst ?_ | with_reducible refine DL.r_tup ?_ | with_reducible refine DL.r_b ?_ | with_reducible refine DL.r_not ?_ | with_reducible refine DL.r_and ?_ | with_reducible refine DL.r_or ?_ | with_reducible refine DL.r_andV ?_ | with_reducible refine DL.r_orV ?_ | with_reducible refine DL.r_notV ?_ | with_reducible refine DL.r_neg ?_ | with_reducible refine DL.r_par ?_ | with_reducible refine DL.r_par3 ?_ | with_reducible refine DL.r_gname ?_ | with_reducible refine DL.r_callO ?_ | (with_reducible apply DL.r_var; focus exact rfl) | with_reducible refine DL.r_if1 ?_ | with_reducible refine DL.r_if0 ?_)
    refine r_var v8 ?_
    refine r_var v9 ?_
    refine eqS_sub pC dC' T.ne odu odu ?_
    refine r_if0 ?_
    repeat (first | with_reducible refine DL.r_seq ?_ | with_reducible refine DL.r_next ?_ | with_reducible refine DL.r_ret ?_ | with_reducible refine DL.r_ifS ?_ | with_reducible refine DL.r_asg ?_ | with_reducible refine DL.r_drop ?_ | with_reducible refine DL.r_c ?_ | with_reducible refine DL.r_nil ?_ | with_reducible refine DL.r_cons ?_ | with_reducible refine DL.r_op ?_ | with_reducible refine DL.r_cb ?_ | with_reducible refine DL.r_ofL ?_ | with_reducible refine DL.r_lst ?_ | with_reducible refine DL.r_tup ?_ | with_reducible refine DL.r_b ?_ | with_reducible refine DL.r_not ?_ | with_reducible refine DL.r_and ?_ | with_reducible refine DL.r_or ?_ | with_reducible refine DL.r_andV ?_ | with_reducible refine DL.r_orV ?_ | with_reducible refine DL.r_notV ?_ | with_reducible refine DL.r_neg ?_ | with_reducible refine DL.r_par ?_ | with_reducible refine DL.r_par3 ?_ | with_reducible refine DL.r_gname ?_ | with_reducible refine DL.r_callO ?_ | (with_reducible apply DL.r_var; focus exact rfl) | with_reducible refine DL.r_if1 ?_ | with_reducible refine DL.r_if0 ?_)
    refine r_var v9 ?_
    refine r_var v8 ?_
    refine eqS_cls dC' pC T.fDP T.ne odu odu ?_
    refine r_if0 ?_
    refine r_next ?_
    dsimp only
    -- (other's paper == paper) != (other == word); paper == due; paper == word
    repeat (first | with_reducible refine DL.r_seq ?_ | with_reducible refine DL.r_next ?_ | with_reducible refine DL.r_ret ?_ | with_reducible refine DL.r_ifS ?_ | with_reducible refine DL.r_asg ?_ | with_reducible refine DL.r_drop ?_ | with_reducible refine DL.r_c ?_ | with_reducible refine DL.r_nil ?_ | with_reducible refine DL.r_cons ?_ | with_reducible refine DL.r_op ?_ | with_reducible refine DL.r_cb ?_ | with_reducible refine DL.r_ofL ?_ | with_reducible refine DL.r_lst ?_ | with_reducible refine DL.r_tup ?_ | with_reducible refine DL.r_b ?_ | with_reducible refine DL.r_not ?_ | with_reducible refine DL.r_and ?_ | with_reducible refine DL.r_or ?_ | with_reducible refine DL.r_andV ?_ | with_reducible refine DL.r_orV ?_ | with_reducible refine DL.r_notV ?_ | with_reducible refine DL.r_neg ?_ | with_reducible refine DL.r_par ?_ | with_reducible refine DL.r_par3 ?_ | with_reducible refine DL.r_gname ?_ | with_reducible refine DL.r_callO ?_ | (with_reducible apply DL.r_var; focus exact rfl) | with_reducible refine DL.r_if1 ?_ | with_reducible refine DL.r_if0 ?_)
    refine r_call (s1 := S) (ds := [.str on, .tup ys, .bl false]) (fun R h => ?_) rfl ⟨on, ys, false, rfl, yl, hps, ?_⟩
    · repeat (first | with_reducible refine DL.r_seq ?_ | with_reducible refine DL.r_next ?_ | with_reducible refine DL.r_ret ?_ | with_reducible refine DL.r_ifS ?_ | with_reducible refine DL.r_asg ?_ | with_reducible refine DL.r_drop ?_ | with_reducible refine DL.r_c ?_ | with_reducible refine DL.r_nil ?_ | with_reducible refine DL.r_cons ?_ | with_reducible refine DL.r_op ?_ | with_reducible refine DL.r_cb ?_ | with_reducible refine DL.r_ofL ?_ | with_reducible refine DL.r_lst ?_ | with_reducible refine DL.r_tup ?_ | with_reducible refine DL.r_b ?_ | with_reducible refine DL.r_not ?_ | with_reducible refine DL.r_and ?_ | with_reducible refine DL.r_or ?_ | with_reducible refine DL.r_andV ?_ | with_reducible refine DL.r_orV ?_ | with_reducible refine DL.r_notV ?_ | with_reducible refine DL.r_neg ?_ | with_reducible refine DL.r_par ?_ | with_reducible refine DL.r_par3 ?_ | with_reducible refine DL.r_gname ?_ | with_reducible refine DL.r_callO ?_ | (with_reducible apply DL.r_var; focus exact rfl) | with_reducible refine DL.r_if1 ?_ | with_reducible refine DL.r_if0 ?_)
      refine r_var v4 ?_
      repeat (first | with_reducible refine DL.r_seq ?_ | with_reducible refine DL.r_next ?_ | with_reducible refine DL.r_ret ?_ | with_reducible refine DL.r_ifS ?_ | with_reducible refine DL.r_asg ?_ | with_reducible refine DL.r_drop ?_ | with_reducible refine DL.r_c ?_ | with_reducible refine DL.r_nil ?_ | with_reducible refine DL.r_cons ?_ | with_reducible refine DL.r_op ?_ | with_reducible refine DL.r_cb ?_ | with_reducible refine DL.r_ofL ?_ | with_reducible refine DL.r_lst ?_ | with_reducible refine DL.r_tup ?_ | with_reducible refine DL.r_b ?_ | with_reducible refine DL.r_not ?_ | with_reducible refine DL.r_and ?_ | with_reducible refine DL.r_or ?_ | with_reducible refine DL.r_andV ?_ | with_reducible refine DL.r_orV ?_ | with_reducible refine DL.r_notV ?_ | with_reducible refine DL.r_neg ?_ | with_reducible refine DL.r_par ?_ | with_reducible refine DL.r_par3 ?_ | with_reducible refine DL.r_gname ?_ | with_reducible refine DL.r_callO ?_ | (with_reducible apply DL.r_var; focus exact rfl) | with_reducible refine DL.r_if1 ?_ | with_reducible refine DL.r_if0 ?_)
      refine r_var v5 ?_
      repeat (first | with_reducible refine DL.r_seq ?_ | with_reducible refine DL.r_next ?_ | with_reducible refine DL.r_ret ?_ | with_reducible refine DL.r_ifS ?_ | with_reducible refine DL.r_asg ?_ | with_reducible refine DL.r_drop ?_ | with_reducible refine DL.r_c ?_ | with_reducible refine DL.r_nil ?_ | with_reducible refine DL.r_cons ?_ | with_reducible refine DL.r_op ?_ | with_reducible refine DL.r_cb ?_ | with_reducible refine DL.r_ofL ?_ | with_reducible refine DL.r_lst ?_ | with_reducible refine DL.r_tup ?_ | with_reducible refine DL.r_b ?_ | with_reducible refine DL.r_not ?_ | with_reducible refine DL.r_and ?_ | with_reducible refine DL.r_or ?_ | with_reducible refine DL.r_andV ?_ | with_reducible refine DL.r_orV ?_ | with_reducible refine DL.r_notV ?_ | with_reducible refine DL.r_neg ?_ | with_reducible refine DL.r_par ?_ | with_reducible refine DL.r_par3 ?_ | with_reducible refine DL.r_gname ?_ | with_reducible refine DL.r_callO ?_ | (with_reducible apply DL.r_var; focus exact rfl) | with_reducible refine DL.r_if1 ?_ | with_reducible refine DL.r_if0 ?_)
      exact h
    rw [← hdu]
    refine r_var v8 ?_
    refine eqS_word pC T.fPP odu ?_
    repeat (first | with_reducible refine DL.r_seq ?_ | with_reducible refine DL.r_next ?_ | with_reducible refine DL.r_ret ?_ | with_reducible refine DL.r_ifS ?_ | with_reducible refine DL.r_asg ?_ | with_reducible refine DL.r_drop ?_ | with_reducible refine DL.r_c ?_ | with_reducible refine DL.r_nil ?_ | with_reducible refine DL.r_cons ?_ | with_reducible refine DL.r_op ?_ | with_reducible refine DL.r_cb ?_ | with_reducible refine DL.r_ofL ?_ | with_reducible refine DL.r_lst ?_ | with_reducible refine DL.r_tup ?_ | with_reducible refine DL.r_b ?_ | with_reducible refine DL.r_not ?_ | with_reducible refine DL.r_and ?_ | with_reducible refine DL.r_or ?_ | with_reducible refine DL.r_andV ?_ | with_reducible refine DL.r_orV ?_ | with_reducible refine DL.r_notV ?_ | with_reducible refine DL.r_neg ?_ | with_reducible refine DL.r_par ?_ | with_reducible refine DL.r_par3 ?_ | with_reducible refine DL.r_gname ?_ | with_reducible refine DL.r_callO ?_ | (with_reducible apply DL.r_var; focus exact rfl) | with_reducible refine DL.r_if1 ?_ | with_reducible refine DL.r_if0 ?_)
    refine r_var v4 ?_
    refine r_var v3 ?_
    refine es_bl ?_
    refine ne_bl (a := on == wn) (c := on == wn) ?_
    rw [show (!((on == wn) == (on == wn))) = false from by rw [beq_self_eq_true]; rfl]
    refine r_if0 ?_
    repeat (first | with_reducible refine DL.r_seq ?_ | with_reducible refine DL.r_next ?_ | with_reducible refine DL.r_ret ?_ | with_reducible refine DL.r_ifS ?_ | with_reducible refine DL.r_asg ?_ | with_reducible refine DL.r_drop ?_ | with_reducible refine DL.r_c ?_ | with_reducible refine DL.r_nil ?_ | with_reducible refine DL.r_cons ?_ | with_reducible refine DL.r_op ?_ | with_reducible refine DL.r_cb ?_ | with_reducible refine DL.r_ofL ?_ | with_reducible refine DL.r_lst ?_ | with_reducible refine DL.r_tup ?_ | with_reducible refine DL.r_b ?_ | with_reducible refine DL.r_not ?_ | with_reducible refine DL.r_and ?_ | with_reducible refine DL.r_or ?_ | with_reducible refine DL.r_andV ?_ | with_reducible refine DL.r_orV ?_ | with_reducible refine DL.r_notV ?_ | with_reducible refine DL.r_neg ?_ | with_reducible refine DL.r_par ?_ | with_reducible refine DL.r_par3 ?_ | with_reducible refine DL.r_gname ?_ | with_reducible refine DL.r_callO ?_ | (with_reducible apply DL.r_var; focus exact rfl) | with_reducible refine DL.r_if1 ?_ | with_reducible refine DL.r_if0 ?_)
    refine r_var v8 ?_
    refine r_var v7 ?_
    refine eqS_tup pC T.fPT odu ?_
    refine r_if0 ?_
    repeat (first | with_reducible refine DL.r_seq ?_ | with_reducible refine DL.r_next ?_ | with_reducible refine DL.r_ret ?_ | with_reducible refine DL.r_ifS ?_ | with_reducible refine DL.r_asg ?_ | with_reducible refine DL.r_drop ?_ | with_reducible refine DL.r_c ?_ | with_reducible refine DL.r_nil ?_ | with_reducible refine DL.r_cons ?_ | with_reducible refine DL.r_op ?_ | with_reducible refine DL.r_cb ?_ | with_reducible refine DL.r_ofL ?_ | with_reducible refine DL.r_lst ?_ | with_reducible refine DL.r_tup ?_ | with_reducible refine DL.r_b ?_ | with_reducible refine DL.r_not ?_ | with_reducible refine DL.r_and ?_ | with_reducible refine DL.r_or ?_ | with_reducible refine DL.r_andV ?_ | with_reducible refine DL.r_orV ?_ | with_reducible refine DL.r_notV ?_ | with_reducible refine DL.r_neg ?_ | with_reducible refine DL.r_par ?_ | with_reducible refine DL.r_par3 ?_ | with_reducible refine DL.r_gname ?_ | with_reducible refine DL.r_callO ?_ | (with_reducible apply DL.r_var; focus exact rfl) | with_reducible refine DL.r_if1 ?_ | with_reducible refine DL.r_if0 ?_)
    refine r_var v8 ?_
    refine r_var v3 ?_
    refine eqS_str pC T.fPS odu ?_
    refine r_if0 ?_
    refine r_next ?_
    dsimp only
    -- (paper of due[1:] == denial) != (due == ()); paper == a paper of four parts
    have adu := odu
    rw [okW, Bool.and_eq_true, decide_eq_true_eq] at adu
    have otl : okW 6 (.tup du.tail) = true := by
      rw [okW, Bool.and_eq_true, decide_eq_true_eq]
      exact ⟨by rw [List.length_tail]; omega, List.all_eq_true.mpr fun x hx => List.all_eq_true.mp adu.2 x (List.mem_of_mem_tail hx)⟩
    have tdu : du.tail.map (fixD 5) = du.tail := tail_fix ddu
    repeat (first | with_reducible refine DL.r_seq ?_ | with_reducible refine DL.r_next ?_ | with_reducible refine DL.r_ret ?_ | with_reducible refine DL.r_ifS ?_ | with_reducible refine DL.r_asg ?_ | with_reducible refine DL.r_drop ?_ | with_reducible refine DL.r_c ?_ | with_reducible refine DL.r_nil ?_ | with_reducible refine DL.r_cons ?_ | with_reducible refine DL.r_op ?_ | with_reducible refine DL.r_cb ?_ | with_reducible refine DL.r_ofL ?_ | with_reducible refine DL.r_lst ?_ | with_reducible refine DL.r_tup ?_ | with_reducible refine DL.r_b ?_ | with_reducible refine DL.r_not ?_ | with_reducible refine DL.r_and ?_ | with_reducible refine DL.r_or ?_ | with_reducible refine DL.r_andV ?_ | with_reducible refine DL.r_orV ?_ | with_reducible refine DL.r_notV ?_ | with_reducible refine DL.r_neg ?_ | with_reducible refine DL.r_par ?_ | with_reducible refine DL.r_par3 ?_ | with_reducible refine DL.r_gname ?_ | with_reducible refine DL.r_callO ?_ | (with_reducible apply DL.r_var; focus exact rfl) | with_reducible refine DL.r_if1 ?_ | with_reducible refine DL.r_if0 ?_)
    refine r_call (s1 := S) (ds := [.str wn, .tup du.tail, .bl true]) (fun R h => ?_) rfl ⟨wn, du.tail, true, rfl, by rw [List.length_tail]; omega, otl, ?_⟩
    · repeat (first | with_reducible refine DL.r_seq ?_ | with_reducible refine DL.r_next ?_ | with_reducible refine DL.r_ret ?_ | with_reducible refine DL.r_ifS ?_ | with_reducible refine DL.r_asg ?_ | with_reducible refine DL.r_drop ?_ | with_reducible refine DL.r_c ?_ | with_reducible refine DL.r_nil ?_ | with_reducible refine DL.r_cons ?_ | with_reducible refine DL.r_op ?_ | with_reducible refine DL.r_cb ?_ | with_reducible refine DL.r_ofL ?_ | with_reducible refine DL.r_lst ?_ | with_reducible refine DL.r_tup ?_ | with_reducible refine DL.r_b ?_ | with_reducible refine DL.r_not ?_ | with_reducible refine DL.r_and ?_ | with_reducible refine DL.r_or ?_ | with_reducible refine DL.r_andV ?_ | with_reducible refine DL.r_orV ?_ | with_reducible refine DL.r_notV ?_ | with_reducible refine DL.r_neg ?_ | with_reducible refine DL.r_par ?_ | with_reducible refine DL.r_par3 ?_ | with_reducible refine DL.r_gname ?_ | with_reducible refine DL.r_callO ?_ | (with_reducible apply DL.r_var; focus exact rfl) | with_reducible refine DL.r_if1 ?_ | with_reducible refine DL.r_if0 ?_)
      refine r_var v3 ?_
      repeat (first | with_reducible refine DL.r_seq ?_ | with_reducible refine DL.r_next ?_ | with_reducible refine DL.r_ret ?_ | with_reducible refine DL.r_ifS ?_ | with_reducible refine DL.r_asg ?_ | with_reducible refine DL.r_drop ?_ | with_reducible refine DL.r_c ?_ | with_reducible refine DL.r_nil ?_ | with_reducible refine DL.r_cons ?_ | with_reducible refine DL.r_op ?_ | with_reducible refine DL.r_cb ?_ | with_reducible refine DL.r_ofL ?_ | with_reducible refine DL.r_lst ?_ | with_reducible refine DL.r_tup ?_ | with_reducible refine DL.r_b ?_ | with_reducible refine DL.r_not ?_ | with_reducible refine DL.r_and ?_ | with_reducible refine DL.r_or ?_ | with_reducible refine DL.r_andV ?_ | with_reducible refine DL.r_orV ?_ | with_reducible refine DL.r_notV ?_ | with_reducible refine DL.r_neg ?_ | with_reducible refine DL.r_par ?_ | with_reducible refine DL.r_par3 ?_ | with_reducible refine DL.r_gname ?_ | with_reducible refine DL.r_callO ?_ | (with_reducible apply DL.r_var; focus exact rfl) | with_reducible refine DL.r_if1 ?_ | with_reducible refine DL.r_if0 ?_)
      refine k_slT ?_
      refine r_var v7 ?_
      refine (show (dCons (dC (.bl true)) dNil) S (fun ds s2 => R (.str wn :: .tup (cutD du (some 1) none) :: ds) s2) from ?_)
      rw [cut1 dl]
      exact h
    rw [tdu]
    refine r_var v9 ?_
    refine eqS_gen dC' T.fDD otl odu (fun h => absurd rfl h) fun _ r t1 t2 => ?_
    repeat (first | with_reducible refine DL.r_seq ?_ | with_reducible refine DL.r_next ?_ | with_reducible refine DL.r_ret ?_ | with_reducible refine DL.r_ifS ?_ | with_reducible refine DL.r_asg ?_ | with_reducible refine DL.r_drop ?_ | with_reducible refine DL.r_c ?_ | with_reducible refine DL.r_nil ?_ | with_reducible refine DL.r_cons ?_ | with_reducible refine DL.r_op ?_ | with_reducible refine DL.r_cb ?_ | with_reducible refine DL.r_ofL ?_ | with_reducible refine DL.r_lst ?_ | with_reducible refine DL.r_tup ?_ | with_reducible refine DL.r_b ?_ | with_reducible refine DL.r_not ?_ | with_reducible refine DL.r_and ?_ | with_reducible refine DL.r_or ?_ | with_reducible refine DL.r_andV ?_ | with_reducible refine DL.r_orV ?_ | with_reducible refine DL.r_notV ?_ | with_reducible refine DL.r_neg ?_ | with_reducible refine DL.r_par ?_ | with_reducible refine DL.r_par3 ?_ | with_reducible refine DL.r_gname ?_ | with_reducible refine DL.r_callO ?_ | (with_reducible apply DL.r_var; focus exact rfl) | with_reducible refine DL.r_if1 ?_ | with_reducible refine DL.r_if0 ?_)
    refine r_var v7 ?_
    repeat (first | with_reducible refine DL.r_seq ?_ | with_reducible refine DL.r_next ?_ | with_reducible refine DL.r_ret ?_ | with_reducible refine DL.r_ifS ?_ | with_reducible refine DL.r_asg ?_ | with_reducible refine DL.r_drop ?_ | with_reducible refine DL.r_c ?_ | with_reducible refine DL.r_nil ?_ | with_reducible refine DL.r_cons ?_ | with_reducible refine DL.r_op ?_ | with_reducible refine DL.r_cb ?_ | with_reducible refine DL.r_ofL ?_ | with_reducible refine DL.r_lst ?_ | with_reducible refine DL.r_tup ?_ | with_reducible refine DL.r_b ?_ | with_reducible refine DL.r_not ?_ | with_reducible refine DL.r_and ?_ | with_reducible refine DL.r_or ?_ | with_reducible refine DL.r_andV ?_ | with_reducible refine DL.r_orV ?_ | with_reducible refine DL.r_notV ?_ | with_reducible refine DL.r_neg ?_ | with_reducible refine DL.r_par ?_ | with_reducible refine DL.r_par3 ?_ | with_reducible refine DL.r_gname ?_ | with_reducible refine DL.r_callO ?_ | (with_reducible apply DL.r_var; focus exact rfl) | with_reducible refine DL.r_if1 ?_ | with_reducible refine DL.r_if0 ?_)
    refine ⟨by show 0 ≤ sizeLine; decide, rfl, ?_⟩
    refine (show fEqK _ (.tup du) (.tup []) _ from ⟨okW_okV _ _ odu, rfl, fun r' u1 u2 => ?_⟩)
    have err : r = r' := by
      by_cases hd : du = []
      · rw [t1 (by rw [hd]; rfl), u1 hd]
      · have hd0 : du.length ≠ 0 := fun e => hd (List.length_eq_zero_iff.mp e)
        rw [t2 (by rw [List.length_tail]; omega), u2 hd0]
    subst err
    refine ne_bl (a := r) (c := r) ?_
    rw [show (!(r == r)) = false from by rw [beq_self_eq_true]; rfl]
    refine r_if0 ?_
    repeat (first | with_reducible refine DL.r_seq ?_ | with_reducible refine DL.r_next ?_ | with_reducible refine DL.r_ret ?_ | with_reducible refine DL.r_ifS ?_ | with_reducible refine DL.r_asg ?_ | with_reducible refine DL.r_drop ?_ | with_reducible refine DL.r_c ?_ | with_reducible refine DL.r_nil ?_ | with_reducible refine DL.r_cons ?_ | with_reducible refine DL.r_op ?_ | with_reducible refine DL.r_cb ?_ | with_reducible refine DL.r_ofL ?_ | with_reducible refine DL.r_lst ?_ | with_reducible refine DL.r_tup ?_ | with_reducible refine DL.r_b ?_ | with_reducible refine DL.r_not ?_ | with_reducible refine DL.r_and ?_ | with_reducible refine DL.r_or ?_ | with_reducible refine DL.r_andV ?_ | with_reducible refine DL.r_orV ?_ | with_reducible refine DL.r_notV ?_ | with_reducible refine DL.r_neg ?_ | with_reducible refine DL.r_par ?_ | with_reducible refine DL.r_par3 ?_ | with_reducible refine DL.r_gname ?_ | with_reducible refine DL.r_callO ?_ | (with_reducible apply DL.r_var; focus exact rfl) | with_reducible refine DL.r_if1 ?_ | with_reducible refine DL.r_if0 ?_)
    refine r_var v8 ?_
    refine k_makeS ?_
    repeat (first | with_reducible refine DL.r_seq ?_ | with_reducible refine DL.r_next ?_ | with_reducible refine DL.r_ret ?_ | with_reducible refine DL.r_ifS ?_ | with_reducible refine DL.r_asg ?_ | with_reducible refine DL.r_drop ?_ | with_reducible refine DL.r_c ?_ | with_reducible refine DL.r_nil ?_ | with_reducible refine DL.r_cons ?_ | with_reducible refine DL.r_op ?_ | with_reducible refine DL.r_cb ?_ | with_reducible refine DL.r_ofL ?_ | with_reducible refine DL.r_lst ?_ | with_reducible refine DL.r_tup ?_ | with_reducible refine DL.r_b ?_ | with_reducible refine DL.r_not ?_ | with_reducible refine DL.r_and ?_ | with_reducible refine DL.r_or ?_ | with_reducible refine DL.r_andV ?_ | with_reducible refine DL.r_orV ?_ | with_reducible refine DL.r_notV ?_ | with_reducible refine DL.r_neg ?_ | with_reducible refine DL.r_par ?_ | with_reducible refine DL.r_par3 ?_ | with_reducible refine DL.r_gname ?_ | with_reducible refine DL.r_callO ?_ | (with_reducible apply DL.r_var; focus exact rfl) | with_reducible refine DL.r_if1 ?_ | with_reducible refine DL.r_if0 ?_)
    refine r_var v3 ?_
    repeat (first | with_reducible refine DL.r_seq ?_ | with_reducible refine DL.r_next ?_ | with_reducible refine DL.r_ret ?_ | with_reducible refine DL.r_ifS ?_ | with_reducible refine DL.r_asg ?_ | with_reducible refine DL.r_drop ?_ | with_reducible refine DL.r_c ?_ | with_reducible refine DL.r_nil ?_ | with_reducible refine DL.r_cons ?_ | with_reducible refine DL.r_op ?_ | with_reducible refine DL.r_cb ?_ | with_reducible refine DL.r_ofL ?_ | with_reducible refine DL.r_lst ?_ | with_reducible refine DL.r_tup ?_ | with_reducible refine DL.r_b ?_ | with_reducible refine DL.r_not ?_ | with_reducible refine DL.r_and ?_ | with_reducible refine DL.r_or ?_ | with_reducible refine DL.r_andV ?_ | with_reducible refine DL.r_orV ?_ | with_reducible refine DL.r_notV ?_ | with_reducible refine DL.r_neg ?_ | with_reducible refine DL.r_par ?_ | with_reducible refine DL.r_par3 ?_ | with_reducible refine DL.r_gname ?_ | with_reducible refine DL.r_callO ?_ | (with_reducible apply DL.r_var; focus exact rfl) | with_reducible refine DL.r_if1 ?_ | with_reducible refine DL.r_if0 ?_)
    refine ⟨rfl, by show 4 ≤ 1000; decide, wn, [.int 1, .int 2, .int 3, .int 4], rfl, by decide +kernel, ?_⟩
    refine (show fOE K false CP (CSame CP CD) _ (pap CP wn du) (pap CP wn [.int 1, .int 2, .int 3, .int 4]) _ from eqS_len pC T.fPP odu (by decide +kernel) (by show du.length ≠ 4; omega) ?_)
    refine r_if0 ?_
    refine r_next ?_
    dsimp only
    -- fixed of anything, by place and by name
    have hbud : S.bud = b1 := by rw [hS]; rfl
    repeat (first | with_reducible refine DL.r_seq ?_ | with_reducible refine DL.r_next ?_ | with_reducible refine DL.r_ret ?_ | with_reducible refine DL.r_ifS ?_ | with_reducible refine DL.r_asg ?_ | with_reducible refine DL.r_drop ?_ | with_reducible refine DL.r_c ?_ | with_reducible refine DL.r_nil ?_ | with_reducible refine DL.r_cons ?_ | with_reducible refine DL.r_op ?_ | with_reducible refine DL.r_cb ?_ | with_reducible refine DL.r_ofL ?_ | with_reducible refine DL.r_lst ?_ | with_reducible refine DL.r_tup ?_ | with_reducible refine DL.r_b ?_ | with_reducible refine DL.r_not ?_ | with_reducible refine DL.r_and ?_ | with_reducible refine DL.r_or ?_ | with_reducible refine DL.r_andV ?_ | with_reducible refine DL.r_orV ?_ | with_reducible refine DL.r_notV ?_ | with_reducible refine DL.r_neg ?_ | with_reducible refine DL.r_par ?_ | with_reducible refine DL.r_par3 ?_ | with_reducible refine DL.r_gname ?_ | with_reducible refine DL.r_callO ?_ | (with_reducible apply DL.r_var; focus exact rfl) | with_reducible refine DL.r_if1 ?_ | with_reducible refine DL.r_if0 ?_)
    refine r_call (s1 := S) (ds := [.paw, .int 4]) (fun R h => ?_) rfl ⟨4, rfl, rfl, by decide, ?_, fun vd b2 ov hb2 => ?_⟩
    · repeat (first | with_reducible refine DL.r_seq ?_ | with_reducible refine DL.r_next ?_ | with_reducible refine DL.r_ret ?_ | with_reducible refine DL.r_ifS ?_ | with_reducible refine DL.r_asg ?_ | with_reducible refine DL.r_drop ?_ | with_reducible refine DL.r_c ?_ | with_reducible refine DL.r_nil ?_ | with_reducible refine DL.r_cons ?_ | with_reducible refine DL.r_op ?_ | with_reducible refine DL.r_cb ?_ | with_reducible refine DL.r_ofL ?_ | with_reducible refine DL.r_lst ?_ | with_reducible refine DL.r_tup ?_ | with_reducible refine DL.r_b ?_ | with_reducible refine DL.r_not ?_ | with_reducible refine DL.r_and ?_ | with_reducible refine DL.r_or ?_ | with_reducible refine DL.r_andV ?_ | with_reducible refine DL.r_orV ?_ | with_reducible refine DL.r_notV ?_ | with_reducible refine DL.r_neg ?_ | with_reducible refine DL.r_par ?_ | with_reducible refine DL.r_par3 ?_ | with_reducible refine DL.r_gname ?_ | with_reducible refine DL.r_callO ?_ | (with_reducible apply DL.r_var; focus exact rfl) | with_reducible refine DL.r_if1 ?_ | with_reducible refine DL.r_if0 ?_)
      refine r_var v1 ?_
      repeat (first | with_reducible refine DL.r_seq ?_ | with_reducible refine DL.r_next ?_ | with_reducible refine DL.r_ret ?_ | with_reducible refine DL.r_ifS ?_ | with_reducible refine DL.r_asg ?_ | with_reducible refine DL.r_drop ?_ | with_reducible refine DL.r_c ?_ | with_reducible refine DL.r_nil ?_ | with_reducible refine DL.r_cons ?_ | with_reducible refine DL.r_op ?_ | with_reducible refine DL.r_cb ?_ | with_reducible refine DL.r_ofL ?_ | with_reducible refine DL.r_lst ?_ | with_reducible refine DL.r_tup ?_ | with_reducible refine DL.r_b ?_ | with_reducible refine DL.r_not ?_ | with_reducible refine DL.r_and ?_ | with_reducible refine DL.r_or ?_ | with_reducible refine DL.r_andV ?_ | with_reducible refine DL.r_orV ?_ | with_reducible refine DL.r_notV ?_ | with_reducible refine DL.r_neg ?_ | with_reducible refine DL.r_par ?_ | with_reducible refine DL.r_par3 ?_ | with_reducible refine DL.r_gname ?_ | with_reducible refine DL.r_callO ?_ | (with_reducible apply DL.r_var; focus exact rfl) | with_reducible refine DL.r_if1 ?_ | with_reducible refine DL.r_if0 ?_)
      exact h
    · rw [show cost 4 = 323 from rfl, hbud]
      omega
    rw [show cost 4 = 323 from rfl, hbud] at hb2
    refine ⟨okW_slot ov, r_gname ?_⟩
    dsimp only
    clear v1 v3 v4 v5 v6 v7 v8 v9 hbud
    subst hS
    change dIfS _ _ _ _ (SL (.fz (.int j)) (.fz (.str wn)) (.fz (.str on)) (.fz (.tup ys)) (.fz (.str x1)) (.fz (.tup du)) (.fz (pap CP wn du)) (.fz (pap CD wn du)) (.fz vd) .un b2)
    obtain ⟨S, hS⟩ : ∃ S, S = SL (.fz (.int j)) (.fz (.str wn)) (.fz (.str on)) (.fz (.tup ys)) (.fz (.str x1)) (.fz (.tup du)) (.fz (pap CP wn du)) (.fz (pap CD wn du)) (.fz vd) .un b2 := ⟨_, rfl⟩
    have w5 : S.sl[5]? = some (.fz (.tup ys)) := by rw [hS]; rfl
    have w7 : S.sl[7]? = some (.fz (.tup du)) := by rw [hS]; rfl
    have w10 : S.sl[10]? = some (.fz vd) := by rw [hS]; rfl
    rw [← hS]
    obtain ⟨x3, rep3⟩ := repr_W (okW_up 6 _ (fix_ok 6 vd ov))
    obtain ⟨x4, rep4⟩ := repr_W (okW_up 6 _ odu)
    repeat (first | with_reducible refine DL.r_seq ?_ | with_reducible refine DL.r_next ?_ | with_reducible refine DL.r_ret ?_ | with_reducible refine DL.r_ifS ?_ | with_reducible refine DL.r_asg ?_ | with_reducible refine DL.r_drop ?_ | with_reducible refine DL.r_c ?_ | with_reducible refine DL.r_nil ?_ | with_reducible refine DL.r_cons ?_ | with_reducible refine DL.r_op ?_ | with_reducible refine DL.r_cb ?_ | with_reducible refine DL.r_ofL ?_ | with_reducible refine DL.r_lst ?_ | with_reducible refine DL.r_tup ?_ | with_reducible refine DL.r_b ?_ | with_reducible refine DL.r_not ?_ | with_reducible refine DL.r_and ?_ | with_reducible refine DL.r_or ?_ | with_reducible refine DL.r_andV ?_ | with_reducible refine DL.r_orV ?_ | with_reducible refine DL.r_notV ?_ | with_reducible refine DL.r_neg ?_ | with_reducible refine DL.r_par ?_ | with_reducible refine DL.r_par3 ?_ | with_reducible refine DL.r_gname ?_ | with_reducible refine DL.r_callO ?_ | (with_reducible apply DL.r_var; focus exact rfl) | with_reducible refine DL.r_if1 ?_ | with_reducible refine DL.r_if0 ?_)
    refine r_call (s1 := S) (ds := [vd]) (fun R h => ?_) (okW_no ov) ⟨vd, 6, rfl, rfl, ov, ?_⟩
    · repeat (first | with_reducible refine DL.r_seq ?_ | with_reducible refine DL.r_next ?_ | with_reducible refine DL.r_ret ?_ | with_reducible refine DL.r_ifS ?_ | with_reducible refine DL.r_asg ?_ | with_reducible refine DL.r_drop ?_ | with_reducible refine DL.r_c ?_ | with_reducible refine DL.r_nil ?_ | with_reducible refine DL.r_cons ?_ | with_reducible refine DL.r_op ?_ | with_reducible refine DL.r_cb ?_ | with_reducible refine DL.r_ofL ?_ | with_reducible refine DL.r_lst ?_ | with_reducible refine DL.r_tup ?_ | with_reducible refine DL.r_b ?_ | with_reducible refine DL.r_not ?_ | with_reducible refine DL.r_and ?_ | with_reducible refine DL.r_or ?_ | with_reducible refine DL.r_andV ?_ | with_reducible refine DL.r_orV ?_ | with_reducible refine DL.r_notV ?_ | with_reducible refine DL.r_neg ?_ | with_reducible refine DL.r_par ?_ | with_reducible refine DL.r_par3 ?_ | with_reducible refine DL.r_gname ?_ | with_reducible refine DL.r_callO ?_ | (with_reducible apply DL.r_var; focus exact rfl) | with_reducible refine DL.r_if1 ?_ | with_reducible refine DL.r_if0 ?_)
      refine r_var w10 ?_
      repeat (first | with_reducible refine DL.r_seq ?_ | with_reducible refine DL.r_next ?_ | with_reducible refine DL.r_ret ?_ | with_reducible refine DL.r_ifS ?_ | with_reducible refine DL.r_asg ?_ | with_reducible refine DL.r_drop ?_ | with_reducible refine DL.r_c ?_ | with_reducible refine DL.r_nil ?_ | with_reducible refine DL.r_cons ?_ | with_reducible refine DL.r_op ?_ | with_reducible refine DL.r_cb ?_ | with_reducible refine DL.r_ofL ?_ | with_reducible refine DL.r_lst ?_ | with_reducible refine DL.r_tup ?_ | with_reducible refine DL.r_b ?_ | with_reducible refine DL.r_not ?_ | with_reducible refine DL.r_and ?_ | with_reducible refine DL.r_or ?_ | with_reducible refine DL.r_andV ?_ | with_reducible refine DL.r_orV ?_ | with_reducible refine DL.r_notV ?_ | with_reducible refine DL.r_neg ?_ | with_reducible refine DL.r_par ?_ | with_reducible refine DL.r_par3 ?_ | with_reducible refine DL.r_gname ?_ | with_reducible refine DL.r_callO ?_ | (with_reducible apply DL.r_var; focus exact rfl) | with_reducible refine DL.r_if1 ?_ | with_reducible refine DL.r_if0 ?_)
      exact h
    repeat (first | with_reducible refine DL.r_seq ?_ | with_reducible refine DL.r_next ?_ | with_reducible refine DL.r_ret ?_ | with_reducible refine DL.r_ifS ?_ | with_reducible refine DL.r_asg ?_ | with_reducible refine DL.r_drop ?_ | with_reducible refine DL.r_c ?_ | with_reducible refine DL.r_nil ?_ | with_reducible refine DL.r_cons ?_ | with_reducible refine DL.r_op ?_ | with_reducible refine DL.r_cb ?_ | with_reducible refine DL.r_ofL ?_ | with_reducible refine DL.r_lst ?_ | with_reducible refine DL.r_tup ?_ | with_reducible refine DL.r_b ?_ | with_reducible refine DL.r_not ?_ | with_reducible refine DL.r_and ?_ | with_reducible refine DL.r_or ?_ | with_reducible refine DL.r_andV ?_ | with_reducible refine DL.r_orV ?_ | with_reducible refine DL.r_notV ?_ | with_reducible refine DL.r_neg ?_ | with_reducible refine DL.r_par ?_ | with_reducible refine DL.r_par3 ?_ | with_reducible refine DL.r_gname ?_ | with_reducible refine DL.r_callO ?_ | (with_reducible apply DL.r_var; focus exact rfl) | with_reducible refine DL.r_if1 ?_ | with_reducible refine DL.r_if0 ?_)
    refine rep3 _ _ ?_
    repeat (first | with_reducible refine DL.r_seq ?_ | with_reducible refine DL.r_next ?_ | with_reducible refine DL.r_ret ?_ | with_reducible refine DL.r_ifS ?_ | with_reducible refine DL.r_asg ?_ | with_reducible refine DL.r_drop ?_ | with_reducible refine DL.r_c ?_ | with_reducible refine DL.r_nil ?_ | with_reducible refine DL.r_cons ?_ | with_reducible refine DL.r_op ?_ | with_reducible refine DL.r_cb ?_ | with_reducible refine DL.r_ofL ?_ | with_reducible refine DL.r_lst ?_ | with_reducible refine DL.r_tup ?_ | with_reducible refine DL.r_b ?_ | with_reducible refine DL.r_not ?_ | with_reducible refine DL.r_and ?_ | with_reducible refine DL.r_or ?_ | with_reducible refine DL.r_andV ?_ | with_reducible refine DL.r_orV ?_ | with_reducible refine DL.r_notV ?_ | with_reducible refine DL.r_neg ?_ | with_reducible refine DL.r_par ?_ | with_reducible refine DL.r_par3 ?_ | with_reducible refine DL.r_gname ?_ | with_reducible refine DL.r_callO ?_ | (with_reducible apply DL.r_var; focus exact rfl) | with_reducible refine DL.r_if1 ?_ | with_reducible refine DL.r_if0 ?_)
    refine r_call (s1 := S) (ds := [vd]) (fun R h => ?_) (okW_no ov) ⟨vd, 6, rfl, rfl, ov, ?_⟩
    · repeat (first | with_reducible refine DL.r_seq ?_ | with_reducible refine DL.r_next ?_ | with_reducible refine DL.r_ret ?_ | with_reducible refine DL.r_ifS ?_ | with_reducible refine DL.r_asg ?_ | with_reducible refine DL.r_drop ?_ | with_reducible refine DL.r_c ?_ | with_reducible refine DL.r_nil ?_ | with_reducible refine DL.r_cons ?_ | with_reducible refine DL.r_op ?_ | with_reducible refine DL.r_cb ?_ | with_reducible refine DL.r_ofL ?_ | with_reducible refine DL.r_lst ?_ | with_reducible refine DL.r_tup ?_ | with_reducible refine DL.r_b ?_ | with_reducible refine DL.r_not ?_ | with_reducible refine DL.r_and ?_ | with_reducible refine DL.r_or ?_ | with_reducible refine DL.r_andV ?_ | with_reducible refine DL.r_orV ?_ | with_reducible refine DL.r_notV ?_ | with_reducible refine DL.r_neg ?_ | with_reducible refine DL.r_par ?_ | with_reducible refine DL.r_par3 ?_ | with_reducible refine DL.r_gname ?_ | with_reducible refine DL.r_callO ?_ | (with_reducible apply DL.r_var; focus exact rfl) | with_reducible refine DL.r_if1 ?_ | with_reducible refine DL.r_if0 ?_)
      refine r_var w10 ?_
      repeat (first | with_reducible refine DL.r_seq ?_ | with_reducible refine DL.r_next ?_ | with_reducible refine DL.r_ret ?_ | with_reducible refine DL.r_ifS ?_ | with_reducible refine DL.r_asg ?_ | with_reducible refine DL.r_drop ?_ | with_reducible refine DL.r_c ?_ | with_reducible refine DL.r_nil ?_ | with_reducible refine DL.r_cons ?_ | with_reducible refine DL.r_op ?_ | with_reducible refine DL.r_cb ?_ | with_reducible refine DL.r_ofL ?_ | with_reducible refine DL.r_lst ?_ | with_reducible refine DL.r_tup ?_ | with_reducible refine DL.r_b ?_ | with_reducible refine DL.r_not ?_ | with_reducible refine DL.r_and ?_ | with_reducible refine DL.r_or ?_ | with_reducible refine DL.r_andV ?_ | with_reducible refine DL.r_orV ?_ | with_reducible refine DL.r_notV ?_ | with_reducible refine DL.r_neg ?_ | with_reducible refine DL.r_par ?_ | with_reducible refine DL.r_par3 ?_ | with_reducible refine DL.r_gname ?_ | with_reducible refine DL.r_callO ?_ | (with_reducible apply DL.r_var; focus exact rfl) | with_reducible refine DL.r_if1 ?_ | with_reducible refine DL.r_if0 ?_)
      exact h
    repeat (first | with_reducible refine DL.r_seq ?_ | with_reducible refine DL.r_next ?_ | with_reducible refine DL.r_ret ?_ | with_reducible refine DL.r_ifS ?_ | with_reducible refine DL.r_asg ?_ | with_reducible refine DL.r_drop ?_ | with_reducible refine DL.r_c ?_ | with_reducible refine DL.r_nil ?_ | with_reducible refine DL.r_cons ?_ | with_reducible refine DL.r_op ?_ | with_reducible refine DL.r_cb ?_ | with_reducible refine DL.r_ofL ?_ | with_reducible refine DL.r_lst ?_ | with_reducible refine DL.r_tup ?_ | with_reducible refine DL.r_b ?_ | with_reducible refine DL.r_not ?_ | with_reducible refine DL.r_and ?_ | with_reducible refine DL.r_or ?_ | with_reducible refine DL.r_andV ?_ | with_reducible refine DL.r_orV ?_ | with_reducible refine DL.r_notV ?_ | with_reducible refine DL.r_neg ?_ | with_reducible refine DL.r_par ?_ | with_reducible refine DL.r_par3 ?_ | with_reducible refine DL.r_gname ?_ | with_reducible refine DL.r_callO ?_ | (with_reducible apply DL.r_var; focus exact rfl) | with_reducible refine DL.r_if1 ?_ | with_reducible refine DL.r_if0 ?_)
    refine rep3 _ _ ?_
    refine ns_same ?_
    refine r_if0 ?_
    repeat (first | with_reducible refine DL.r_seq ?_ | with_reducible refine DL.r_next ?_ | with_reducible refine DL.r_ret ?_ | with_reducible refine DL.r_ifS ?_ | with_reducible refine DL.r_asg ?_ | with_reducible refine DL.r_drop ?_ | with_reducible refine DL.r_c ?_ | with_reducible refine DL.r_nil ?_ | with_reducible refine DL.r_cons ?_ | with_reducible refine DL.r_op ?_ | with_reducible refine DL.r_cb ?_ | with_reducible refine DL.r_ofL ?_ | with_reducible refine DL.r_lst ?_ | with_reducible refine DL.r_tup ?_ | with_reducible refine DL.r_b ?_ | with_reducible refine DL.r_not ?_ | with_reducible refine DL.r_and ?_ | with_reducible refine DL.r_or ?_ | with_reducible refine DL.r_andV ?_ | with_reducible refine DL.r_orV ?_ | with_reducible refine DL.r_notV ?_ | with_reducible refine DL.r_neg ?_ | with_reducible refine DL.r_par ?_ | with_reducible refine DL.r_par3 ?_ | with_reducible refine DL.r_gname ?_ | with_reducible refine DL.r_callO ?_ | (with_reducible apply DL.r_var; focus exact rfl) | with_reducible refine DL.r_if1 ?_ | with_reducible refine DL.r_if0 ?_)
    refine r_call (s1 := S) (ds := [.tup ys]) (fun R h => ?_) (okW_no hps) ⟨.tup ys, 6, rfl, rfl, hps, ?_⟩
    · repeat (first | with_reducible refine DL.r_seq ?_ | with_reducible refine DL.r_next ?_ | with_reducible refine DL.r_ret ?_ | with_reducible refine DL.r_ifS ?_ | with_reducible refine DL.r_asg ?_ | with_reducible refine DL.r_drop ?_ | with_reducible refine DL.r_c ?_ | with_reducible refine DL.r_nil ?_ | with_reducible refine DL.r_cons ?_ | with_reducible refine DL.r_op ?_ | with_reducible refine DL.r_cb ?_ | with_reducible refine DL.r_ofL ?_ | with_reducible refine DL.r_lst ?_ | with_reducible refine DL.r_tup ?_ | with_reducible refine DL.r_b ?_ | with_reducible refine DL.r_not ?_ | with_reducible refine DL.r_and ?_ | with_reducible refine DL.r_or ?_ | with_reducible refine DL.r_andV ?_ | with_reducible refine DL.r_orV ?_ | with_reducible refine DL.r_notV ?_ | with_reducible refine DL.r_neg ?_ | with_reducible refine DL.r_par ?_ | with_reducible refine DL.r_par3 ?_ | with_reducible refine DL.r_gname ?_ | with_reducible refine DL.r_callO ?_ | (with_reducible apply DL.r_var; focus exact rfl) | with_reducible refine DL.r_if1 ?_ | with_reducible refine DL.r_if0 ?_)
      refine r_var w5 ?_
      repeat (first | with_reducible refine DL.r_seq ?_ | with_reducible refine DL.r_next ?_ | with_reducible refine DL.r_ret ?_ | with_reducible refine DL.r_ifS ?_ | with_reducible refine DL.r_asg ?_ | with_reducible refine DL.r_drop ?_ | with_reducible refine DL.r_c ?_ | with_reducible refine DL.r_nil ?_ | with_reducible refine DL.r_cons ?_ | with_reducible refine DL.r_op ?_ | with_reducible refine DL.r_cb ?_ | with_reducible refine DL.r_ofL ?_ | with_reducible refine DL.r_lst ?_ | with_reducible refine DL.r_tup ?_ | with_reducible refine DL.r_b ?_ | with_reducible refine DL.r_not ?_ | with_reducible refine DL.r_and ?_ | with_reducible refine DL.r_or ?_ | with_reducible refine DL.r_andV ?_ | with_reducible refine DL.r_orV ?_ | with_reducible refine DL.r_notV ?_ | with_reducible refine DL.r_neg ?_ | with_reducible refine DL.r_par ?_ | with_reducible refine DL.r_par3 ?_ | with_reducible refine DL.r_gname ?_ | with_reducible refine DL.r_callO ?_ | (with_reducible apply DL.r_var; focus exact rfl) | with_reducible refine DL.r_if1 ?_ | with_reducible refine DL.r_if0 ?_)
      exact h
    rw [fdu]
    repeat (first | with_reducible refine DL.r_seq ?_ | with_reducible refine DL.r_next ?_ | with_reducible refine DL.r_ret ?_ | with_reducible refine DL.r_ifS ?_ | with_reducible refine DL.r_asg ?_ | with_reducible refine DL.r_drop ?_ | with_reducible refine DL.r_c ?_ | with_reducible refine DL.r_nil ?_ | with_reducible refine DL.r_cons ?_ | with_reducible refine DL.r_op ?_ | with_reducible refine DL.r_cb ?_ | with_reducible refine DL.r_ofL ?_ | with_reducible refine DL.r_lst ?_ | with_reducible refine DL.r_tup ?_ | with_reducible refine DL.r_b ?_ | with_reducible refine DL.r_not ?_ | with_reducible refine DL.r_and ?_ | with_reducible refine DL.r_or ?_ | with_reducible refine DL.r_andV ?_ | with_reducible refine DL.r_orV ?_ | with_reducible refine DL.r_notV ?_ | with_reducible refine DL.r_neg ?_ | with_reducible refine DL.r_par ?_ | with_reducible refine DL.r_par3 ?_ | with_reducible refine DL.r_gname ?_ | with_reducible refine DL.r_callO ?_ | (with_reducible apply DL.r_var; focus exact rfl) | with_reducible refine DL.r_if1 ?_ | with_reducible refine DL.r_if0 ?_)
    refine rep4 _ _ ?_
    repeat (first | with_reducible refine DL.r_seq ?_ | with_reducible refine DL.r_next ?_ | with_reducible refine DL.r_ret ?_ | with_reducible refine DL.r_ifS ?_ | with_reducible refine DL.r_asg ?_ | with_reducible refine DL.r_drop ?_ | with_reducible refine DL.r_c ?_ | with_reducible refine DL.r_nil ?_ | with_reducible refine DL.r_cons ?_ | with_reducible refine DL.r_op ?_ | with_reducible refine DL.r_cb ?_ | with_reducible refine DL.r_ofL ?_ | with_reducible refine DL.r_lst ?_ | with_reducible refine DL.r_tup ?_ | with_reducible refine DL.r_b ?_ | with_reducible refine DL.r_not ?_ | with_reducible refine DL.r_and ?_ | with_reducible refine DL.r_or ?_ | with_reducible refine DL.r_andV ?_ | with_reducible refine DL.r_orV ?_ | with_reducible refine DL.r_notV ?_ | with_reducible refine DL.r_neg ?_ | with_reducible refine DL.r_par ?_ | with_reducible refine DL.r_par3 ?_ | with_reducible refine DL.r_gname ?_ | with_reducible refine DL.r_callO ?_ | (with_reducible apply DL.r_var; focus exact rfl) | with_reducible refine DL.r_if1 ?_ | with_reducible refine DL.r_if0 ?_)
    refine r_var w7 ?_
    repeat (first | with_reducible refine DL.r_seq ?_ | with_reducible refine DL.r_next ?_ | with_reducible refine DL.r_ret ?_ | with_reducible refine DL.r_ifS ?_ | with_reducible refine DL.r_asg ?_ | with_reducible refine DL.r_drop ?_ | with_reducible refine DL.r_c ?_ | with_reducible refine DL.r_nil ?_ | with_reducible refine DL.r_cons ?_ | with_reducible refine DL.r_op ?_ | with_reducible refine DL.r_cb ?_ | with_reducible refine DL.r_ofL ?_ | with_reducible refine DL.r_lst ?_ | with_reducible refine DL.r_tup ?_ | with_reducible refine DL.r_b ?_ | with_reducible refine DL.r_not ?_ | with_reducible refine DL.r_and ?_ | with_reducible refine DL.r_or ?_ | with_reducible refine DL.r_andV ?_ | with_reducible refine DL.r_orV ?_ | with_reducible refine DL.r_notV ?_ | with_reducible refine DL.r_neg ?_ | with_reducible refine DL.r_par ?_ | with_reducible refine DL.r_par3 ?_ | with_reducible refine DL.r_gname ?_ | with_reducible refine DL.r_callO ?_ | (with_reducible apply DL.r_var; focus exact rfl) | with_reducible refine DL.r_if1 ?_ | with_reducible refine DL.r_if0 ?_)
    refine rep4 _ _ ?_
    refine ns_same ?_
    refine r_if0 ?_
    refine r_next ?_
    dsimp only
    subst hS
    exact ih _ ⟨fun y h => hx y (List.mem_cons_of_mem _ h), _, _, _, _, _, _, _, _, _, _, b2, rfl, by rw [List.length_cons] at hb; omega⟩
  · have hx' : x ∈ nums 0 (4 : Int).toNat := hx
    unfold nums at hx'
    obtain ⟨i, _, rfl⟩ := List.mem_map.mp hx'
    exact ⟨_, rfl⟩
  · show 700 * (nums 0 (4 : Int).toNat).length ≤ 1000000
    rw [nums_length]
    decide
end
end K01

namespace K01
open PySem L2 DL DX
/-! ### what is asked of the classes, by computing -/
def nmB (K : PySem.W.Frag) (C : Addr) (nm : Str) : Bool := match K.lookup C with
  | some o => (match o.slots[2]? with
    | some (some (PySem.Value.str x _)) => x == nm
    | _ => false)
  | _ => false
theorem nm_ok {K : PySem.W.Frag} {C : Addr} {nm : Str} (h : nmB K C nm = true) : ∃ o tk, K.lookup C = some o ∧ o.slots[2]? = some (some (.str nm tk)) := by
  unfold nmB at h
  split at h
  · rename_i o e
    split at h
    · rename_i x tk e2
      obtain rfl : x = nm := by simpa using h
      exact ⟨o, tk, e, e2⟩
    · cases h
  · cases h
def getB (K : PySem.W.Frag) (C : Addr) : Bool := match PySem.W.findCls K (.ref C) (.type "type") "__name__" with
  | some (.get a b c d) => decide (a = .builtin "getset_descriptor.__get__") && (decide (b = .builtin "type.__name__") && (decide (c = .ref C) && decide (d = .type "type")))
  | _ => false
theorem get_ok {K : PySem.W.Frag} {C : Addr} (h : getB K C = true) : PySem.W.findCls K (.ref C) (.type "type") "__name__" = some (.get (.builtin "getset_descriptor.__get__") (.builtin "type.__name__") (.ref C) (.type "type")) := by
  unfold getB at h
  split at h
  · rename_i a b c d e
    obtain ⟨h1, h⟩ := Bool.and_eq_true_iff.mp h
    obtain ⟨h2, h⟩ := Bool.and_eq_true_iff.mp h
    obtain ⟨h3, h4⟩ := Bool.and_eq_true_iff.mp h
    obtain rfl := of_decide_eq_true h1
    obtain rfl := of_decide_eq_true h2
    obtain rfl := of_decide_eq_true h3
    obtain rfl := of_decide_eq_true h4
    exact e
  · cases h
def clsB (K : PySem.W.Frag) (C : Addr) (nm : Str) (fI fE fB : Addr) : Bool :=
  PySem.W.plainGet K C Str.empty && (PySem.W.hasDictIn K C && (PySem.W.plainOver K C && (decide (PySem.W.findIn K (.ref C) "__setattr__" = some (some (.builtin "object.__setattr__"))) &&
  (decide (PySem.W.findIn K (.ref C) "__class__" = some (some (.builtin "object.__class__"))) && (decide (PySem.W.specialIn K (.builtin "object.__class__") "__get__" = some (some (.builtin "getset_descriptor.__get__"))) && (decide (PySem.W.takesIn K (.builtin "object.__class__") = some true) &&
  (decide (PySem.W.mroIn K C (.type "object") = some true) && (PySem.W.readsIn K C (.type "type") && (decide (PySem.W.typeIn K (.ref C) = some (.type "type")) && (getB K C && (nmB K C nm &&
  ((["word", "parts"] : List Str).all (fun f => decide (PySem.W.findIn K (.ref C) f = some none)) && (PySem.W.makesIn K C && (decide (PySem.W.findIn K (.ref C) "__init__" = some (some (.ref fI))) && (PySem.W.isFn K (.ref fI) && (PySem.W.keepIn K (.ref C) &&
  (decide (PySem.W.findIn K (.ref C) "__eq__" = some (some (.ref fE))) && (PySem.W.isFn K (.ref fE) && (decide (PySem.W.findIn K (.ref C) "__bool__" = some (some (.ref fB))) && (PySem.W.isFn K (.ref fB) &&
  (decide (PySem.W.findIn K (.ref C) "__ne__" = some (some (.builtin "object.__ne__"))) && decide (PySem.W.subIn K (.ref C) (.type "object") = some true))))))))))))))))))))))
structure OneC (K : PySem.W.Frag) (C : Addr) (nm : Str) (fI fE fB : Addr) : Prop where
  N : NmK K C nm
  a : ∀ f, f ∈ (["word", "parts"] : List Str) → NoAttr K C f
  M : Mk K C fI
  e1 : PySem.W.findIn K (.ref C) "__eq__" = some (some (.ref fE))
  e2 : PySem.W.isFn K (.ref fE) = true
  b1 : PySem.W.findIn K (.ref C) "__bool__" = some (some (.ref fB))
  b2 : PySem.W.isFn K (.ref fB) = true
  ne : PySem.W.findIn K (.ref C) "__ne__" = some (some (.builtin "object.__ne__"))
  ob : PySem.W.subIn K (.ref C) (.type "object") = some true
theorem cls_of {K : PySem.W.Frag} {C : Addr} {nm : Str} {fI fE fB : Addr} (h : clsB K C nm fI fE fB = true) : OneC K C nm fI fE fB := by
  unfold clsB at h
  obtain ⟨h1, h⟩ := Bool.and_eq_true_iff.mp h
  obtain ⟨h2, h⟩ := Bool.and_eq_true_iff.mp h
  obtain ⟨h3, h⟩ := Bool.and_eq_true_iff.mp h
  obtain ⟨h4, h⟩ := Bool.and_eq_true_iff.mp h
  obtain ⟨h5, h⟩ := Bool.and_eq_true_iff.mp h
  obtain ⟨h6, h⟩ := Bool.and_eq_true_iff.mp h
  obtain ⟨h7, h⟩ := Bool.and_eq_true_iff.mp h
  obtain ⟨h8, h⟩ := Bool.and_eq_true_iff.mp h
  obtain ⟨h9, h⟩ := Bool.and_eq_true_iff.mp h
  obtain ⟨h10, h⟩ := Bool.and_eq_true_iff.mp h
  obtain ⟨h11, h⟩ := Bool.and_eq_true_iff.mp h
  obtain ⟨h12, h⟩ := Bool.and_eq_true_iff.mp h
  obtain ⟨h13, h⟩ := Bool.and_eq_true_iff.mp h
  obtain ⟨h14, h⟩ := Bool.and_eq_true_iff.mp h
  obtain ⟨h15, h⟩ := Bool.and_eq_true_iff.mp h
  obtain ⟨h16, h⟩ := Bool.and_eq_true_iff.mp h
  obtain ⟨h17, h⟩ := Bool.and_eq_true_iff.mp h
  obtain ⟨h18, h⟩ := Bool.and_eq_true_iff.mp h
  obtain ⟨h19, h⟩ := Bool.and_eq_true_iff.mp h
  obtain ⟨h20, h⟩ := Bool.and_eq_true_iff.mp h
  obtain ⟨h21, h⟩ := Bool.and_eq_true_iff.mp h
  obtain ⟨h22, h23⟩ := Bool.and_eq_true_iff.mp h
  exact ⟨⟨⟨h1, h2, h3, of_decide_eq_true h4⟩, of_decide_eq_true h5, of_decide_eq_true h6, of_decide_eq_true h7, of_decide_eq_true h8, h9, of_decide_eq_true h10, get_ok h11, nm_ok h12⟩,
    fun f hf => of_decide_eq_true (p := PySem.W.findIn K (.ref C) f = some none) (List.all_eq_true.mp h13 f hf), ⟨h14, of_decide_eq_true h15, h16, h17⟩, of_decide_eq_true h18, h19, of_decide_eq_true h20, h21, of_decide_eq_true h22, of_decide_eq_true h23⟩
def twoB (K : PySem.W.Frag) (CP CD : Addr) : Bool :=
  decide (PySem.W.kitOne K (.ref CP) (.ref CP) = some true) && (decide (PySem.W.kitOne K (.ref CD) (.ref CP) = some true) && (decide (PySem.W.kitOne K (.ref CP) (.ref CD) = some false) && (decide (PySem.W.kitOne K (.type "str") (.ref CP) = some false) && (decide (PySem.W.kitOne K (.type "tuple") (.ref CP) = some false) &&
  (PySem.W.notFirst K CP (.ref CP) && (PySem.W.notFirst K CP (.type "tuple") && (PySem.W.notFirst K CP (.type "str") && (PySem.W.notFirst K CD (.ref CD) && (PySem.W.notFirst K CD (.ref CP) && (decide (PySem.W.subIn K (.ref CD) (.ref CP) = some true) && decide (CD ≠ CP)))))))))))
theorem txt_of {K : PySem.W.Frag} {mg : Str → Option Value} {CP CD fI fE fB fU fV : Addr} (n1 : mg "Paper" = some (.ref CP)) (n2 : mg "Denial" = some (.ref CD)) (b1 : mg "isinstance" = none) (b2 : mg "tuple" = none) (b3 : mg "list" = none) (b4 : mg "len" = none) (b5 : mg "range" = none) (b6 : mg "repr" = none) (b7 : mg "bool" = none)
    (OP : OneC K CP "Paper" fI fE fB) (OD : OneC K CD "Denial" fI fU fV) (h : twoB K CP CD = true) : Txt K mg CP CD := by
  unfold twoB at h
  obtain ⟨h1, h⟩ := Bool.and_eq_true_iff.mp h
  obtain ⟨h2, h⟩ := Bool.and_eq_true_iff.mp h
  obtain ⟨h3, h⟩ := Bool.and_eq_true_iff.mp h
  obtain ⟨h4, h⟩ := Bool.and_eq_true_iff.mp h
  obtain ⟨h5, h⟩ := Bool.and_eq_true_iff.mp h
  obtain ⟨h6, h⟩ := Bool.and_eq_true_iff.mp h
  obtain ⟨h7, h⟩ := Bool.and_eq_true_iff.mp h
  obtain ⟨h8, h⟩ := Bool.and_eq_true_iff.mp h
  obtain ⟨h9, h⟩ := Bool.and_eq_true_iff.mp h
  obtain ⟨h10, h⟩ := Bool.and_eq_true_iff.mp h
  obtain ⟨h11, h12⟩ := Bool.and_eq_true_iff.mp h
  exact ⟨n1, n2, b1, b2, b3, b4, b5, b6, b7, OP.N, OD.N, OP.a, OD.a, of_decide_eq_true h1, of_decide_eq_true h2, of_decide_eq_true h3, of_decide_eq_true h4, of_decide_eq_true h5, h6, h7, h8, h9, h10, of_decide_eq_true h11, of_decide_eq_true h12⟩
section
variable {P : Program} {w : World} {K : PySem.W.Frag} {mg : Str → Option Value} {base : Heap} {CP CD : Addr}
theorem ok_law {f : Addr} {fd : FuncData} (F : Fun K "law" "law" s_law f fd) (T : Txt K mg CP CD) (G : Mks P w K mg base CP CD) (G' : Calls P w K mg base CP CD) (Gp : FnS P w K mg base 1 "_law_paw" s__law_paw ["script"] (spDen K)) : FnOkG P w K mg base 11 f fd ["script"] (spLaw K) := by
  refine FunS F sc_law spLaw_len fun cdv A outer s H vs Q E hr hgd h => ?_
  obtain ⟨a, ns, rfl, hS, hl, k⟩ := h
  obtain ⟨ts, t, hp, q⟩ := law_body (P := P) (w := w) (base := base) T G G' (A := A) (outer := outer) (f := f) (cdv := cdv) (s := s) (H := H) (E := E) hr hgd
  have nd := sc_law.nd
  refine ⟨_, pss_cons (ps_set (i := 1) nd rfl (by first | exact .inl rfl | exact .inr rfl) (pe_callS Gp (hr.mono (by decide)) hgd (pa_cons (pv 0) pa_nil))) hp.ps.nox, ?_⟩
  exact lawStart (n := 10) rfl hS hl (fun H => k H) hp.snd q
end
theorem all_mk {l : PySem.W.OpenLaw} {w : World} {K : PySem.W.Frag} {h : Heap} {mg : Str → Option Value} {fa f0 f1 f2 f3 f4 f5 f6 f7 f8 : Addr} (X : K.In h) (G : h.Ns mainGlobals mg) (hfa : mg "law" = some (.ref fa))
    {od0 an0 od1 an1 od2 an2 od3 an3 od4 an4 od5 an5 od6 an6 od7 an7 od8 an8 : Option Addr} {sl0 sl1 sl2 sl3 sl4 sl5 sl6 sl7 sl8 : Array (Option Value)} {oc0 kV0 dc0 pm0 cd0 ct0 oc1 kV1 dc1 pm1 cd1 ct1 oc2 kV2 dc2 pm2 cd2 ct2 oc3 kV3 dc3 pm3 cd3 ct3 oc4 kV4 dc4 pm4 cd4 ct4 oc5 kV5 dc5 pm5 cd5 ct5 oc6 kV6 dc6 pm6 cd6 ct6 oc7 kV7 dc7 pm7 cd7 ct7 oc8 kV8 dc8 pm8 cd8 ct8 : Value}
    (a0 : PySem.W.nsIn K mainGlobals "fixed" = some (some (.ref f0))) (l0 : K.lookup f0 = some ⟨oc0, od0, .func (PySem.W.fnOf "fixed" "fixed" (defArgs s_fixed) (defBody s_fixed) (defScope s_fixed) .none kV0 dc0 pm0 an0 cd0 ct0), sl0⟩) (c0 : PySem.W.codeIn K cd0 "fixed" = true) (k0 : PySem.W.keepIn K (.ref f0) = true)
    (a1 : PySem.W.nsIn K mainGlobals "is_same_paper" = some (some (.ref f1))) (l1 : K.lookup f1 = some ⟨oc1, od1, .func (PySem.W.fnOf "is_same_paper" "is_same_paper" (defArgs s_is_same_paper) (defBody s_is_same_paper) (defScope s_is_same_paper) .none kV1 dc1 pm1 an1 cd1 ct1), sl1⟩) (c1 : PySem.W.codeIn K cd1 "is_same_paper" = true) (k1 : PySem.W.keepIn K (.ref f1) = true)
    (a2 : PySem.W.nsIn K mainGlobals "_law_paw" = some (some (.ref f2))) (l2 : K.lookup f2 = some ⟨oc2, od2, .func (PySem.W.fnOf "_law_paw" "_law_paw" (defArgs s__law_paw) (defBody s__law_paw) (defScope s__law_paw) .none kV2 dc2 pm2 an2 cd2 ct2), sl2⟩) (c2 : PySem.W.codeIn K cd2 "_law_paw" = true) (k2 : PySem.W.keepIn K (.ref f2) = true)
    (a3 : PySem.W.nsIn K mainGlobals "_law_tell" = some (some (.ref f3))) (l3 : K.lookup f3 = some ⟨oc3, od3, .func (PySem.W.fnOf "_law_tell" "_law_tell" (defArgs s__law_tell) (defBody s__law_tell) (defScope s__law_tell) .none kV3 dc3 pm3 an3 cd3 ct3), sl3⟩) (c3 : PySem.W.codeIn K cd3 "_law_tell" = true) (k3 : PySem.W.keepIn K (.ref f3) = true)
    (a4 : PySem.W.nsIn K mainGlobals "_law_pick" = some (some (.ref f4))) (l4 : K.lookup f4 = some ⟨oc4, od4, .func (PySem.W.fnOf "_law_pick" "_law_pick" (defArgs s__law_pick) (defBody s__law_pick) (defScope s__law_pick) .none kV4 dc4 pm4 an4 cd4 ct4), sl4⟩) (c4 : PySem.W.codeIn K cd4 "_law_pick" = true) (k4 : PySem.W.keepIn K (.ref f4) = true)
    (a5 : PySem.W.nsIn K mainGlobals "_law_value" = some (some (.ref f5))) (l5 : K.lookup f5 = some ⟨oc5, od5, .func (PySem.W.fnOf "_law_value" "_law_value" (defArgs s__law_value) (defBody s__law_value) (defScope s__law_value) .none kV5 dc5 pm5 an5 cd5 ct5), sl5⟩) (c5 : PySem.W.codeIn K cd5 "_law_value" = true) (k5 : PySem.W.keepIn K (.ref f5) = true)
    (a6 : PySem.W.nsIn K mainGlobals "_law_fixed" = some (some (.ref f6))) (l6 : K.lookup f6 = some ⟨oc6, od6, .func (PySem.W.fnOf "_law_fixed" "_law_fixed" (defArgs s__law_fixed) (defBody s__law_fixed) (defScope s__law_fixed) .none kV6 dc6 pm6 an6 cd6 ct6), sl6⟩) (c6 : PySem.W.codeIn K cd6 "_law_fixed" = true) (k6 : PySem.W.keepIn K (.ref f6) = true)
    (a7 : PySem.W.nsIn K mainGlobals "_law_made" = some (some (.ref f7))) (l7 : K.lookup f7 = some ⟨oc7, od7, .func (PySem.W.fnOf "_law_made" "_law_made" (defArgs s__law_made) (defBody s__law_made) (defScope s__law_made) .none kV7 dc7 pm7 an7 cd7 ct7), sl7⟩) (c7 : PySem.W.codeIn K cd7 "_law_made" = true) (k7 : PySem.W.keepIn K (.ref f7) = true)
    (a8 : PySem.W.nsIn K mainGlobals "law" = some (some (.ref f8))) (l8 : K.lookup f8 = some ⟨oc8, od8, .func (PySem.W.fnOf "law" "law" (defArgs s_law) (defBody s_law) (defScope s_law) .none kV8 dc8 pm8 an8 cd8 ct8), sl8⟩) (c8 : PySem.W.codeIn K cd8 "law" = true) (k8 : PySem.W.keepIn K (.ref f8) = true)
    (z_isinstance : PySem.W.nsIn K mainGlobals "isinstance" = some none)
    (z_tuple : PySem.W.nsIn K mainGlobals "tuple" = some none)
    (z_list : PySem.W.nsIn K mainGlobals "list" = some none)
    (z_len : PySem.W.nsIn K mainGlobals "len" = some none)
    (z_range : PySem.W.nsIn K mainGlobals "range" = some none)
    (z_repr : PySem.W.nsIn K mainGlobals "repr" = some none)
    (z_bool : PySem.W.nsIn K mainGlobals "bool" = some none)
    (z_int : PySem.W.nsIn K mainGlobals "int" = some none)
    (z_abs : PySem.W.nsIn K mainGlobals "abs" = some none)
    {CP CD fI fE fB fU fV : Addr} (xP : PySem.W.nsIn K mainGlobals "Paper" = some (some (.ref CP))) (xD : PySem.W.nsIn K mainGlobals "Denial" = some (some (.ref CD)))
    {odI anI : Option Addr} {slI : Array (Option Value)} {ocI kVI dcI pmI cdI ctI : Value}
    (aI : PySem.W.findIn K (.ref CP) "__init__" = some (some (.ref fI))) (lI : K.lookup fI = some ⟨ocI, odI, .func (PySem.W.fnOf "__init__" "Paper.__init__" (defArgs s_init) (defBody s_init) (defScope s_init) .none kVI dcI pmI anI cdI ctI), slI⟩) (cI : PySem.W.codeIn K cdI "Paper.__init__" = true) (kI : PySem.W.keepIn K (.ref fI) = true)
    {odE anE : Option Addr} {slE : Array (Option Value)} {ocE kVE dcE pmE cdE ctE : Value}
    (aE : PySem.W.findIn K (.ref CP) "__eq__" = some (some (.ref fE))) (lE : K.lookup fE = some ⟨ocE, odE, .func (PySem.W.fnOf "__eq__" "Paper.__eq__" (defArgs s_eqP) (defBody s_eqP) (defScope s_eqP) .none kVE dcE pmE anE cdE ctE), slE⟩) (cE : PySem.W.codeIn K cdE "Paper.__eq__" = true) (kE : PySem.W.keepIn K (.ref fE) = true)
    {odB anB : Option Addr} {slB : Array (Option Value)} {ocB kVB dcB pmB cdB ctB : Value}
    (aB : PySem.W.findIn K (.ref CP) "__bool__" = some (some (.ref fB))) (lB : K.lookup fB = some ⟨ocB, odB, .func (PySem.W.fnOf "__bool__" "Paper.__bool__" (defArgs s_boP) (defBody s_boP) (defScope s_boP) .none kVB dcB pmB anB cdB ctB), slB⟩) (cB : PySem.W.codeIn K cdB "Paper.__bool__" = true) (kB : PySem.W.keepIn K (.ref fB) = true)
    {odU anU : Option Addr} {slU : Array (Option Value)} {ocU kVU dcU pmU cdU ctU : Value}
    (aU : PySem.W.findIn K (.ref CD) "__eq__" = some (some (.ref fU))) (lU : K.lookup fU = some ⟨ocU, odU, .func (PySem.W.fnOf "__eq__" "Denial.__eq__" (defArgs s_eqD) (defBody s_eqD) (defScope s_eqD) .none kVU dcU pmU anU cdU ctU), slU⟩) (cU : PySem.W.codeIn K cdU "Denial.__eq__" = true) (kU : PySem.W.keepIn K (.ref fU) = true)
    {odV anV : Option Addr} {slV : Array (Option Value)} {ocV kVV dcV pmV cdV ctV : Value}
    (aV : PySem.W.findIn K (.ref CD) "__bool__" = some (some (.ref fV))) (lV : K.lookup fV = some ⟨ocV, odV, .func (PySem.W.fnOf "__bool__" "Denial.__bool__" (defArgs s_boD) (defBody s_boD) (defScope s_boD) .none kVV dcV pmV anV cdV ctV), slV⟩) (cV : PySem.W.codeIn K cdV "Denial.__bool__" = true) (kV : PySem.W.keepIn K (.ref fV) = true)
    (vP : clsB K CP "Paper" fI fE fB = true)
    (vD : clsB K CD "Denial" fI fU fV = true)
    (vT : twoB K CP CD = true) :
    ∃ fd : FuncData, (∀ (s : Shared) (v : Value), BindsTo s fd ⟨[v], []⟩ [("script", v)]) ∧ ∀ base : Heap, K.In base → base.Ns mainGlobals mg → FnOkG l.prog w K mg base 11 fa fd ["script"] (spLaw K) := by
  have e := hfa.symm.trans (PySem.W.mg_of X G a8)
  cases e
  have D0 : Dfn K mg "fixed" s_fixed ["value"] := dfn_mk X G (fun _ _ _ _ _ _ us hl => match us, hl with | [_], _ => rfl) a0 l0 c0 k0
  have D1 : Dfn K mg "is_same_paper" s_is_same_paper ["paper", "value"] := dfn_mk X G (fun _ _ _ _ _ _ us hl => match us, hl with | [_, _], _ => rfl) a1 l1 c1 k1
  have D2 : Dfn K mg "_law_paw" s__law_paw ["script"] := dfn_mk X G (fun _ _ _ _ _ _ us hl => match us, hl with | [_], _ => rfl) a2 l2 c2 k2
  have D3 : Dfn K mg "_law_tell" s__law_tell ["paw", "many"] := dfn_mk X G (fun _ _ _ _ _ _ us hl => match us, hl with | [_, _], _ => rfl) a3 l3 c3 k3
  have D4 : Dfn K mg "_law_pick" s__law_pick ["paw", "some"] := dfn_mk X G (fun _ _ _ _ _ _ us hl => match us, hl with | [_, _], _ => rfl) a4 l4 c4 k4
  have D5 : Dfn K mg "_law_value" s__law_value ["paw", "deep"] := dfn_mk X G (fun _ _ _ _ _ _ us hl => match us, hl with | [_, _], _ => rfl) a5 l5 c5 k5
  have D6 : Dfn K mg "_law_fixed" s__law_fixed ["value"] := dfn_mk X G (fun _ _ _ _ _ _ us hl => match us, hl with | [_], _ => rfl) a6 l6 c6 k6
  have D7 : Dfn K mg "_law_made" s__law_made ["word", "parts", "is_denial"] := dfn_mk X G (fun _ _ _ _ _ _ us hl => match us, hl with | [_, _, _], _ => rfl) a7 l7 c7 k7
  have FI := fun_mk (st := s_init) lI cI kI
  have FE := fun_mk (st := s_eqP) lE cE kE
  have FB := fun_mk (st := s_boP) lB cB kB
  have Fe := fun_mk (st := s_eqD) lU cU kU
  have Fb := fun_mk (st := s_boD) lV cV kV
  have OP := cls_of vP
  have OD := cls_of vD
  exact ⟨PySem.W.fnOf "law" "law" (defArgs s_law) (defBody s_law) (defScope s_law) .none kV8 dc8 pm8 an8 cd8 ct8, fun s v => .of_eq rfl, fun base _ _ => by
    have T : Txt K mg CP CD := txt_of (PySem.W.mg_of X G xP) (PySem.W.mg_of X G xD) (PySem.W.mg_none_of X G z_isinstance) (PySem.W.mg_none_of X G z_tuple) (PySem.W.mg_none_of X G z_list) (PySem.W.mg_none_of X G z_len) (PySem.W.mg_none_of X G z_range) (PySem.W.mg_none_of X G z_repr) (PySem.W.mg_none_of X G z_bool) OP OD vT
    have T0 : Txt0 K mg := ⟨PySem.W.mg_none_of X G z_int, PySem.W.mg_none_of X G z_abs, PySem.W.mg_none_of X G z_len⟩
    have Gf : ∀ n, FnF l.prog w K mg base n "fixed" s_fixed ["value"] (CF n) := ok_fixed D0 T
    have Gs : FnF l.prog w K mg base 1 "is_same_paper" s_is_same_paper ["paper", "value"] (CSame CP CD) := ok_same D1 T
    have M : Mks l.prog w K mg base CP CD := ⟨⟨fI, ok_init FI OP.N.c OP.a (Gf 7), PySem.W.mg_of X G xP, OP.M⟩, ⟨fI, ok_init FI OD.N.c OD.a (Gf 7), PySem.W.mg_of X G xD, OD.M⟩⟩
    have Gt : Fn l.prog w K mg base 1 "_law_tell" s__law_tell ["paw", "many"] CTell := fnOf_ok D3 fun f fd F => ok_tell F T0
    have Gk := ok_pick D4 Gt T
    have EP : EqF l.prog w K mg base 2 CP (CSame CP CD) := ⟨⟨fE, _, ["self", "other"], ok_eqP FE Gs, OP.e1, OP.e2, FE.binds (fun _ _ _ _ _ _ us hl => match us, hl with | [_, _], _ => rfl)⟩, OP.ne, OP.ob⟩
    have ED : EqF l.prog w K mg base 2 CD (CSame CP CD) := ⟨⟨fU, _, ["self", "other"], ok_eqD Fe Gs, OD.e1, OD.e2, Fe.binds (fun _ _ _ _ _ _ us hl => match us, hl with | [_, _], _ => rfl)⟩, OD.ne, OD.ob⟩
    have BP : BoF l.prog w K mg base 1 CP (CTrue true CP) := ⟨fB, _, ["self"], ok_boP FB, OP.b1, OP.b2, FB.binds (fun _ _ _ _ _ _ us hl => match us, hl with | [_], _ => rfl)⟩
    have BD : BoF l.prog w K mg base 1 CD (CTrue false CD) := ⟨fV, _, ["self"], ok_boD Fb, OD.b1, OD.b2, Fb.binds (fun _ _ _ _ _ _ us hl => match us, hl with | [_], _ => rfl)⟩
    exact ok_law (fun_mk (st := s_law) l8 c8 k8) T M ⟨Gt, Gk, ok_value D5 Gt Gk T, Gf 7, ok__law_fixed D6 T 7, ok_made D7 T M, EP, ED, BP, BD⟩ (fnS D2 fun f fd F => ok_paw F T0)⟩
theorem my_walk {l : PySem.W.OpenLaw} {q : Program} {loose : List Str} {XP : (Str → Option Value) → Heap → Prop} {YP : World → Heap → Prop} {d : DefRec} {K : Params → PySem.W.Frag} (hn : l.most = some 63) (hdf : d.params.defaults = [])
    (hY : ∀ (w : World) (h : Heap), YP w h → (K w.params).In h)
    (F : ∀ (w : World) (mg : Str → Option Value) (fa : Addr) (h : Heap), (K w.params).In h → h.Ns mainGlobals mg → mg d.name = some (.ref fa) →
      ∃ fd : FuncData, (∀ (s : Shared) (u : Value), BindsTo s fd ⟨[u], []⟩ [("script", u)]) ∧ ∀ base : Heap, (K w.params).In base → base.Ns mainGlobals mg → FnOkG l.prog w (K w.params) mg base 11 fa fd ["script"] (spLaw (K w.params))) :
    PySem.W.WalkO q loose XP YP l.row.toRowW d [] (fun f vs => PySem.call f vs) :=
  walkG (n := 63) (k := 11) (x := "script") (sp := fun K => spLaw K) hn (by decide) hdf ⟨rfl, by decide, by decide⟩ hY F (fun K H a ns hl _ hS => ⟨a, ns, rfl, hS, hl, fun _ => rfl⟩)
end K01

open PySem PySem.W PyProof.Rows in
set_option maxRecDepth 100000 in
set_option maxHeartbeats 0 in
theorem PySem.Challenge.cw_fourstones_k01_papers_keep_what_they_tel_holds : PySem.Challenge.rw_fourstones_k01_papers_keep_what_they_tel.Holds := by
  w_on; o_law; k_head; (case hw => w_witness2)
  k_fill
  refine K01.my_walk (l := PySem.Challenge.rw_fourstones_k01_papers_keep_what_they_tel) rfl rfl (fun w h Y => PySem.W.kIn_of Y) ?F
  case F =>
    intro w mg fa h KX G hmg
    refine' K01.all_mk KX G hmg ?a0 ?l0 ?c0 ?k0 ?a1 ?l1 ?c1 ?k1 ?a2 ?l2 ?c2 ?k2 ?a3 ?l3 ?c3 ?k3 ?a4 ?l4 ?c4 ?k4 ?a5 ?l5 ?c5 ?k5 ?a6 ?l6 ?c6 ?k6 ?a7 ?l7 ?c7 ?k7 ?a8 ?l8 ?c8 ?k8 ?z_isinstance ?z_tuple ?z_list ?z_len ?z_range ?z_repr ?z_bool ?z_int ?z_abs ?xP ?xD ?aI ?lI ?cI ?kI ?aE ?lE ?cE ?kE ?aB ?lB ?cB ?kB ?aU ?lU ?cU ?kU ?aV ?lV ?cV ?kV ?vP ?vD ?vT
    (case a0 => k_is)
    (case l0 => k_is)
    (case c0 => k_is)
    (case k0 => k_is)
    (case a1 => k_is)
    (case l1 => k_is)
    (case c1 => k_is)
    (case k1 => k_is)
    (case a2 => k_is)
    (case l2 => k_is)
    (case c2 => k_is)
    (case k2 => k_is)
    (case a3 => k_is)
    (case l3 => k_is)
    (case c3 => k_is)
    (case k3 => k_is)
    (case a4 => k_is)
    (case l4 => k_is)
    (case c4 => k_is)
    (case k4 => k_is)
    (case a5 => k_is)
    (case l5 => k_is)
    (case c5 => k_is)
    (case k5 => k_is)
    (case a6 => k_is)
    (case l6 => k_is)
    (case c6 => k_is)
    (case k6 => k_is)
    (case a7 => k_is)
    (case l7 => k_is)
    (case c7 => k_is)
    (case k7 => k_is)
    (case a8 => k_is)
    (case l8 => k_is)
    (case c8 => k_is)
    (case k8 => k_is)
    (case z_isinstance => k_is)
    (case z_tuple => k_is)
    (case z_list => k_is)
    (case z_len => k_is)
    (case z_range => k_is)
    (case z_repr => k_is)
    (case z_bool => k_is)
    (case z_int => k_is)
    (case z_abs => k_is)
    (case xP => k_is)
    (case xD => k_is)
    (case aI => k_is)
    (case lI => k_is)
    (case cI => k_is)
    (case kI => k_is)
    (case aE => k_is)
    (case lE => k_is)
    (case cE => k_is)
    (case kE => k_is)
    (case aB => k_is)
    (case lB => k_is)
    (case cB => k_is)
    (case kB => k_is)
    (case aU => k_is)
    (case lU => k_is)
    (case cU => k_is)
    (case kU => k_is)
    (case aV => k_is)
    (case lV => k_is)
    (case cV => k_is)
    (case kV => k_is)
    (case vP => exact rfl)
    (case vD => exact rfl)
    (case vT => exact rfl)
#print axioms PySem.Challenge.cw_fourstones_k01_papers_keep_what_they_tel_holds
