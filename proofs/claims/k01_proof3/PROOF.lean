import PyProof.Rows.All
import PySem.Challenge.RW_ledlines_k01_drawings_validated
import HandS.ForMost
import HandS.EndTab
import Wide.All
import OpenK.AllK
import Wide.FinOn
import HandS.Exc
import HandS.TryOnly
import HandS.ExcOwn
import HandS.WordsExc
import HandS.TupAny
import HandS.Lambda
import HandS.TupLe
import HandS.Deep
import HandS.CallSlots
import HandS.IsInst
import HandS.Zip
import HandS.ExcInit
import KE.DataMinMax
import KE.SortData
import KE.GoesEnum
import HandS.TupSets
import HandS.NamedTupSort
import HandS.Comp
import HandS.ExcIs
import HandS.ExcField
import HandS.SetFor
import HandS.OwnEq
import PyProof.InstEq
import HandS.Gcd
import HandS.Style
set_option Elab.async false
set_option linter.all false
section
set_option maxRecDepth 100000
set_option maxHeartbeats 1000000
namespace MP
open PySem L2

/-- plain data; obj n: the n-th thing of the store -/
inductive D where
  | non | bl (b : Bool) | int (i : Int) | str (s : Str) | tup (l : List D) | obj (n : Nat)
/-- a thing that may change -/
inductive Cell where
  | lst (ro : Bool) (l : List D)
  | ins (c : Str) (fs : List (Str × D))
  | exc (live : Bool) (c : Str) (fs : List (Str × D))
abbrev Sto := List Cell
abbrev Ls := List (Option D)

structure Gam where
  K : PySem.W.Frag
  cl : Str → Addr
  /-- the exceptions that are held in suites -/
  ex : List (Addr × Str × Option Addr) := []
  /-- the tables of code objects that lambdas are laid into, and the lambdas' names -/
  T : List (Addr × Str) := []

mutual
inductive Rv (K : PySem.W.Frag) (m : Nat → Addr) (L : Nat) (H : Hp) : D → V → Prop
  | non : Rv K m L H .non .non
  | bl (b : Bool) : Rv K m L H (.bl b) (.bl b)
  | int (i : Int) : Rv K m L H (.int i) (.int i)
  | str (s : Str) : Rv K m L H (.str s) (.str s)
  | tup {a : Addr} {vs : List V} {ds : List D} : SqT K H a vs → RvL K m L H ds vs → Rv K m L H (.tup ds) (.ref a)
  | obj {n : Nat} : n < L → Rv K m L H (.obj n) (.ref (m n))
inductive RvL (K : PySem.W.Frag) (m : Nat → Addr) (L : Nat) (H : Hp) : List D → List V → Prop
  | nil : RvL K m L H [] []
  | cons {d : D} {v : V} {ds : List D} {vs : List V} : Rv K m L H d v → RvL K m L H ds vs → RvL K m L H (d :: ds) (v :: vs)
end

structure Keep (H H' : Hp) : Prop where
  tup : ∀ b xs, H b = some (.tup xs) → H' b = some (.tup xs)
  frz : ∀ b o u, H b = some (.frz o u) → H' b = some (.frz o u)
  xd : ∀ b vs, H b = some (.xd vs) → H' b = some (.xd vs)
theorem Keep.refl (H : Hp) : Keep H H := ⟨fun _ _ h => h, fun _ _ _ h => h, fun _ _ h => h⟩
theorem Keep.trans {H H1 H2 : Hp} (a : Keep H H1) (b : Keep H1 H2) : Keep H H2 := ⟨fun c xs h => b.tup c xs (a.tup c xs h), fun c o u h => b.frz c o u (a.frz c o u h), fun c vs h => b.xd c vs (a.xd c vs h)⟩
theorem Keep.new {H : Hp} {p : Addr} {o : HO} (h : H p = none) : Keep H (upd H p o) :=
  ⟨fun b xs e => by rw [upd_ne (ne_of_none e h)]; exact e, fun b o u e => by rw [upd_ne (ne_of_none e h)]; exact e, fun b xs e => by rw [upd_ne (ne_of_none e h)]; exact e⟩
/-- what may be written -/
structure Plain (u : HO) : Prop where
  tup : ∀ xs, u ≠ .tup xs
  frz : ∀ o w, u ≠ .frz o w
  tbl : ∀ ps, u ≠ .tbl ps
  ext : ∀ φ, u ≠ .ext φ
  xd : ∀ vs, u ≠ .xd vs
theorem Plain.lst {xs : List V} : Plain (.lst xs) := ⟨(fun _ z => by cases z), (fun _ _ z => by cases z), (fun _ z => by cases z), (fun _ z => by cases z), (fun _ z => by cases z)⟩
theorem Plain.ins {C dx : Addr} {fs : List (Str × V)} : Plain (.ins C dx fs) := ⟨(fun _ z => by cases z), (fun _ _ z => by cases z), (fun _ z => by cases z), (fun _ z => by cases z), (fun _ z => by cases z)⟩
theorem Plain.dK {xs : List (Key × V)} : Plain (.dK xs) := ⟨(fun _ z => by cases z), (fun _ _ z => by cases z), (fun _ z => by cases z), (fun _ z => by cases z), (fun _ z => by cases z)⟩
theorem Plain.dT {xs : List (List Key × V)} : Plain (.dT xs) := ⟨(fun _ z => by cases z), (fun _ _ z => by cases z), (fun _ z => by cases z), (fun _ z => by cases z), (fun _ z => by cases z)⟩
theorem Keep.put {H : Hp} {p : Addr} {o u : HO} (h : H p = some u) (n : Plain u) : Keep H (upd H p o) :=
  ⟨fun b xs e => by rw [upd_ne (ne_of e h (fun z => n.tup xs z.symm))]; exact e, fun b ob w e => by rw [upd_ne (ne_of e h (fun z => n.frz ob w z.symm))]; exact e, fun b xs e => by rw [upd_ne (ne_of e h (fun z => n.xd xs z.symm))]; exact e⟩
theorem tabs_put {T : List (Addr × Str)} {H : Hp} {p : Addr} {o u : HO} (h : H p = some u) (n : Plain u) (t : LamX.Tabs T H) : LamX.Tabs T (upd H p o) := fun q hq => by
  obtain ⟨ps, h1, h2, h3⟩ := t q hq
  exact ⟨ps, by rw [upd_ne (ne_of h1 h (fun z => n.tbl ps z.symm))]; exact h1, h2, fun pos cv hc => let ⟨c, e1, e2⟩ := h3 pos cv hc; ⟨c, e1, by rw [upd_ne (ne_of e2 h (fun z => n.ext _ z.symm))]; exact e2⟩⟩
theorem tabs_new {T : List (Addr × Str)} {H : Hp} {p : Addr} {o : HO} (h : H p = none) (t : LamX.Tabs T H) : LamX.Tabs T (upd H p o) := t.ext fun b u e => by rw [upd_ne (ne_of_none e h)]; exact e
theorem Keep.sqT {K : PySem.W.Frag} {H H' : Hp} {a : Addr} {xs : List V} (k : Keep H H') (h : SqT K H a xs) : SqT K H' a xs := by
  rcases h with (h | ⟨o, h⟩) | h
  · exact .inl (.inl (k.tup _ _ h))
  · exact .inl (.inr ⟨o, k.frz _ _ _ h⟩)
  · exact .inr h
def Ext (m : Nat → Addr) (L : Nat) (m' : Nat → Addr) : Prop := ∀ n, n < L → m' n = m n
theorem Ext.refl (m : Nat → Addr) (L : Nat) : Ext m L m := fun _ _ => rfl
theorem Ext.trans {m m1 m2 : Nat → Addr} {L L1 : Nat} (a : Ext m L m1) (b : Ext m1 L1 m2) (h : L ≤ L1) : Ext m L m2 := fun n hn => (b n (Nat.lt_of_lt_of_le hn h)).trans (a n hn)
theorem Ext.less {m m1 : Nat → Addr} {L L1 : Nat} (a : Ext m L1 m1) (h : L ≤ L1) : Ext m L m1 := fun n hn => a n (Nat.lt_of_lt_of_le hn h)

section
variable {K : PySem.W.Frag} {m m' : Nat → Addr} {L L' : Nat} {H H' : Hp}
mutual
theorem Rv.mono (e : Ext m L m') (hL : L ≤ L') (k : Keep H H') : ∀ {d : D} {v : V}, Rv K m L H d v → Rv K m' L' H' d v
  | _, _, .non => .non
  | _, _, .bl b => .bl b
  | _, _, .int i => .int i
  | _, _, .str s => .str s
  | _, _, .tup h r => .tup (k.sqT h) (RvL.mono e hL k r)
  | _, _, .obj (n := n) h => by
    have q := Rv.obj (K := K) (m := m') (H := H') (Nat.lt_of_lt_of_le h hL)
    rw [e n h] at q
    exact q
theorem RvL.mono (e : Ext m L m') (hL : L ≤ L') (k : Keep H H') : ∀ {ds : List D} {vs : List V}, RvL K m L H ds vs → RvL K m' L' H' ds vs
  | _, _, .nil => .nil
  | _, _, .cons r rs => .cons (Rv.mono e hL k r) (RvL.mono e hL k rs)
end
theorem RvL.length : ∀ {ds : List D} {vs : List V}, RvL K m L H ds vs → ds.length = vs.length
  | _, _, .nil => rfl
  | _, _, .cons _ rs => by rw [List.length_cons, List.length_cons, RvL.length rs]
theorem RvL.get : ∀ {ds : List D} {vs : List V} {i : Nat} {d : D}, RvL K m L H ds vs → ds[i]? = some d → ∃ v, vs[i]? = some v ∧ Rv K m L H d v
  | _, _, 0, _, .cons r _, e => ⟨_, rfl, by cases e; exact r⟩
  | _, _, i + 1, d, .cons _ rs, e => RvL.get (i := i) rs (by simpa using e)
theorem RvL.app : ∀ {ds es : List D} {vs ws : List V}, RvL K m L H ds vs → RvL K m L H es ws → RvL K m L H (ds ++ es) (vs ++ ws)
  | _, _, _, _, .nil, s => s
  | _, _, _, _, .cons r rs, s => .cons r (RvL.app rs s)
theorem RvL.snoc {ds : List D} {vs : List V} {d : D} {v : V} (r : RvL K m L H ds vs) (q : Rv K m L H d v) : RvL K m L H (ds ++ [d]) (vs ++ [v]) := r.app (.cons q .nil)
theorem RvL.take : ∀ {ds : List D} {vs : List V} (n : Nat), RvL K m L H ds vs → RvL K m L H (ds.take n) (vs.take n)
  | _, _, 0, _ => .nil
  | _, _, _ + 1, .nil => .nil
  | _, _, n + 1, .cons r rs => .cons r (RvL.take n rs)
theorem RvL.drop : ∀ {ds : List D} {vs : List V} (n : Nat), RvL K m L H ds vs → RvL K m L H (ds.drop n) (vs.drop n)
  | _, _, 0, r => r
  | _, _, _ + 1, .nil => .nil
  | _, _, n + 1, .cons _ rs => RvL.drop n rs
theorem RvL.set : ∀ {ds : List D} {vs : List V} (i : Nat) {d : D} {v : V}, RvL K m L H ds vs → Rv K m L H d v → RvL K m L H (ds.set i d) (vs.set i v)
  | _, _, _, _, _, .nil, _ => .nil
  | _, _, 0, _, _, .cons _ rs, q => .cons q rs
  | _, _, i + 1, _, _, .cons r rs, q => .cons r (RvL.set i rs q)
theorem RvL.getV : ∀ {ds : List D} {vs : List V} {i : Nat} {v : V}, RvL K m L H ds vs → vs[i]? = some v → ∃ d, ds[i]? = some d ∧ Rv K m L H d v
  | _, _, 0, _, .cons r _, e => ⟨_, rfl, by cases e; exact r⟩
  | _, _, i + 1, v, .cons _ rs, e => RvL.getV (i := i) rs (by simpa using e)
end

/-- fields -/
inductive FsR (K : PySem.W.Frag) (m : Nat → Addr) (L : Nat) (H : Hp) : List (Str × D) → List (Str × V) → Prop
  | nil : FsR K m L H [] []
  | cons {f : Str} {d : D} {v : V} {fs : List (Str × D)} {vs : List (Str × V)} : Rv K m L H d v → FsR K m L H fs vs → FsR K m L H ((f, d) :: fs) ((f, v) :: vs)
/-- a list that stands still for ever -/
def RoL (K : PySem.W.Frag) (H : Hp) (a : Addr) (xs : List V) : Prop := (∃ o, H a = some (.frz o (.lst xs))) ∨
    ∃ (o : Obj) (its : Array Value) (n : Nat), K.lookup a = some o ∧ o.cls = .type "list" ∧ o.dict = none ∧ o.data = .seq its n ∧ its.size ≤ sizeLine ∧ Vals xs its.toList
theorem RoL.sq {K : PySem.W.Frag} {H : Hp} {a : Addr} {xs : List V} (h : RoL K H a xs) : SqL K H a xs := by
  rcases h with ⟨o, h⟩ | h
  · exact .inl (.inr ⟨o, h⟩)
  · exact .inr h
theorem Keep.roL {K : PySem.W.Frag} {H H' : Hp} {a : Addr} {xs : List V} (k : Keep H H') (h : RoL K H a xs) : RoL K H' a xs := by
  rcases h with ⟨o, h⟩ | h
  · exact .inl ⟨o, k.frz _ _ _ h⟩
  · exact .inr h
theorem FsR.mono' {Γ : Gam} {m m' : Nat → Addr} {L L' : Nat} {H H' : Hp} (e : Ext m L m') (hL : L ≤ L') (k : Keep H H') : ∀ {fs : List (Str × D)} {vs : List (Str × V)}, FsR Γ.K m L H fs vs → FsR Γ.K m' L' H' fs vs
  | _, _, .nil => .nil
  | _, _, .cons r rs => .cons (r.mono e hL k) (FsR.mono' e hL k rs)
/-- the dict of an exception with fields fs -/
def ExcR (Γ : Gam) (m : Nat → Addr) (L : Nat) (H : Hp) (fs : List (Str × D)) (dd : Option Addr) : Prop :=
  (fs = [] ∧ dd = none) ∨ (fs ≠ [] ∧ ∃ a vs, dd = some a ∧ H a = some (.xd vs) ∧ FsR Γ.K m L H fs vs)
theorem ExcR.mono {Γ : Gam} {m m' : Nat → Addr} {L L' : Nat} {H H' : Hp} (e : Ext m L m') (hL : L ≤ L') (k : Keep H H') {fs : List (Str × D)} {dd : Option Addr} (h : ExcR Γ m L H fs dd) : ExcR Γ m' L' H' fs dd := by
  rcases h with h | ⟨h, a, vs, h1, h2, h3⟩
  · exact .inl h
  · exact .inr ⟨h, a, vs, h1, k.xd _ _ h2, FsR.mono' (Γ := Γ) e hL k h3⟩
def CellR (Γ : Gam) (m : Nat → Addr) (L : Nat) (H : Hp) (a : Addr) : Cell → Prop
  | .lst true l => ∃ vs, RoL Γ.K H a vs ∧ RvL Γ.K m L H l vs
  | .lst false l => ∃ vs, H a = some (.lst vs) ∧ RvL Γ.K m L H l vs
  | .ins c fs => ∃ dx vs, H a = some (.ins (Γ.cl c) dx vs) ∧ FsR Γ.K m L H fs vs
  | .exc true c fs => ∃ d, (a, c, d) ∈ Γ.ex ∧ ExcR Γ m L H fs d
  | .exc false _ _ => True
def Cell.mut : Cell → Bool
  | .lst true _ => false
  | .exc _ _ _ => false
  | _ => true
structure StR (Γ : Gam) (m : Nat → Addr) (st : Sto) (H : Hp) : Prop where
  cell : ∀ n c, st[n]? = some c → CellR Γ m st.length H (m n) c
  inj : ∀ i j c d, st[i]? = some c → st[j]? = some d → c.mut = true → d.mut = true → m i = m j → i = j
  tabs : LamX.Tabs Γ.T H
structure LsR (Γ : Gam) (m : Nat → Addr) (L : Nat) (H : Hp) (ls : Ls) (σ : L2.St) : Prop where
  len : ls.length = σ.length
  at_ : ∀ (i : Nat) d, ls[i]? = some (some d) → ∃ v, σ[i]? = some (some v) ∧ Rv Γ.K m L H d v

section
variable {Γ : Gam} {m m' : Nat → Addr} {L L' : Nat} {H H' : Hp}
theorem FsR.mono (e : Ext m L m') (hL : L ≤ L') (k : Keep H H') : ∀ {fs : List (Str × D)} {vs : List (Str × V)}, FsR Γ.K m L H fs vs → FsR Γ.K m' L' H' fs vs
  | _, _, .nil => .nil
  | _, _, .cons r rs => .cons (r.mono e hL k) (FsR.mono e hL k rs)
theorem LsR.mono {ls : Ls} {σ : L2.St} (h : LsR Γ m L H ls σ) (e : Ext m L m') (hL : L ≤ L') (k : Keep H H') : LsR Γ m' L' H' ls σ :=
  ⟨h.len, fun i d q => let ⟨v, a, b⟩ := h.at_ i d q; ⟨v, a, b.mono e hL k⟩⟩
theorem LsR.set {ls : Ls} {σ : L2.St} (h : LsR Γ m L H ls σ) (i : Nat) {d : D} {v : V} (r : Rv Γ.K m L H d v) : LsR Γ m L H (ls.set i (some d)) (σ.set i (some v)) := by
  refine ⟨by rw [List.length_set, List.length_set, h.len], fun j e q => ?_⟩
  by_cases hj : i = j
  · subst hj
    have hi : i < ls.length := by
      by_cases c : i < ls.length
      · exact c
      · rw [List.getElem?_eq_none (by simpa using c)] at q
        cases q
    rw [List.getElem?_set_self hi] at q
    cases q
    exact ⟨v, by rw [List.getElem?_set_self (by rw [← h.len]; exact hi)], r⟩
  · rw [List.getElem?_set_ne hj] at q
    obtain ⟨w, a, b⟩ := h.at_ j e q
    exact ⟨w, by rw [List.getElem?_set_ne hj]; exact a, b⟩
end

/-! ### results -/
inductive Rs where
  | ok (d : D)
  | exc (c : Str) (fs : List (Str × D))
abbrev Rt := Option (Rs × Sto)
/-- what an expression does with the names and the store -/
abbrev De := Ls → Sto → Rt
def AfterOk (Γ : Gam) (m : Nat → Addr) (L : Nat) (H : Hp) (st' : Sto) (d : D) (Q : VK) : Prop :=
  ∀ m' H' v, Ext m L m' → Keep H H' → StR Γ m' st' H' → Rv Γ.K m' st'.length H' d v → Q v H'
def AfterExc (Γ : Gam) (m : Nat → Addr) (L : Nat) (H : Hp) (st' : Sto) (c : Str) (fs : List (Str × D)) (E : XK) : Prop :=
  ∀ m' H' dd, Ext m L m' → Keep H H' → StR Γ m' st' H' → ExcR Γ m' st'.length H' fs dd → E (.ref (Γ.cl c)) dd H'
def Res (Γ : Gam) (m : Nat → Addr) (L : Nat) (H : Hp) (r : Rt) (Q : VK) (E : XK) : Prop :=
  match r with
  | none => False
  | some (.ok d, st') => L ≤ st'.length ∧ AfterOk Γ m L H st' d Q
  | some (.exc c fs, st') => L ≤ st'.length ∧ AfterExc Γ m L H st' c fs E
section
variable {Γ : Gam} {m m' : Nat → Addr} {L L' : Nat} {H H' : Hp} {r : Rt} {Q Q' : VK} {E : XK}
theorem Res.mono (h : Res Γ m L H r Q E) (e : Ext m L m') (k : Keep H H') (hL : L ≤ L') (hr : ∀ a st', r = some (a, st') → L' ≤ st'.length) : Res Γ m' L' H' r Q E := by
  match r, h, hr with
  | some (.ok d, st'), ⟨_, h⟩, hr => exact ⟨hr _ _ rfl, fun m2 H2 v e2 k2 s2 r2 => h m2 H2 v (e.trans e2 hL) (k.trans k2) s2 r2⟩
  | some (.exc c fs, st'), ⟨_, h⟩, hr => exact ⟨hr _ _ rfl, fun m2 H2 v e2 k2 s2 r2 => h m2 H2 v (e.trans e2 hL) (k.trans k2) s2 r2⟩
end
/-- the store never shrinks -/
def Mono (de : De) : Prop := ∀ ls st r st', de ls st = some (r, st') → st.length ≤ st'.length
def bindR (r : Rt) (f : D → Sto → Rt) : Rt :=
  match r with
  | some (.ok d, st') => f d st'
  | r => r
def MonoF (f : D → Sto → Rt) : Prop := ∀ d st r st', f d st = some (r, st') → st.length ≤ st'.length

/-- what is true while a value d, seen as v, is in flight -/
theorem Res.bind {Γ : Gam} {m : Nat → Addr} {st : Sto} {H : Hp} {r : Rt} {f : D → Sto → Rt} {Q : VK} {E : XK} (h : Res Γ m st.length H (bindR r f) Q E) (hm : ∀ a st', r = some (a, st') → st.length ≤ st'.length) (hf : MonoF f) :
    Res Γ m st.length H r (fun v H1 => ∃ m1 d st1, Ext m st.length m1 ∧ Keep H H1 ∧ st.length ≤ st1.length ∧ StR Γ m1 st1 H1 ∧ Rv Γ.K m1 st1.length H1 d v ∧ Res Γ m1 st1.length H1 (f d st1) Q E) E := by
  match r, h, hm with
  | some (.ok d, st1), h, hm =>
    have hl := hm _ _ rfl
    refine ⟨hl, fun m1 H1 v e k s rv => ⟨m1, d, st1, e, k, hl, s, rv, ?_⟩⟩
    have h : Res Γ m st.length H (f d st1) Q E := h
    exact h.mono e k hl fun a st' q => hf d st1 a st' q
  | some (.exc c fs, st1), h, hm => exact h

/-- the readings -/
def tD (Γ : Gam) (W : WX) (de : De) : TE := fun σ H Q => ∃ m ls st, StR Γ m st H ∧ LsR Γ m st.length H ls σ ∧ Res Γ m st.length H (de ls st) Q (fun c d H' => W c d σ H')
structure Sim (X : Cx) (Γ : Gam) (W : WX) (e : Expr) (de : De) : Prop where
  mono : Mono de
  pe : PE X e (tD Γ W de)
theorem _root_.L2.PE.imp {X : Cx} {e : Expr} {t t' : TE} (h : PE X e t) (q : ∀ σ H Q, t' σ H Q → t σ H Q) : PE X e t' := ⟨fun pins s σ H Q I w => h.run pins s σ H Q I (q σ H Q w)⟩
theorem _root_.L2.PT.imp {X : Cx} {e : Expr} {t t' : TT} (h : PT X e t) (q : ∀ σ H Q, t' σ H Q → t σ H Q) : PT X e t' := ⟨fun pins s σ H Q I w => h.run pins s σ H Q I (q σ H Q w)⟩
theorem _root_.L2.PW.imp {X : Cx} {e : Expr} {t t' : TT} (h : PW X e t) (q : ∀ σ H Q, t' σ H Q → t σ H Q) : PW X e t' := ⟨fun wh pins s σ H Q I w => h.run wh pins s σ H Q I (q σ H Q w)⟩
theorem _root_.L2.PA.imp {X : Cx} {es : List Expr} {t t' : TA} (h : PA X es t) (q : ∀ σ H Q, t' σ H Q → t σ H Q) : PA X es t' := ⟨fun pos pins s σ H Q I w => h.run pos pins s σ H Q I (q σ H Q w)⟩
theorem _root_.L2.PS.imp {X : Cx} {e : Stmt} {t t' : TS} (h : PS X e t) (q : ∀ D σ H, t' D σ H → t D σ H) : PS X e t' := ⟨fun pins s σ H D I w => h.run pins s σ H D I (q D σ H w)⟩
theorem _root_.L2.PSs.imp {X : Cx} {e : List Stmt} {t t' : TS} (h : PSs X e t) (q : ∀ D σ H, t' D σ H → t D σ H) : PSs X e t' := ⟨fun pins s σ H D I w => h.run pins s σ H D I (q D σ H w)⟩

/-! ### names, constants -/
def okD (d : D) (st : Sto) : Rt := some (.ok d, st)
def dVar (i : Nat) : De := fun ls st => match ls[i]? with | some (some d) => okD d st | _ => none
def dC (d : D) : De := fun _ st => okD d st
section
variable {X : Cx} {Γ : Gam} {W : WX} {e a b c : Expr} {da db dc : De} {pos : Pos}
theorem Res.ok {m : Nat → Addr} {st : Sto} {H : Hp} {d : D} {v : V} {Q : VK} {E : XK} (h : Res Γ m st.length H (okD d st) Q E) (s : StR Γ m st H) (r : Rv Γ.K m st.length H d v) : Q v H := h.2 m H v (Ext.refl _ _) (Keep.refl _) s r
theorem mono_var {i : Nat} : Mono (dVar i) := fun ls st r st' h => by
  unfold dVar at h
  split at h
  · cases h; exact Nat.le_refl _
  · cases h
theorem mono_c {d : D} : Mono (dC d) := fun ls st r st' h => by cases h; exact Nat.le_refl _
theorem sim_var {i : Nat} {x : Str} (hN : X.N[i]? = some x) (hv : Vis X.env.scope x) (hd : (x == ("__debug__" : Str)) = false) (hcd : (x == ("__classdict__" : Str)) = false) : Sim X Γ W (.Name x pos) (dVar i) := by
  refine ⟨mono_var, (pe_var hN hv hd hcd).imp fun σ H Q h => ?_⟩
  obtain ⟨m, ls, st, s, l, h⟩ := h
  unfold dVar at h
  split at h
  · rename_i d e
    obtain ⟨v, a, b⟩ := l.at_ i d e
    exact ⟨v, a, h.ok s b⟩
  · exact h.elim
theorem sim_int {i : Int} {j} : Sim X Γ W (.Constant (.int i) j pos) (dC (.int i)) := ⟨mono_c, pe_int.imp fun σ H Q ⟨m, ls, st, s, l, h⟩ => h.ok s (.int i)⟩
theorem sim_bl {i : Bool} {j} : Sim X Γ W (.Constant (.bool i) j pos) (dC (.bl i)) := ⟨mono_c, pe_bl.imp fun σ H Q ⟨m, ls, st, s, l, h⟩ => h.ok s (.bl i)⟩
theorem sim_str {i : Str} {j} : Sim X Γ W (.Constant (.str i) j pos) (dC (.str i)) := ⟨mono_c, pe_str.imp fun σ H Q ⟨m, ls, st, s, l, h⟩ => h.ok s (.str i)⟩
theorem sim_non {j} : Sim X Γ W (.Constant .none j pos) (dC .non) := ⟨mono_c, pe_non.imp fun σ H Q ⟨m, ls, st, s, l, h⟩ => h.ok s .non⟩
/-- a module's constant -/
theorem sim_glob {x : Str} {d : D} {v : V} {u : Value} (hg : Gl X x) (hm : X.mg x = some u) (r : RelV v u) (q : ∀ m L H, Rv Γ.K m L H d v) (hd : (x == ("__debug__" : Str)) = false) : Sim X Γ W (.Name x pos) (dC d) :=
  ⟨mono_c, (pe_glob hg hm r hd).imp fun σ H Q ⟨m, ls, st, s, l, h⟩ => h.ok s (q m st.length H)⟩

/-! ### two operands -/
def dBin (f : D → D → Sto → Rt) (da db : De) : De := fun ls st => bindR (da ls st) fun x st1 => bindR (db ls st1) fun y st2 => f x y st2
/-- an operation on data is the operation on values -/
def OpSim (Γ : Gam) (r : R2) (f : D → D → Sto → Rt) : Prop :=
  ∀ (m : Nat → Addr) (st : Sto) (H : Hp) (x y : V) (d e : D) (Q : VK) (E : XK), StR Γ m st H → Rv Γ.K m st.length H d x → Rv Γ.K m st.length H e y → Res Γ m st.length H (f d e st) Q E → r x y H Q
def MonoF2 (f : D → D → Sto → Rt) : Prop := ∀ d e st r st', f d e st = some (r, st') → st.length ≤ st'.length
theorem bindR_mono {r : Rt} {f : D → Sto → Rt} {n : Nat} (h : ∀ a st', r = some (a, st') → n ≤ st'.length) (hf : MonoF f) : ∀ a st', bindR r f = some (a, st') → n ≤ st'.length := fun a st' q => by
  match r, h, q with
  | some (.ok d, st1), h, q => exact Nat.le_trans (h _ _ rfl) (hf d st1 a st' q)
  | some (.exc c fs, st1), h, q => exact h _ _ q
theorem monoF_bind {f : D → Sto → Rt} {ls : Ls} {db : De} (mb : Mono db) (hf : MonoF f) : MonoF fun _ st1 => bindR (db ls st1) f := fun d st r st' q => bindR_mono (fun a s h => mb ls st a s h) hf r st' q
theorem mono_bin {f : D → D → Sto → Rt} (ma : Mono da) (mb : Mono db) (hf : MonoF2 f) : Mono (dBin f da db) := fun ls st r st' q =>
  bindR_mono (fun a s h => ma ls st a s h) (fun d s a s' h => bindR_mono (fun b z h => mb ls s b z h) (fun e s a s' h => hf d e s a s' h) a s' h) r st' q
theorem tD_bin {f : D → D → Sto → Rt} {r : R2} (ma : Mono da) (mb : Mono db) (hf : MonoF2 f) (ho : OpSim Γ r f) {σ : L2.St} {H : Hp} {Q : VK} (h : tD Γ W (dBin f da db) σ H Q) : tOp r (tD Γ W da) (tD Γ W db) σ H Q := by
  obtain ⟨m, ls, st, s, l, h⟩ := h
  refine ⟨m, ls, st, s, l, ?_⟩
  have h1 := Res.bind (r := da ls st) h (fun a st' q => ma ls st a st' q) (fun d s a s' q => bindR_mono (fun b z h => mb ls s b z h) (fun e s a s' h => hf d e s a s' h) a s' q)
  match da ls st, h1 with
  | some (.exc c fs, st'), h1 => exact h1
  | some (.ok d0, st0), ⟨hl0, h1⟩ =>
    refine ⟨hl0, fun m' H' v e k s' rv => ?_⟩
    obtain ⟨m1, d, st1, e1, k1, hl, s1, r1, h2⟩ := h1 m' H' v e k s' rv
    refine ⟨m1, ls, st1, s1, l.mono e1 hl k1, ?_⟩
    have h3 := Res.bind (r := db ls st1) h2 (fun a st' q => mb ls st1 a st' q) (fun e s a s' h => hf d e s a s' h)
    match db ls st1, h3 with
    | some (.exc c fs, st'), h3 => exact h3
    | some (.ok d0, st0), ⟨hl0, h3⟩ =>
      refine ⟨hl0, fun m' H' w e k s' rv => ?_⟩
      obtain ⟨m2, d2, st2, e2, k2, hl2, s2, r2, h4⟩ := h3 m' H' w e k s' rv
      exact ho m2 st2 H' v w d d2 Q _ s2 (r1.mono e2 hl2 k2) r2 h4
theorem sim_op {op : Operator} {r : R2} {f : D → D → Sto → Rt} (hr : OpR X (binaryOp op) r) (ho : OpSim Γ r f) (hf : MonoF2 f) (ha : Sim X Γ W a da) (hb : Sim X Γ W b db) : Sim X Γ W (.BinOp a op b pos) (dBin f da db) :=
  ⟨mono_bin ha.mono hb.mono hf, (pe_op hr ha.pe hb.pe).imp fun σ H Q h => tD_bin ha.mono hb.mono hf ho h⟩
theorem sim_cmp {op : CmpOp} {r : R2} {f : D → D → Sto → Rt} (hr : OpR X (compareOp op) r) (ho : OpSim Γ r f) (hf : MonoF2 f) (ha : Sim X Γ W a da) (hb : Sim X Γ W b db) (hm : behindInMarks op b = false) : Sim X Γ W (.Compare a [op] [b] pos) (dBin f da db) :=
  ⟨mono_bin ha.mono hb.mono hf, (pe_cmpR hr ha.pe hb.pe hm).imp fun σ H Q h => tD_bin ha.mono hb.mono hf ho h⟩
theorem sim_ix {r : R2} {f : D → D → Sto → Rt} (hr : IxR X r) (ho : OpSim Γ r f) (hf : MonoF2 f) (ha : Sim X Γ W a da) (hb : Sim X Γ W b db) (hs : PlainIx b) : Sim X Γ W (.Subscript a b pos) (dBin f da db) :=
  ⟨mono_bin ha.mono hb.mono hf, (pe_ix hr ha.pe hb.pe hs).imp fun σ H Q h => tD_bin ha.mono hb.mono hf ho h⟩
end
end MP
end
section
set_option maxRecDepth 100000
set_option maxHeartbeats 1000000
namespace MP
open PySem L2

/-! ### the store -/
def extM (m : Nat → Addr) (L : Nat) (p : Addr) : Nat → Addr := fun n => if n = L then p else m n
theorem extM_new {m : Nat → Addr} {L : Nat} {p : Addr} : extM m L p L = p := if_pos rfl
theorem extM_old {m : Nat → Addr} {L n : Nat} {p : Addr} (h : n ≠ L) : extM m L p n = m n := if_neg h
theorem extM_ext {m : Nat → Addr} {L : Nat} {p : Addr} : Ext m L (extM m L p) := fun n hn => extM_old (Nat.ne_of_lt hn)
section
variable {Γ : Gam} {m m' : Nat → Addr} {L L' : Nat} {H H' : Hp} {st : Sto} {p : Addr} {n : Nat} {c c' : Cell} {o u : HO} {l : List D}
theorem CellR.mono {a : Addr} (e : Ext m L m') (hL : L ≤ L') (k : Keep H H') (ha : ∀ o, H a = some o → H' a = some o) : ∀ {c : Cell}, CellR Γ m L H a c → CellR Γ m' L' H' a c
  | .lst true l, ⟨vs, h, r⟩ => ⟨vs, k.roL h, r.mono e hL k⟩
  | .lst false l, ⟨vs, h, r⟩ => ⟨vs, ha _ h, r.mono e hL k⟩
  | .ins c fs, ⟨dx, vs, h, r⟩ => ⟨dx, vs, ha _ h, FsR.mono (Γ := Γ) e hL k r⟩
  | .exc true c fs, ⟨d, h, r⟩ => ⟨d, h, r.mono e hL k⟩
  | .exc false _ _, _ => trivial
/-- a cell that may change stands at a tracked thing, no tuple, not frozen -/
theorem CellR.obj {a : Addr} (hc : CellR Γ m L H a c) (hm : c.mut = true) : ∃ u, H a = some u ∧ Plain u := by
  match c, hc, hm with
  | .lst true l, hc, hm => cases hm
  | .exc _ _ _, hc, hm => cases hm
  | .lst false l, ⟨vs, h, r⟩, _ => exact ⟨_, h, .lst⟩
  | .ins c fs, ⟨dx, vs, h, r⟩, _ => exact ⟨_, h, .ins⟩
theorem get_lt {α : Type} {l : List α} {n : Nat} {c : α} (h : l[n]? = some c) : n < l.length := (List.getElem?_eq_some_iff.mp h).1
theorem get_snoc {α : Type} {l : List α} {n : Nat} {c d : α} (h : (l ++ [d])[n]? = some c) : (n < l.length ∧ l[n]? = some c) ∨ (n = l.length ∧ c = d) := by
  by_cases hn : n < l.length
  · rw [List.getElem?_append_left hn] at h
    exact .inl ⟨hn, h⟩
  · rw [List.getElem?_append_right (by omega)] at h
    have z := get_lt h
    rw [List.length_singleton] at z
    have e : n - l.length = 0 := by omega
    rw [e] at h
    exact .inr ⟨by omega, by cases h; rfl⟩
/-- a new thing is laid -/
theorem StR.push (s : StR Γ m st H) (hp : H p = none) (hc : CellR Γ (extM m st.length p) (st.length + 1) (upd H p o) p c) : StR Γ (extM m st.length p) (st ++ [c]) (upd H p o) := by
  have hlen : (st ++ [c]).length = st.length + 1 := by rw [List.length_append, List.length_singleton]
  refine ⟨fun i d h => ?_, fun i j d e hi hj md me q => ?_, tabs_new hp s.tabs⟩
  · rw [hlen]
    rcases get_snoc h with ⟨hi, h⟩ | ⟨hi, e⟩
    · rw [extM_old (Nat.ne_of_lt hi)]
      exact (s.cell i d h).mono extM_ext (Nat.le_succ _) (.new hp) fun o q => by rw [upd_ne (ne_of_none q hp)]; exact q
    · subst hi e
      rw [extM_new]
      exact hc
  · have fr : ∀ {k : Nat} {x : Cell}, st[k]? = some x → x.mut = true → m k ≠ p := fun {k x} hk mx z => by
      obtain ⟨u, e, _⟩ := (s.cell k x hk).obj mx
      rw [z, hp] at e
      cases e
    rcases get_snoc hi with ⟨hi', h1⟩ | ⟨hi', e1⟩
    · rcases get_snoc hj with ⟨hj', h2⟩ | ⟨hj', e2⟩
      · rw [extM_old (Nat.ne_of_lt hi'), extM_old (Nat.ne_of_lt hj')] at q
        exact s.inj i j d e h1 h2 md me q
      · subst hj'
        rw [extM_old (Nat.ne_of_lt hi'), extM_new] at q
        exact absurd q (fr h1 md)
    · rcases get_snoc hj with ⟨hj', h2⟩ | ⟨hj', e2⟩
      · subst hi'
        rw [extM_old (Nat.ne_of_lt hj'), extM_new] at q
        exact absurd q.symm (fr h2 me)
      · rw [hi', hj']
/-- a thing is changed -/
theorem StR.put (s : StR Γ m st H) (hn : st[n]? = some c) (mc : c.mut = true) (mc' : c'.mut = true) (hc : CellR Γ m st.length (upd H (m n) o) (m n) c') : StR Γ m (st.set n c') (upd H (m n) o) := by
  obtain ⟨u, hu, n1⟩ := (s.cell n c hn).obj mc
  have hl : (st.set n c').length = st.length := List.length_set
  have old : ∀ {i : Nat} {d : Cell}, (st.set n c')[i]? = some d → i ≠ n → st[i]? = some d := fun {i d} h hi => by
    rw [List.getElem?_set_ne (Ne.symm hi)] at h
    exact h
  have new : ∀ {d : Cell}, (st.set n c')[n]? = some d → d = c' := fun {d} h => by
    rw [List.getElem?_set_self (get_lt hn)] at h
    cases h
    rfl
  refine ⟨fun i d h => ?_, fun i j d e hi hj md me q => ?_, tabs_put hu n1 s.tabs⟩
  · rw [hl]
    by_cases hi : i = n
    · subst hi
      rw [new h]
      exact hc
    · have h0 := old h hi
      have r := s.cell i d h0
      by_cases md : d.mut = true
      · refine r.mono (Ext.refl _ _) (Nat.le_refl _) (.put hu n1) fun o q => ?_
        rw [upd_ne (fun z => hi (s.inj i n d c h0 hn md mc z))]
        exact q
      · match d, md, r with
        | .lst true l, _, ⟨vs, h, r⟩ => exact ⟨vs, (Keep.put hu n1).roL h, r.mono (Ext.refl _ _) (Nat.le_refl _) (.put hu n1)⟩
        | .exc true _ _, _, ⟨d, h, r⟩ => exact ⟨d, h, r.mono (Ext.refl _ _) (Nat.le_refl _) (.put hu n1)⟩
        | .exc false _ _, _, _ => exact trivial
        | .lst false l, md, _ => exact absurd rfl md
        | .ins _ _, md, _ => exact absurd rfl md
  · by_cases hi' : i = n
    · by_cases hj' : j = n
      · rw [hi', hj']
      · rw [hi'] at q
        exact hi'.trans (s.inj n j c e hn (old hj hj') mc me q)
    · by_cases hj' : j = n
      · rw [hj'] at q
        exact (s.inj i n d c (old hi hi') hn md mc q).trans hj'.symm
      · exact s.inj i j d e (old hi hi') (old hj hj') md me q
theorem StR.list {ro : Bool} (s : StR Γ m st H) (h : st[n]? = some (.lst ro l)) : ∃ vs, SqL Γ.K H (m n) vs ∧ RvL Γ.K m st.length H l vs := by
  have q := s.cell n _ h
  match ro, q with
  | true, ⟨vs, a, r⟩ => exact ⟨vs, a.sq, r⟩
  | false, ⟨vs, a, r⟩ => exact ⟨vs, SqL.of a, r⟩
theorem StR.lst (s : StR Γ m st H) (h : st[n]? = some (.lst false l)) : ∃ vs, H (m n) = some (.lst vs) ∧ RvL Γ.K m st.length H l vs := s.cell n _ h
end

/-! ### giving back -/
section
variable {Γ : Gam} {m : Nat → Addr} {st : Sto} {H : Hp} {Q : VK} {E : XK} {p : Addr}
/-- a new tuple -/
theorem Res.tupN {ds : List D} {vs : List V} (h : Res Γ m st.length H (okD (.tup ds) st) Q E) (s : StR Γ m st H) (r : RvL Γ.K m st.length H ds vs) (hp : H p = none) : Q (.ref p) (upd H p (.tup vs)) := by
  have k : Keep H (upd H p (.tup vs)) := .new hp
  have z : Rv Γ.K m st.length (upd H p (.tup vs)) (.tup ds) (.ref p) := Rv.tup (.inl (.inl upd_same)) (r.mono (Ext.refl _ _) (Nat.le_refl _) k)
  refine h.2 m _ _ (Ext.refl _ _) k ?_ z
  refine ⟨fun i c hi => ?_, s.inj, tabs_new hp s.tabs⟩
  exact (s.cell i c hi).mono (Ext.refl _ _) (Nat.le_refl _) k fun o q => by rw [upd_ne (ne_of_none q hp)]; exact q
/-- a new list -/
def okL (l : List D) (st : Sto) : Rt := some (.ok (.obj st.length), st ++ [.lst false l])
theorem Res.lstN {ds : List D} {vs : List V} (h : Res Γ m st.length H (okL ds st) Q E) (s : StR Γ m st H) (r : RvL Γ.K m st.length H ds vs) (hp : H p = none) : Q (.ref p) (upd H p (.lst vs)) := by
  have k : Keep H (upd H p (.lst vs)) := .new hp
  have e : Ext m st.length (extM m st.length p) := extM_ext
  have q := h.2 (extM m st.length p) (upd H p (.lst vs)) (.ref p) e k (s.push hp ⟨vs, upd_same, r.mono e (Nat.le_succ _) k⟩)
  refine q ?_
  have hl : (st ++ [Cell.lst false ds]).length = st.length + 1 := by rw [List.length_append, List.length_singleton]
  have z := Rv.obj (K := Γ.K) (m := extM m st.length p) (H := upd H p (.lst vs)) (n := st.length) (L := st.length + 1) (Nat.lt_succ_self _)
  rw [extM_new] at z
  rw [hl]
  exact z
/-- a thing is changed -/
theorem Res.putN {n : Nat} {c c' : Cell} {o : HO} {d : D} {v : V} (h : Res Γ m st.length H (some (.ok d, st.set n c')) Q E) (s : StR Γ m st H) (hn : st[n]? = some c) (mc : c.mut = true) (mc' : c'.mut = true)
    (hc : Keep H (upd H (m n) o) → CellR Γ m st.length (upd H (m n) o) (m n) c') (hd : Rv Γ.K m st.length H d v) : Q v (upd H (m n) o) := by
  obtain ⟨u, hu, n1⟩ := (s.cell n c hn).obj mc
  have k : Keep H (upd H (m n) o) := .put hu n1
  refine h.2 m _ v (Ext.refl _ _) k (s.put hn mc mc' (hc k)) ?_
  rw [List.length_set]
  exact hd.mono (Ext.refl _ _) (Nat.le_refl _) k
end
theorem mono_ok {d : D} {st : Sto} {r : Rs} {st' : Sto} (h : okD d st = some (r, st')) : st.length ≤ st'.length := by
  cases h
  exact Nat.le_refl _
theorem mono_okL {l : List D} {st : Sto} {r : Rs} {st' : Sto} (h : okL l st = some (r, st')) : st.length ≤ st'.length := by
  cases h
  rw [List.length_append]
  exact Nat.le_add_right _ _
theorem mono_put {d : D} {st : Sto} {n : Nat} {c : Cell} {r : Rs} {st' : Sto} (h : (some (.ok d, st.set n c) : Rt) = some (r, st')) : st.length ≤ st'.length := by
  cases h
  rw [List.length_set]
  exact Nat.le_refl _
/-- lists and tuples that are made have at most so many items -/
def LINE : Nat := 1000000
theorem line_le {n : Nat} (h : n ≤ LINE) : n ≤ sizeLine := Nat.le_trans h (by decide)
theorem line_lt {n : Nat} (h : n < LINE) : n < sizeLine := Nat.lt_of_lt_of_le h (by decide)
def small (n : Nat) : Bool := decide (n ≤ LINE)
theorem small_le {n : Nat} (h : small n = true) : n ≤ sizeLine := line_le (of_decide_eq_true h)

/-! ### ints -/
def iBin (g : Int → Int → Option D) : D → D → Sto → Rt
  | .int i, .int j, st => match g i j with | some d => okD d st | none => none
  | _, _, _ => none
theorem monoF2_iBin {g : Int → Int → Option D} : MonoF2 (iBin g) := fun d e st r st' h => by
  unfold iBin at h
  split at h
  · split at h
    · exact mono_ok h
    · cases h
  · cases h
end MP
end
section
set_option maxRecDepth 100000
set_option maxHeartbeats 1000000
namespace MP
open PySem L2

/-! ### operators on data -/
def fAdd : D → D → Sto → Rt
  | .int i, .int j, st => okD (.int (i + j)) st
  | .str a, .str b, st => if small (a.length + b.length) then okD (.str (a ++ b)) st else none
  | .tup a, .tup b, st => if small (a.length + b.length) then okD (.tup (a ++ b)) st else none
  | .obj i, .obj j, st => match st[i]?, st[j]? with
    | some (.lst false a), some (.lst false b) => if small (a.length + b.length) then okL (a ++ b) st else none
    | _, _ => none
  | _, _, _ => none
def fSub : D → D → Sto → Rt
  | .int i, .int j, st => okD (.int (i - j)) st
  | _, _, _ => none
def mulOk (i j : Int) : Bool := (decide (-(2 ^ 64) < i) && decide (i < 2 ^ 64)) || (decide (-(2 ^ 64) < j) && decide (j < 2 ^ 64))
def fMul : D → D → Sto → Rt
  | .int i, .int j, st => if mulOk i j then okD (.int (i * j)) st else none
  | _, _, _ => none
def fDiv : D → D → Sto → Rt
  | .int i, .int j, st => if 0 < j ∧ j < 1073741824 then okD (.int (i / j)) st else none
  | _, _, _ => none
def fMod : D → D → Sto → Rt
  | .int i, .int j, st => if 0 < j then okD (.int (i % j)) st else none
  | _, _, _ => none
def fPow : D → D → Sto → Rt
  | .int i, .int j, st => if 0 ≤ j ∧ j ≤ 1000000 ∧ i.natAbs < 2 ^ 64 then okD (.int (i ^ j.toNat)) st else none
  | _, _, _ => none
def intsOf : List D → Option (List Int)
  | [] => some []
  | .int i :: r => match intsOf r with | some l => some (i :: l) | none => none
  | _ :: _ => none
def fLt : D → D → Sto → Rt
  | .int i, .int j, st => okD (.bl (decide (i < j))) st
  | .tup a, .tup b, st => match intsOf a, intsOf b with | some x, some y => okD (.bl (HT.lexLt x y)) st | _, _ => none
  | _, _, _ => none
def fLe : D → D → Sto → Rt
  | .int i, .int j, st => okD (.bl (decide (i ≤ j))) st
  | _, _, _ => none
def fGt : D → D → Sto → Rt
  | .int i, .int j, st => okD (.bl (decide (j < i))) st
  | _, _, _ => none
def fGe : D → D → Sto → Rt
  | .int i, .int j, st => okD (.bl (decide (j ≤ i))) st
  | _, _, _ => none
def isNon : D → Bool
  | .non => true
  | _ => false
def fIs : D → D → Sto → Rt
  | d, .non, st => okD (.bl (isNon d)) st
  | _, _, _ => none
def fIsNot : D → D → Sto → Rt
  | d, .non, st => okD (.bl (!isNon d)) st
  | _, _, _ => none
def mapO {α β : Type} (f : α → Option β) : List α → Option (List β)
  | [] => some []
  | a :: r => match f a, mapO f r with
    | some b, some l => some (b :: l)
    | _, _ => none
def toP (st : Sto) : Nat → D → Option PyData
  | 0, _ => none
  | _ + 1, .non => some .none
  | _ + 1, .bl b => some (.bool b)
  | _ + 1, .int i => some (.int i)
  | _ + 1, .str s => some (.str s)
  | n + 1, .tup l => match mapO (toP st n) l with | some ps => some (.tuple ps) | none => none
  | n + 1, .obj k => match st[k]? with
    | some (.lst _ l) => match mapO (toP st n) l with | some ps => some (.list ps) | none => none
    | _ => none
/-- so deep data are compared -/
def DEEP : Nat := 8
def eqD (st : Sto) (d e : D) : Option Bool := match toP st DEEP d, toP st DEEP e with
  | some p, some q => if SeqAt.shaped p && SeqAt.shaped q then some (PyData.eqv p q) else none
  | _, _ => none
def fEq (d e : D) (st : Sto) : Rt := match eqD st d e with | some b => okD (.bl b) st | none => none
def fNe (d e : D) (st : Sto) : Rt := match eqD st d e with | some b => okD (.bl (!b)) st | none => none
def fIx : D → D → Sto → Rt
  | .tup l, .int i, st => match atI l i with | some d => okD d st | none => none
  | .obj n, .int i, st => match st[n]? with
    | some (.lst _ l) => match atI l i with | some d => okD d st | none => none
    | _ => none
  | .str z, .int i, st => if small z.length then match atI z.cps.toList i with | some c => okD (.str ⟨#[c]⟩) st | none => none else none
  | _, _, _ => none

/-! never less -/
theorem mono_fAdd : MonoF2 fAdd := by
  intro d e st r st' h
  unfold fAdd at h
  repeat' (split at h)
  all_goals first | exact mono_ok h | exact mono_okL h | cases h
theorem mono_fSub : MonoF2 fSub := by
  intro d e st r st' h
  unfold fSub at h
  repeat' (split at h)
  all_goals first | exact mono_ok h | exact mono_okL h | cases h
theorem mono_fMul : MonoF2 fMul := by
  intro d e st r st' h
  unfold fMul at h
  repeat' (split at h)
  all_goals first | exact mono_ok h | exact mono_okL h | cases h
theorem mono_fDiv : MonoF2 fDiv := by
  intro d e st r st' h
  unfold fDiv at h
  repeat' (split at h)
  all_goals first | exact mono_ok h | exact mono_okL h | cases h
theorem mono_fMod : MonoF2 fMod := by
  intro d e st r st' h
  unfold fMod at h
  repeat' (split at h)
  all_goals first | exact mono_ok h | exact mono_okL h | cases h
theorem mono_fPow : MonoF2 fPow := by
  intro d e st r st' h
  unfold fPow at h
  repeat' (split at h)
  all_goals first | exact mono_ok h | exact mono_okL h | cases h
theorem mono_fLt : MonoF2 fLt := by
  intro d e st r st' h
  unfold fLt at h
  repeat' (split at h)
  all_goals first | exact mono_ok h | exact mono_okL h | cases h
theorem mono_fLe : MonoF2 fLe := by
  intro d e st r st' h
  unfold fLe at h
  repeat' (split at h)
  all_goals first | exact mono_ok h | exact mono_okL h | cases h
theorem mono_fGt : MonoF2 fGt := by
  intro d e st r st' h
  unfold fGt at h
  repeat' (split at h)
  all_goals first | exact mono_ok h | exact mono_okL h | cases h
theorem mono_fGe : MonoF2 fGe := by
  intro d e st r st' h
  unfold fGe at h
  repeat' (split at h)
  all_goals first | exact mono_ok h | exact mono_okL h | cases h
theorem mono_fIs : MonoF2 fIs := by
  intro d e st r st' h
  unfold fIs at h
  repeat' (split at h)
  all_goals first | exact mono_ok h | exact mono_okL h | cases h
theorem mono_fIsNot : MonoF2 fIsNot := by
  intro d e st r st' h
  unfold fIsNot at h
  repeat' (split at h)
  all_goals first | exact mono_ok h | exact mono_okL h | cases h
theorem mono_fEq : MonoF2 fEq := by
  intro d e st r st' h
  unfold fEq at h
  repeat' (split at h)
  all_goals first | exact mono_ok h | exact mono_okL h | cases h
theorem mono_fNe : MonoF2 fNe := by
  intro d e st r st' h
  unfold fNe at h
  repeat' (split at h)
  all_goals first | exact mono_ok h | exact mono_okL h | cases h
theorem mono_fIx : MonoF2 fIx := by
  intro d e st r st' h
  unfold fIx at h
  repeat' (split at h)
  all_goals first | exact mono_ok h | exact mono_okL h | cases h

section
variable {Γ : Gam} {m : Nat → Addr} {L : Nat} {H : Hp} {st : Sto}
theorem intsOf_vals : ∀ {ds : List D} {vs : List V} {ns : List Int}, RvL Γ.K m L H ds vs → intsOf ds = some ns → vs = ns.map V.int
  | [], _, ns, .nil, h => by cases h; rfl
  | .int i :: r, _, ns, .cons q rs, h => by
    unfold intsOf at h
    split at h
    · rename_i l e
      cases h
      cases q
      rw [intsOf_vals rs e]
      rfl
    · cases h
  | .non :: _, _, _, _, h => by cases h
  | .bl _ :: _, _, _, _, h => by cases h
  | .str _ :: _, _, _, _, h => by cases h
  | .tup _ :: _, _, _, _, h => by cases h
  | .obj _ :: _, _, _, _, h => by cases h
theorem mapO_cons {α β : Type} {f : α → Option β} {a : α} {r : List α} {l : List β} (h : mapO f (a :: r) = some l) : ∃ b t, f a = some b ∧ mapO f r = some t ∧ l = b :: t := by
  unfold mapO at h
  split at h
  · rename_i b t e1 e2
    cases h
    exact ⟨b, t, e1, e2, rfl⟩
  · cases h
theorem dpAll_of {n : Nat} (ih : ∀ {d : D} {v : V} {p : PyData}, toP st n d = some p → Rv Γ.K m st.length H d v → Dp Γ.K H v p) : ∀ {ds : List D} {vs : List V} {ps : List PyData}, mapO (toP st n) ds = some ps → RvL Γ.K m st.length H ds vs → DpAll Γ.K H vs ps
  | [], _, _, h, .nil => by cases h; exact .nil
  | d :: ds, _, _, h, .cons r rs => by
    obtain ⟨b, t, e1, e2, e3⟩ := mapO_cons h
    subst e3
    exact .cons (ih e1 r) (dpAll_of ih e2 rs)
theorem Rv.dp (s : StR Γ m st H) : ∀ (n : Nat) {d : D} {v : V} {p : PyData}, toP st n d = some p → Rv Γ.K m st.length H d v → Dp Γ.K H v p
  | 0, d, _, _, h, _ => by cases h
  | n + 1, .non, _, _, h, .non => by cases h; exact .non
  | n + 1, .bl b, _, _, h, .bl _ => by cases h; exact .bl b
  | n + 1, .int b, _, _, h, .int _ => by cases h; exact .int b
  | n + 1, .str b, _, _, h, .str _ => by cases h; exact .str b
  | n + 1, .tup l, _, _, h, .tup a r => by
    unfold toP at h
    split at h
    · rename_i ps e
      cases h
      exact .tup a (dpAll_of (Rv.dp s n) e r)
    · cases h
  | n + 1, .obj k, _, _, h, .obj hk => by
    unfold toP at h
    split at h
    · rename_i ro l e0
      split at h
      · rename_i ps e
        cases h
        obtain ⟨vs, a, r⟩ := s.list e0
        exact .lst a (dpAll_of (Rv.dp s n) e r)
      · cases h
    · cases h
end

/-! the readings of the operators -/
section
variable {Γ : Gam}
abbrev rAddD (K : PySem.W.Frag) : R2 := fun x y H Q => (rI0 fun i j => .int (i + j)) x y H Q ∨ ((∃ i j, x = .str i ∧ y = .str j ∧ i.length + j.length ≤ sizeLine ∧ Q (.str (i ++ j)) H) ∨ (rCatA K x y H Q ∨ rCat x y H Q))
theorem op_addD {X : Cx} : OpR X (binaryOp .Add) (rAddD X.K) := op_add.or (op_add_str.or (op_catA.or op_cat))
theorem os_add : OpSim Γ (rAddD Γ.K) fAdd := fun
  | m, st, H, _, _, .int i, .int j, Q, E, s, .int _, .int _, h => .inl ⟨i, j, rfl, rfl, h.ok s (.int _)⟩
  | m, st, H, _, _, .str i, .str j, Q, E, s, .str _, .str _, h => by
    dsimp only [fAdd] at h
    split at h
    · rename_i z
      exact .inr (.inl ⟨i, j, rfl, rfl, small_le z, h.ok s (.str _)⟩)
    · exact h.elim
  | m, st, H, _, _, .tup a, .tup b, Q, E, s, .tup (a := p) (vs := xs) h1 r1, .tup (a := q) (vs := ys) h2 r2, h => by
    dsimp only [fAdd] at h
    split at h
    · rename_i z
      refine .inr (.inr (.inl ⟨p, q, xs, ys, rfl, rfl, h1, h2, by rw [← r1.length, ← r2.length]; exact small_le z, fun e => ?_, fun _ e => ?_, fun _ _ t ht => ?_⟩))
      · subst e
        cases r1
        exact h.ok s (.tup h2 r2)
      · subst e
        cases r2
        rw [List.append_nil] at h
        exact h.ok s (.tup h1 r1)
      · exact h.tupN s (r1.app r2) ht
    · exact h.elim
  | m, st, H, _, _, .obj i, .obj j, Q, E, s, .obj hi, .obj hj, h => by
    dsimp only [fAdd] at h
    split at h
    · rename_i a b e1 e2
      split at h
      · rename_i z
        obtain ⟨xs, a1, r1⟩ := s.lst e1
        obtain ⟨ys, a2, r2⟩ := s.lst e2
        exact .inr (.inr (.inr ⟨m i, m j, xs, ys, rfl, rfl, a1, a2, by rw [← r1.length, ← r2.length]; exact small_le z, fun p hp => h.lstN s (r1.app r2) hp⟩))
      · exact h.elim
    · exact h.elim
theorem os_sub : OpSim Γ (rI0 fun i j => .int (i - j)) fSub := fun
  | m, st, H, _, _, .int i, .int j, Q, E, s, .int _, .int _, h => ⟨i, j, rfl, rfl, h.ok s (.int _)⟩
theorem mulOk_c {i j : Int} (h : mulOk i j = true) : CMul i j := by
  unfold mulOk at h
  simp only [Bool.or_eq_true, Bool.and_eq_true, decide_eq_true_eq] at h
  exact h
theorem os_mul : OpSim Γ (rI CMul fun i j => .int (i * j)) fMul := fun
  | m, st, H, _, _, .int i, .int j, Q, E, s, .int _, .int _, h => by
    dsimp only [fMul] at h
    split at h
    · rename_i z
      exact ⟨i, j, rfl, rfl, mulOk_c z, h.ok s (.int _)⟩
    · exact h.elim
theorem os_div : OpSim Γ (rI CDiv fun i j => .int (i / j)) fDiv := fun
  | m, st, H, _, _, .int i, .int j, Q, E, s, .int _, .int _, h => by
    dsimp only [fDiv] at h
    split at h
    · rename_i z
      exact ⟨i, j, rfl, rfl, z, h.ok s (.int _)⟩
    · exact h.elim
theorem os_mod : OpSim Γ (rI (fun _ j => 0 < j) fun i j => .int (i % j)) fMod := fun
  | m, st, H, _, _, .int i, .int j, Q, E, s, .int _, .int _, h => by
    dsimp only [fMod] at h
    split at h
    · rename_i z
      exact ⟨i, j, rfl, rfl, z, h.ok s (.int _)⟩
    · exact h.elim
theorem os_pow : OpSim Γ (rI CPow fun i j => .int (i ^ j.toNat)) fPow := fun
  | m, st, H, _, _, .int i, .int j, Q, E, s, .int _, .int _, h => by
    dsimp only [fPow] at h
    split at h
    · rename_i z
      exact ⟨i, j, rfl, rfl, z, h.ok s (.int _)⟩
    · exact h.elim
abbrev rLtD (K : PySem.W.Frag) : R2 := fun x y H Q => (rI0 fun i j => .bl (decide (i < j))) x y H Q ∨ rLtT K x y H Q
theorem op_ltD {X : Cx} (hu : X.A.units < cLine) : OpR X (compareOp .Lt) (rLtD X.K) := op_lt.or (op_ltT hu)
theorem os_lt : OpSim Γ (rLtD Γ.K) fLt := fun
  | m, st, H, _, _, .int i, .int j, Q, E, s, .int _, .int _, h => .inl ⟨i, j, rfl, rfl, h.ok s (.bl _)⟩
  | m, st, H, _, _, .tup a, .tup b, Q, E, s, .tup (a := p) (vs := xs) h1 r1, .tup (a := q) (vs := ys) h2 r2, h => by
    dsimp only [fLt] at h
    split at h
    · rename_i ns ms e1 e2
      rw [intsOf_vals r1 e1] at h1
      rw [intsOf_vals r2 e2] at h2
      exact .inr ⟨p, q, ns, ms, rfl, rfl, h1, h2, h.ok s (.bl _)⟩
    · exact h.elim
theorem os_le : OpSim Γ (rI0 fun i j => .bl (decide (i ≤ j))) fLe := fun
  | m, st, H, _, _, .int i, .int j, Q, E, s, .int _, .int _, h => ⟨i, j, rfl, rfl, h.ok s (.bl _)⟩
theorem os_gt : OpSim Γ (rI0 fun i j => .bl (decide (j < i))) fGt := fun
  | m, st, H, _, _, .int i, .int j, Q, E, s, .int _, .int _, h => ⟨i, j, rfl, rfl, h.ok s (.bl _)⟩
theorem os_ge : OpSim Γ (rI0 fun i j => .bl (decide (j ≤ i))) fGe := fun
  | m, st, H, _, _, .int i, .int j, Q, E, s, .int _, .int _, h => ⟨i, j, rfl, rfl, h.ok s (.bl _)⟩
theorem Rv.isNon {m : Nat → Addr} {L : Nat} {H : Hp} {d : D} {x : V} (r : Rv Γ.K m L H d x) : decide (x = .non) = isNon d := by
  cases r <;> first | rfl | exact decide_eq_false (fun z => by cases z)
theorem os_is : OpSim Γ (fun x y H Q => y = .non ∧ Q (.bl (decide (x = .non))) H) fIs := fun m st H x y d e Q E s rx ry h => by
  match e, ry, h with
  | .non, .non, h =>
    refine ⟨rfl, ?_⟩
    rw [rx.isNon]
    exact h.ok s (.bl _)
theorem os_isNot : OpSim Γ (fun x y H Q => y = .non ∧ Q (.bl (!decide (x = .non))) H) fIsNot := fun m st H x y d e Q E s rx ry h => by
  match e, ry, h with
  | .non, .non, h =>
    refine ⟨rfl, ?_⟩
    rw [rx.isNon]
    exact h.ok s (.bl _)
theorem os_eq : OpSim Γ (rEqD Γ.K) fEq := fun m st H x y d e Q E s rx ry h => by
  unfold fEq at h
  split at h
  · rename_i b z
    unfold eqD at z
    split at z
    · rename_i p q e1 e2
      split at z
      · rename_i hs
        cases z
        obtain ⟨s1, s2⟩ := Bool.and_eq_true_iff.mp hs
        exact ⟨p, q, rx.dp s DEEP e1, ry.dp s DEEP e2, s1, s2, h.ok s (.bl _)⟩
      · cases z
    · cases z
  · exact h.elim
theorem os_ne : OpSim Γ (rNeD Γ.K) fNe := fun m st H x y d e Q E s rx ry h => by
  unfold fNe at h
  split at h
  · rename_i b z
    unfold eqD at z
    split at z
    · rename_i p q e1 e2
      split at z
      · rename_i hs
        cases z
        obtain ⟨s1, s2⟩ := Bool.and_eq_true_iff.mp hs
        exact ⟨p, q, rx.dp s DEEP e1, ry.dp s DEEP e2, s1, s2, h.ok s (.bl _)⟩
      · cases z
    · cases z
  · exact h.elim
theorem RvL.atI {m : Nat → Addr} {L : Nat} {H : Hp} {ds : List D} {vs : List V} {i : Int} {d : D} (r : RvL Γ.K m L H ds vs) (h : atI ds i = some d) : ∃ v, L2.atI vs i = some v ∧ Rv Γ.K m L H d v := by
  unfold L2.atI at h ⊢
  rw [r.length] at h
  cases e : ixN vs.length i with
  | none =>
    rw [e] at h
    cases h
  | some j =>
    rw [e] at h
    exact r.get (i := j) h
theorem os_ix : OpSim Γ (rIx Γ.K) fIx := fun
  | m, st, H, _, _, .tup l, .int i, Q, E, s, .tup (a := p) (vs := xs) h1 r1, .int _, h => by
    dsimp only [fIx] at h
    split at h
    · rename_i z ez
      obtain ⟨v, hv, rv⟩ := r1.atI ez
      exact .inr (.inl ⟨p, xs, i, v, rfl, rfl, h1, hv, h.ok s rv⟩)
    · exact h.elim
  | m, st, H, _, _, .obj n, .int i, Q, E, s, .obj _, .int _, h => by
    dsimp only [fIx] at h
    split at h
    · rename_i ro l e0
      split at h
      · rename_i z ez
        obtain ⟨vs, a, r⟩ := s.list e0
        obtain ⟨v, hv, rv⟩ := r.atI ez
        exact .inl ⟨m n, vs, i, v, rfl, rfl, a, hv, h.ok s rv⟩
      · exact h.elim
    · exact h.elim
  | m, st, H, _, _, .str z, .int i, Q, E, s, .str _, .int _, h => by
    dsimp only [fIx] at h
    split at h
    · rename_i hz
      split at h
      · rename_i c ec
        exact .inr (.inr ⟨z, i, c, rfl, rfl, small_le hz, ec, h.ok s (.str _)⟩)
      · exact h.elim
    · exact h.elim
end
end MP
end
section
set_option maxRecDepth 100000
set_option maxHeartbeats 1000000
namespace MP
open PySem L2

section
variable {X : Cx} {Γ : Gam} {W : WX} {e a b c o : Expr} {da db dc : De} {pos : Pos} {es rest : List Expr} {das : List De}
/-! ### tests -/
def QB (Q : Bool → Hp → Prop) : VK := fun v H => ∃ k, v = .bl k ∧ Q k H
def tT (Γ : Gam) (W : WX) (de : De) : TT := fun σ H Q => tD Γ W de σ H (QB Q)
structure SimT (X : Cx) (Γ : Gam) (W : WX) (e : Expr) (de : De) : Prop where
  mono : Mono de
  pt : PT X e (tT Γ W de)
structure SimW (X : Cx) (Γ : Gam) (W : WX) (e : Expr) (de : De) : Prop where
  mono : Mono de
  pw : PW X e (tT Γ W de)
theorem SimW.t (h : SimW X Γ W e da) : SimT X Γ W e da := ⟨h.mono, h.pw.pt⟩
theorem Sim.t (h : Sim X Γ W e da) (he : ∀ whole, isTrue e X.env whole = (do let v ← whole; standAt e.pos; holding [v] (truthy v))) : SimT X Γ W e da := ⟨h.mono, (pt_val h.pe he).imp fun σ H Q q => q⟩
theorem Res.imp {m : Nat → Addr} {L : Nat} {H : Hp} {r : Rt} {Q Q' : VK} {E : XK} (h : Res Γ m L H r Q E) (q : ∀ v H, Q v H → Q' v H) : Res Γ m L H r Q' E := by
  match r, h with
  | some (.ok d, st'), ⟨l, h⟩ => exact ⟨l, fun m' H' v e k s r => q _ _ (h m' H' v e k s r)⟩
  | some (.exc c fs, st'), h => exact h
/-- one operand -/
def dUn (f : D → Sto → Rt) (da : De) : De := fun ls st => bindR (da ls st) f
theorem mono_un {f : D → Sto → Rt} (ma : Mono da) (hf : MonoF f) : Mono (dUn f da) := fun ls st r st' q => bindR_mono (fun a s h => ma ls st a s h) hf r st' q
/-- run on: the value x of da, then what follows -/
theorem tD_bind {f : D → Sto → Rt} (ma : Mono da) {σ : L2.St} {H : Hp} {Q : VK} {ls : Ls} {m : Nat → Addr} {st : Sto} (s : StR Γ m st H) (l : LsR Γ m st.length H ls σ) (hf : MonoF f) (h : Res Γ m st.length H (bindR (da ls st) f) Q (fun c d H' => W c d σ H')) :
    tD Γ W da σ H (fun v H1 => ∃ m1 d st1, StR Γ m1 st1 H1 ∧ LsR Γ m1 st1.length H1 ls σ ∧ Rv Γ.K m1 st1.length H1 d v ∧ Res Γ m1 st1.length H1 (f d st1) Q (fun c d H' => W c d σ H') ∧ st.length ≤ st1.length ∧ Ext m st.length m1 ∧ Keep H H1) := by
  refine ⟨m, ls, st, s, l, (Res.bind h (fun a st' q => ma ls st a st' q) hf).imp fun v H1 ⟨m1, d, st1, e, k, hl, s1, r1, q⟩ => ⟨m1, d, st1, s1, l.mono e hl k, r1, q, hl, e, k⟩⟩
def truD : D → Sto → Option Bool
  | .non, _ => some false
  | .bl b, _ => some b
  | .int i, _ => some (i != 0)
  | .str z, _ => if small z.length then some ((z.length : Int) != 0) else none
  | .tup l, _ => some (!l.isEmpty)
  | .obj n, st => match st[n]? with
    | some (.lst _ l) => some (!l.isEmpty)
    | _ => none
def fTru (d : D) (st : Sto) : Rt := match truD d st with | some b => okD (.bl b) st | none => none
theorem mono_fTru : MonoF fTru := by
  intro d st r st' h
  unfold fTru at h
  split at h
  · exact mono_ok h
  · cases h
theorem RvL.isEmpty {m : Nat → Addr} {L : Nat} {H : Hp} : ∀ {ds : List D} {vs : List V}, RvL Γ.K m L H ds vs → ds.isEmpty = vs.isEmpty
  | _, _, .nil => rfl
  | _, _, .cons _ _ => rfl
theorem Rv.tru {m : Nat → Addr} {st : Sto} {H : Hp} (s : StR Γ m st H) : ∀ {d : D} {v : V} {b : Bool}, truD d st = some b → Rv Γ.K m st.length H d v → TruV Γ.K v H b
  | .non, _, b, h, .non => by cases h; rfl
  | .bl _, _, b, h, .bl _ => by cases h; rfl
  | .int _, _, b, h, .int _ => by cases h; rfl
  | .str z, _, b, h, .str _ => by
    dsimp only [truD] at h
    split at h
    · rename_i hz
      cases h
      exact ⟨small_le hz, rfl⟩
    · cases h
  | .tup l, _, b, h, .tup a r => by
    cases h
    exact .inr (.inl ⟨_, a, by rw [r.isEmpty]⟩)
  | .obj n, _, b, h, .obj _ => by
    dsimp only [truD] at h
    split at h
    · rename_i ro l e
      cases h
      obtain ⟨vs, a, r⟩ := s.list e
      exact .inl ⟨_, a, by rw [r.isEmpty]⟩
    · cases h
/-- the truth of any value -/
theorem sim_tru (hK : X.K = Γ.K) (h : Sim X Γ W e da) (he : ∀ whole, isTrue e X.env whole = (do let v ← whole; standAt e.pos; holding [v] (truthy v))) : SimT X Γ W e (dUn fTru da) := by
  refine ⟨mono_un h.mono mono_fTru, (pt_truth h.pe he).imp fun σ H Q ⟨m, ls, st, s, l, q⟩ => ?_⟩
  obtain ⟨m0, ls0, st0, s0, l0, q0⟩ := tD_bind h.mono s l mono_fTru q
  refine ⟨m0, ls0, st0, s0, l0, q0.imp fun v H1 ⟨m1, d, st1, s1, l1, r1, q1, _⟩ => ?_⟩
  unfold fTru at q1
  split at q1
  · rename_i k ek
    refine ⟨k, by rw [hK]; exact r1.tru s1 ek, ?_⟩
    obtain ⟨k', e', q'⟩ := q1.ok s1 (.bl k)
    cases e'
    exact q'
  · exact q1.elim
theorem simT_cmp {op : CmpOp} {r : R2} {f : D → D → Sto → Rt} (hr : OpR X (compareOp op) r) (ho : OpSim Γ r f) (hf : MonoF2 f) (ha : Sim X Γ W a da) (hb : Sim X Γ W b db) (hm : behindInMarks op b = false) : SimT X Γ W (.Compare a [op] [b] pos) (dBin f da db) :=
  ⟨mono_bin ha.mono hb.mono hf, (pt_cmpR hr ha.pe hb.pe hm).imp fun σ H Q h => tD_bin ha.mono hb.mono hf ho h⟩
/-! a op b op' c -/
def fCh (g : D → D → Sto → Rt) (dc : De) (ls : Ls) (y : D) : D → Sto → Rt
  | .bl true, st3 => bindR (dc ls st3) fun w st4 => g y w st4
  | .bl false, st3 => okD (.bl false) st3
  | _, _ => none
def dChain (f g : D → D → Sto → Rt) (da db dc : De) : De := fun ls st => bindR (da ls st) fun x st1 => bindR (db ls st1) fun y st2 => bindR (f x y st2) (fCh g dc ls y)
theorem mono_fCh {g : D → D → Sto → Rt} {ls : Ls} {y : D} (mc : Mono dc) (mg : MonoF2 g) : MonoF (fCh g dc ls y) := by
  intro d st r st' h
  unfold fCh at h
  split at h
  · exact bindR_mono (fun a s h => mc ls _ a s h) (fun w s a s' h => mg y w s a s' h) r st' h
  · exact mono_ok h
  · cases h
theorem mono_chain {f g : D → D → Sto → Rt} (ma : Mono da) (mb : Mono db) (mc : Mono dc) (mf : MonoF2 f) (mg : MonoF2 g) : Mono (dChain f g da db dc) := fun ls st r st' q =>
  bindR_mono (fun a s h => ma ls st a s h) (fun x s a s' h => bindR_mono (fun b z h => mb ls s b z h) (fun y s a s' h => bindR_mono (fun b z h => mf x y s b z h) (mono_fCh mc mg) a s' h) a s' h) r st' q
/-- the operation's answer handed on -/
def OpSimK (Γ : Gam) (r : R2) (f : D → D → Sto → Rt) : Prop :=
  ∀ (m : Nat → Addr) (st : Sto) (H : Hp) (x y : V) (d e : D) (Q : VK) (E : XK), StR Γ m st H → Rv Γ.K m st.length H d x → Rv Γ.K m st.length H e y → Res Γ m st.length H (f d e st) Q E → r x y H Q
theorem tD_chain {f g : D → D → Sto → Rt} {r r' : R2} (ma : Mono da) (mb : Mono db) (mc : Mono dc) (mf : MonoF2 f) (mg : MonoF2 g) (ho : OpSim Γ r f) (ho' : OpSim Γ r' g) {σ : L2.St} {H : Hp} {Q : VK} (h : tD Γ W (dChain f g da db dc) σ H Q) :
    tChain r r' (tD Γ W da) (tD Γ W db) (tD Γ W dc) σ H Q := by
  obtain ⟨m, ls, st, s, l, h⟩ := h
  have mfc : ∀ y, MonoF (fCh g dc ls y) := fun y => mono_fCh mc mg
  have mf3 : ∀ x y, MonoF fun d st => bindR (f x y st) (fCh g dc ls y) := fun x y d s a s' h => bindR_mono (fun b z h => mf x y s b z h) (mfc y) a s' h
  obtain ⟨m0, ls0, st0, s0, l0, q0⟩ := tD_bind (f := fun x st1 => bindR (db ls st1) fun y st2 => bindR (f x y st2) (fCh g dc ls y)) ma s l (fun x s a s' h => bindR_mono (fun b z h => mb ls s b z h) (fun y s a s' h => bindR_mono (fun b z h => mf x y s b z h) (mfc y) a s' h) a s' h) h
  refine ⟨m0, ls0, st0, s0, l0, q0.imp fun x H1 ⟨m1, d1, st1, s1, l1, r1, q1, _⟩ => ?_⟩
  obtain ⟨m0, ls0, st0, s0, l0, q0⟩ := tD_bind (f := fun y st2 => bindR (f d1 y st2) (fCh g dc ls y)) mb s1 l1 (fun y s a s' h => bindR_mono (fun b z h => mf d1 y s b z h) (mfc y) a s' h) q1
  refine ⟨m0, ls0, st0, s0, l0, q0.imp fun y H2 ⟨m2, d2, st2, s2, l2, r2, q2, hl2, e2, k2⟩ => ?_⟩
  have r1' := r1.mono e2 hl2 k2
  have z := Res.bind (r := f d1 d2 st2) q2 (fun a st' q => mf d1 d2 st2 a st' q) (mfc d2)
  refine ho m2 st2 H2 x y d1 d2 _ _ s2 r1' r2 (z.imp fun v H3 ⟨m3, d3, st3, e3, k3, hl3, s3, r3, q3⟩ => ?_)
  unfold fCh at q3
  split at q3
  · cases r3
    refine ⟨true, rfl, iteT ?_⟩
    obtain ⟨m0, ls0, st0, s0, l0, q0⟩ := tD_bind (f := fun w st4 => g d2 w st4) mc s3 (l2.mono e3 hl3 k3) (fun w s a s' h => mg d2 w s a s' h) q3
    refine ⟨m0, ls0, st0, s0, l0, q0.imp fun w H4 ⟨m4, d4, st4, s4, l4, r4, q4, hl4, e4, k4⟩ => ?_⟩
    exact ho' m4 st4 H4 y w d2 d4 _ _ s4 ((r2.mono e3 hl3 k3).mono e4 hl4 k4) r4 q4
  · cases r3
    exact ⟨false, rfl, iteF (q3.ok s3 (.bl false))⟩
  · exact q3.elim
theorem sim_chain {op op' : CmpOp} {f g : D → D → Sto → Rt} {r r' : R2} (hr : OpR X (compareOp op) r) (hr' : OpR X (compareOp op') r') (ho : OpSim Γ r f) (ho' : OpSim Γ r' g) (mf : MonoF2 f) (mg : MonoF2 g) (ha : Sim X Γ W a da) (hb : Sim X Γ W b db) (hc : Sim X Γ W c dc)
    (hm : lastMarks [op, op'] [b, c] = false) : Sim X Γ W (.Compare a [op, op'] [b, c] pos) (dChain f g da db dc) :=
  ⟨mono_chain ha.mono hb.mono hc.mono mf mg, (pe_chain hr hr' ha.pe hb.pe hc.pe hm).imp fun σ H Q h => tD_chain ha.mono hb.mono hc.mono mf mg ho ho' h⟩
theorem simT_chain {op op' : CmpOp} {f g : D → D → Sto → Rt} {r r' : R2} (hr : OpR X (compareOp op) r) (hr' : OpR X (compareOp op') r') (ho : OpSim Γ r f) (ho' : OpSim Γ r' g) (mf : MonoF2 f) (mg : MonoF2 g) (ha : Sim X Γ W a da) (hb : Sim X Γ W b db) (hc : Sim X Γ W c dc)
    (hm : lastMarks [op, op'] [b, c] = false) : SimT X Γ W (.Compare a [op, op'] [b, c] pos) (dChain f g da db dc) :=
  ⟨mono_chain ha.mono hb.mono hc.mono mf mg, (pt_chain hr hr' ha.pe hb.pe hc.pe hm).imp fun σ H Q h => tD_chain ha.mono hb.mono hc.mono mf mg ho ho' h⟩

/-! ### and, or, not, if -/
def fAnd (db : De) (ls : Ls) : D → Sto → Rt
  | .bl true, st1 => db ls st1
  | .bl false, st1 => okD (.bl false) st1
  | _, _ => none
def fOr (db : De) (ls : Ls) : D → Sto → Rt
  | .bl false, st1 => db ls st1
  | .bl true, st1 => okD (.bl true) st1
  | _, _ => none
def fNot : D → Sto → Rt
  | .bl b, st1 => okD (.bl (!b)) st1
  | _, _ => none
def fIf (da db : De) (ls : Ls) : D → Sto → Rt
  | .bl true, st1 => da ls st1
  | .bl false, st1 => db ls st1
  | _, _ => none
def dAnd (da db : De) : De := fun ls st => bindR (da ls st) (fAnd db ls)
def dOr (da db : De) : De := fun ls st => bindR (da ls st) (fOr db ls)
def dIf (dt da db : De) : De := fun ls st => bindR (dt ls st) (fIf da db ls)
theorem mono_fAnd {ls : Ls} (mb : Mono db) : MonoF (fAnd db ls) := by
  intro d st r st' h
  unfold fAnd at h
  split at h
  · exact mb _ _ _ _ h
  · exact mono_ok h
  · cases h
theorem mono_fOr {ls : Ls} (mb : Mono db) : MonoF (fOr db ls) := by
  intro d st r st' h
  unfold fOr at h
  split at h
  · exact mb _ _ _ _ h
  · exact mono_ok h
  · cases h
theorem mono_fNot : MonoF fNot := by
  intro d st r st' h
  unfold fNot at h
  split at h
  · exact mono_ok h
  · cases h
theorem mono_fIf {ls : Ls} (ma : Mono da) (mb : Mono db) : MonoF (fIf da db ls) := by
  intro d st r st' h
  unfold fIf at h
  split at h
  · exact ma _ _ _ _ h
  · exact mb _ _ _ _ h
  · cases h
theorem mono_and (ma : Mono da) (mb : Mono db) : Mono (dAnd da db) := fun ls st r st' q => bindR_mono (fun a s h => ma ls st a s h) (mono_fAnd mb) r st' q
theorem mono_or (ma : Mono da) (mb : Mono db) : Mono (dOr da db) := fun ls st r st' q => bindR_mono (fun a s h => ma ls st a s h) (mono_fOr mb) r st' q
theorem mono_if (mt : Mono dc) (ma : Mono da) (mb : Mono db) : Mono (dIf dc da db) := fun ls st r st' q => bindR_mono (fun a s h => mt ls st a s h) (mono_fIf ma mb) r st' q
/-- a test, handed on -/
theorem tT_bind {f : D → Sto → Rt} (ma : Mono da) {σ : L2.St} {H : Hp} {Q : VK} {ls : Ls} {m : Nat → Addr} {st : Sto} (s : StR Γ m st H) (l : LsR Γ m st.length H ls σ) (hf : MonoF f) (hb : ∀ d st r, f d st = some r → ∃ b, d = .bl b)
    (h : Res Γ m st.length H (bindR (da ls st) f) Q (fun c d H' => W c d σ H')) {Q2 : Bool → Hp → Prop}
    (hq : ∀ b H1 m1 st1, StR Γ m1 st1 H1 → LsR Γ m1 st1.length H1 ls σ → Res Γ m1 st1.length H1 (f (.bl b) st1) Q (fun c d H' => W c d σ H') → Q2 b H1) : tT Γ W da σ H Q2 := by
  obtain ⟨m0, ls0, st0, s0, l0, q0⟩ := tD_bind ma s l hf h
  refine ⟨m0, ls0, st0, s0, l0, q0.imp fun v H1 ⟨m1, d, st1, s1, l1, r1, q1, _⟩ => ?_⟩
  cases e : f d st1 with
  | none =>
    rw [e] at q1
    exact q1.elim
  | some r =>
    obtain ⟨k, rfl⟩ := hb d st1 r e
    cases r1
    exact ⟨k, rfl, hq k H1 m1 st1 s1 l1 q1⟩
theorem fAnd_bl {ls : Ls} : ∀ d st r, fAnd db ls d st = some r → ∃ b, d = .bl b := by
  intro d st r h
  unfold fAnd at h
  split at h
  · exact ⟨_, rfl⟩
  · exact ⟨_, rfl⟩
  · cases h
theorem fOr_bl {ls : Ls} : ∀ d st r, fOr db ls d st = some r → ∃ b, d = .bl b := by
  intro d st r h
  unfold fOr at h
  split at h
  · exact ⟨_, rfl⟩
  · exact ⟨_, rfl⟩
  · cases h
theorem fNot_bl : ∀ d st r, fNot d st = some r → ∃ b, d = .bl b := by
  intro d st r h
  unfold fNot at h
  split at h
  · exact ⟨_, rfl⟩
  · cases h
theorem fIf_bl {ls : Ls} : ∀ d st r, fIf da db ls d st = some r → ∃ b, d = .bl b := by
  intro d st r h
  unfold fIf at h
  split at h
  · exact ⟨_, rfl⟩
  · exact ⟨_, rfl⟩
  · cases h
theorem simW_and (ha : SimT X Γ W a da) (hb : SimW X Γ W (.BoolOp .And (b :: rest) pos) db) : SimW X Γ W (.BoolOp .And (a :: b :: rest) pos) (dAnd da db) := by
  refine ⟨mono_and ha.mono hb.mono, (pw_and ha.pt hb.pw).imp fun σ H Q ⟨m, ls, st, s, l, h⟩ => ?_⟩
  refine tT_bind ha.mono s l (mono_fAnd hb.mono) fAnd_bl h fun k H1 m1 st1 s1 l1 q => ?_
  cases k with
  | true => exact iteT ⟨m1, ls, st1, s1, l1, q⟩
  | false =>
    obtain ⟨k', e', q'⟩ := q.ok s1 (.bl false)
    cases e'
    exact iteF q'
theorem simW_and1 (ha : SimT X Γ W a da) : SimW X Γ W (.BoolOp .And [a] pos) da := ⟨ha.mono, pw_and1 ha.pt⟩
theorem simW_or (ha : SimT X Γ W a da) (hb : SimW X Γ W (.BoolOp .Or (b :: rest) pos) db) : SimW X Γ W (.BoolOp .Or (a :: b :: rest) pos) (dOr da db) := by
  refine ⟨mono_or ha.mono hb.mono, (pw_or ha.pt hb.pw).imp fun σ H Q ⟨m, ls, st, s, l, h⟩ => ?_⟩
  refine tT_bind ha.mono s l (mono_fOr hb.mono) fOr_bl h fun k H1 m1 st1 s1 l1 q => ?_
  cases k with
  | false => exact iteF ⟨m1, ls, st1, s1, l1, q⟩
  | true =>
    obtain ⟨k', e', q'⟩ := q.ok s1 (.bl true)
    cases e'
    exact iteT q'
theorem simW_or1 (ha : SimT X Γ W a da) : SimW X Γ W (.BoolOp .Or [a] pos) da := ⟨ha.mono, pw_or1 ha.pt⟩
theorem simT_not (ha : SimT X Γ W a da) : SimT X Γ W (.UnaryOp .Not a pos) (dUn fNot da) := by
  refine ⟨mono_un ha.mono mono_fNot, (pt_not ha.pt).imp fun σ H Q ⟨m, ls, st, s, l, h⟩ => ?_⟩
  refine tT_bind ha.mono s l mono_fNot fNot_bl h fun k H1 m1 st1 s1 l1 q => ?_
  obtain ⟨k', e', q'⟩ := q.ok s1 (.bl (!k))
  cases e'
  exact q'
theorem sim_one {op} (ha : Sim X Γ W a da) : Sim X Γ W (.BoolOp op [a] pos) da := ⟨ha.mono, pe_one ha.pe⟩
theorem sim_and (ha : Sim X Γ W a da) (hb : Sim X Γ W (.BoolOp .And (b :: rest) pos) db) : Sim X Γ W (.BoolOp .And (a :: b :: rest) pos) (dAnd da db) := by
  refine ⟨mono_and ha.mono hb.mono, (pe_and ha.pe hb.pe).imp fun σ H Q ⟨m, ls, st, s, l, h⟩ => ?_⟩
  refine tT_bind ha.mono s l (mono_fAnd hb.mono) fAnd_bl h fun k H1 m1 st1 s1 l1 q => ?_
  cases k with
  | true => exact iteT ⟨m1, ls, st1, s1, l1, q⟩
  | false => exact iteF (q.ok s1 (.bl false))
theorem sim_or (ha : Sim X Γ W a da) (hb : Sim X Γ W (.BoolOp .Or (b :: rest) pos) db) : Sim X Γ W (.BoolOp .Or (a :: b :: rest) pos) (dOr da db) := by
  refine ⟨mono_or ha.mono hb.mono, (pe_or ha.pe hb.pe).imp fun σ H Q ⟨m, ls, st, s, l, h⟩ => ?_⟩
  refine tT_bind ha.mono s l (mono_fOr hb.mono) fOr_bl h fun k H1 m1 st1 s1 l1 q => ?_
  cases k with
  | false => exact iteF ⟨m1, ls, st1, s1, l1, q⟩
  | true => exact iteT (q.ok s1 (.bl true))
theorem sim_not (ha : Sim X Γ W a da) : Sim X Γ W (.UnaryOp .Not a pos) (dUn fNot da) := by
  refine ⟨mono_un ha.mono mono_fNot, (pe_not ha.pe).imp fun σ H Q ⟨m, ls, st, s, l, h⟩ => ?_⟩
  exact tT_bind ha.mono s l mono_fNot fNot_bl h fun k H1 m1 st1 s1 l1 q => q.ok s1 (.bl (!k))
theorem sim_if (hc : SimT X Γ W c dc) (ha : Sim X Γ W a da) (hb : Sim X Γ W b db) : Sim X Γ W (.IfExp c a b pos) (dIf dc da db) := by
  refine ⟨mono_if hc.mono ha.mono hb.mono, (pe_ifExp hc.pt ha.pe hb.pe).imp fun σ H Q ⟨m, ls, st, s, l, h⟩ => ?_⟩
  refine tT_bind hc.mono s l (mono_fIf ha.mono hb.mono) fIf_bl h fun k H1 m1 st1 s1 l1 q => ?_
  cases k with
  | true => exact iteT ⟨m1, ls, st1, s1, l1, q⟩
  | false => exact iteF ⟨m1, ls, st1, s1, l1, q⟩
/-- - n -/
def fNeg : D → Sto → Rt
  | .int i, st1 => okD (.int (-i)) st1
  | _, _ => none
theorem mono_fNeg : MonoF fNeg := by
  intro d st r st' h
  unfold fNeg at h
  split at h
  · exact mono_ok h
  · cases h
theorem sim_neg (ha : Sim X Γ W a da) : Sim X Γ W (.UnaryOp .USub a pos) (dUn fNeg da) := by
  refine ⟨mono_un ha.mono mono_fNeg, (pe_un un_neg ha.pe).imp fun σ H Q ⟨m, ls, st, s, l, h⟩ => ?_⟩
  obtain ⟨m0, ls0, st0, s0, l0, q0⟩ := tD_bind ha.mono s l mono_fNeg h
  refine ⟨m0, ls0, st0, s0, l0, q0.imp fun v H1 ⟨m1, d, st1, s1, l1, r1, q1, _⟩ => ?_⟩
  match d, r1, q1 with
  | .int i, .int _, q1 => exact ⟨i, rfl, q1.ok s1 (.int _)⟩

/-! ### arguments -/
inductive RsA where
  | ok (ds : List D)
  | exc (c : Str) (fs : List (Str × D))
def evA : List De → Ls → Sto → Option (RsA × Sto)
  | [], _, st => some (.ok [], st)
  | da :: r, ls, st => match da ls st with
    | some (.ok d, st1) => match evA r ls st1 with
      | some (.ok ds, st2) => some (.ok (d :: ds), st2)
      | x => x
    | some (.exc c fs, st1) => some (.exc c fs, st1)
    | none => none
def ResA (Γ : Gam) (m : Nat → Addr) (L : Nat) (H : Hp) (r : Option (RsA × Sto)) (Q : List V → Hp → Prop) (E : XK) : Prop :=
  match r with
  | none => False
  | some (.ok ds, st') => L ≤ st'.length ∧ ∀ m' H' vs, Ext m L m' → Keep H H' → StR Γ m' st' H' → RvL Γ.K m' st'.length H' ds vs → Q vs H'
  | some (.exc c fs, st') => L ≤ st'.length ∧ AfterExc Γ m L H st' c fs E
theorem ResA.mono {m m' : Nat → Addr} {L L' : Nat} {H H' : Hp} {r : Option (RsA × Sto)} {Q : List V → Hp → Prop} {E : XK} (h : ResA Γ m L H r Q E) (e : Ext m L m') (k : Keep H H') (hL : L ≤ L') (hr : ∀ a st', r = some (a, st') → L' ≤ st'.length) : ResA Γ m' L' H' r Q E := by
  match r, h, hr with
  | some (.ok d, st'), ⟨_, h⟩, hr => exact ⟨hr _ _ rfl, fun m2 H2 v e2 k2 s2 r2 => h m2 H2 v (e.trans e2 hL) (k.trans k2) s2 r2⟩
  | some (.exc c fs, st'), ⟨_, h⟩, hr => exact ⟨hr _ _ rfl, fun m2 H2 v e2 k2 s2 r2 => h m2 H2 v (e.trans e2 hL) (k.trans k2) s2 r2⟩
theorem ResA.imp {m : Nat → Addr} {L : Nat} {H : Hp} {r : Option (RsA × Sto)} {Q Q' : List V → Hp → Prop} {E : XK} (h : ResA Γ m L H r Q E) (q : ∀ v H, Q v H → Q' v H) : ResA Γ m L H r Q' E := by
  match r, h with
  | some (.ok d, st'), ⟨l, h⟩ => exact ⟨l, fun m' H' v e k s r => q _ _ (h m' H' v e k s r)⟩
  | some (.exc c fs, st'), h => exact h
def MonoA (das : List De) : Prop := ∀ ls st r st', evA das ls st = some (r, st') → st.length ≤ st'.length
def tA (Γ : Gam) (W : WX) (das : List De) : TA := fun σ H Q => ∃ m ls st, StR Γ m st H ∧ LsR Γ m st.length H ls σ ∧ ResA Γ m st.length H (evA das ls st) Q (fun c d H' => W c d σ H')
structure SimA (X : Cx) (Γ : Gam) (W : WX) (es : List Expr) (das : List De) : Prop where
  mono : MonoA das
  pa : PA X es (tA Γ W das)
theorem monoA_nil : MonoA [] := fun ls st r st' h => by cases h; exact Nat.le_refl _
theorem monoA_cons (ma : Mono da) (mr : MonoA das) : MonoA (da :: das) := fun ls st r st' h => by
  unfold evA at h
  split at h
  · rename_i d st1 e1
    have h1 := ma _ _ _ _ e1
    split at h
    · rename_i ds st2 e2
      cases h
      exact Nat.le_trans h1 (mr _ _ _ _ e2)
    · exact Nat.le_trans h1 (mr _ _ _ _ h)
  · rename_i c fs st1 e1
    cases h
    exact ma _ _ _ _ e1
  · cases h
theorem simA_nil : SimA X Γ W [] [] := ⟨monoA_nil, pa_nil.imp fun σ H Q ⟨m, ls, st, s, l, h⟩ => h.2 m H [] (Ext.refl _ _) (Keep.refl _) s .nil⟩
theorem simA_cons (ha : Sim X Γ W a da) (hr : SimA X Γ W es das) (hs : starEach (a :: es) X.env = (false, eval a X.env) :: starEach es X.env) : SimA X Γ W (a :: es) (da :: das) := by
  refine ⟨monoA_cons ha.mono hr.mono, (pa_cons ha.pe hr.pa hs).imp fun σ H Q ⟨m, ls, st, s, l, h⟩ => ?_⟩
  refine ⟨m, ls, st, s, l, ?_⟩
  unfold evA at h
  have ma := fun r st' q => ha.mono ls st r st' q
  match da ls st, h, ma with
  | some (.exc c fs, st1), h, _ => exact h
  | some (.ok d, st1), h, ma =>
    have hl := ma _ _ rfl
    refine ⟨hl, fun m1 H1 x e1 k1 s1 r1 => ⟨m1, ls, st1, s1, l.mono e1 hl k1, ?_⟩⟩
    have mr := fun r st' q => hr.mono ls st1 r st' q
    dsimp only at h
    match evA das ls st1, h, mr with
    | some (.exc c fs, st2), h, mr => exact h.mono e1 k1 hl fun a st' q => mr a st' q
    | some (.ok ds, st2), h, mr =>
      have hl2 := mr _ _ rfl
      refine ⟨hl2, fun m2 H2 vs e2 k2 s2 r2 => ?_⟩
      exact h.2 m2 H2 (x :: vs) (e1.trans e2 hl) (k1.trans k2) s2 (.cons (r1.mono e2 hl2 k2) r2)
/-- something done with the arguments -/
def dApp (f : List D → Sto → Rt) (das : List De) : De := fun ls st => match evA das ls st with
  | some (.ok ds, st1) => f ds st1
  | some (.exc c fs, st1) => some (.exc c fs, st1)
  | none => none
def MonoFA (f : List D → Sto → Rt) : Prop := ∀ ds st r st', f ds st = some (r, st') → st.length ≤ st'.length
theorem mono_app {f : List D → Sto → Rt} (ma : MonoA das) (hf : MonoFA f) : Mono (dApp f das) := fun ls st r st' h => by
  unfold dApp at h
  split at h
  · rename_i ds st1 e
    exact Nat.le_trans (ma _ _ _ _ e) (hf _ _ _ _ h)
  · rename_i c fs st1 e
    cases h
    exact ma _ _ _ _ e
  · cases h
def CallSim (Γ : Gam) (r : List V → Hp → VK → Prop) (f : List D → Sto → Rt) : Prop :=
  ∀ (m : Nat → Addr) (st : Sto) (H : Hp) (vs : List V) (ds : List D) (Q : VK) (E : XK), StR Γ m st H → RvL Γ.K m st.length H ds vs → Res Γ m st.length H (f ds st) Q E → r vs H Q
/-- the arguments' values, then what follows -/
theorem tA_bind {f : List D → Sto → Rt} (ma : MonoA das) {σ : L2.St} {H : Hp} {Q : VK} {ls : Ls} {m : Nat → Addr} {st : Sto} (s : StR Γ m st H) (l : LsR Γ m st.length H ls σ) (hf : MonoFA f) (h : Res Γ m st.length H (dApp f das ls st) Q (fun c d H' => W c d σ H')) :
    tA Γ W das σ H (fun vs H1 => ∃ m1 ds st1, StR Γ m1 st1 H1 ∧ LsR Γ m1 st1.length H1 ls σ ∧ RvL Γ.K m1 st1.length H1 ds vs ∧ Res Γ m1 st1.length H1 (f ds st1) Q (fun c d H' => W c d σ H') ∧ st.length ≤ st1.length ∧ Ext m st.length m1 ∧ Keep H H1) := by
  refine ⟨m, ls, st, s, l, ?_⟩
  unfold dApp at h
  have ma := fun r st' q => ma ls st r st' q
  match evA das ls st, h, ma with
  | some (.exc c fs, st1), h, _ => exact h
  | some (.ok ds, st1), h, ma =>
    have hl := ma _ _ rfl
    refine ⟨hl, fun m1 H1 vs e1 k1 s1 r1 => ⟨m1, ds, st1, s1, l.mono e1 hl k1, r1, ?_, hl, e1, k1⟩⟩
    exact Res.mono (r := f ds st1) h e1 k1 hl fun a st' q => hf _ _ _ _ q
def fTup (ds : List D) (st : Sto) : Rt := if small ds.length then okD (.tup ds) st else none
def fLst (ds : List D) (st : Sto) : Rt := if small ds.length then okL ds st else none
theorem mono_fTup : MonoFA fTup := by
  intro d st r st' h
  unfold fTup at h
  split at h
  · exact mono_ok h
  · cases h
theorem mono_fLst : MonoFA fLst := by
  intro d st r st' h
  unfold fLst at h
  split at h
  · exact mono_okL h
  · cases h
theorem sim_tup {x1} (h : SimA X Γ W es das) : Sim X Γ W (.Tuple es x1 pos) (dApp fTup das) := by
  refine ⟨mono_app h.mono mono_fTup, (pe_tup h.pa).imp fun σ H Q ⟨m, ls, st, s, l, q⟩ => ?_⟩
  obtain ⟨m0, ls0, st0, s0, l0, q0⟩ := tA_bind h.mono s l mono_fTup q
  refine ⟨m0, ls0, st0, s0, l0, q0.imp fun vs H1 ⟨m1, ds, st1, s1, l1, r1, q1, _⟩ => ?_⟩
  unfold fTup at q1
  split at q1
  · rename_i z
    exact ⟨by rw [← r1.length]; exact small_le z, fun p hp => q1.tupN s1 r1 hp⟩
  · exact q1.elim
theorem sim_lst (h : SimA X Γ W es das) : Sim X Γ W (.List es pos) (dApp fLst das) := by
  refine ⟨mono_app h.mono mono_fLst, (pe_lst h.pa).imp fun σ H Q ⟨m, ls, st, s, l, q⟩ => ?_⟩
  obtain ⟨m0, ls0, st0, s0, l0, q0⟩ := tA_bind h.mono s l mono_fLst q
  refine ⟨m0, ls0, st0, s0, l0, q0.imp fun vs H1 ⟨m1, ds, st1, s1, l1, r1, q1, _⟩ => ?_⟩
  unfold fLst at q1
  split at q1
  · rename_i z
    exact ⟨by rw [← r1.length]; exact small_le z, fun p hp => q1.lstN s1 r1 hp⟩
  · exact q1.elim
/-- f(..), f a built-in function; T(..), T a built-in type -/
theorem tD_app {f : List D → Sto → Rt} {r : List V → Hp → VK → Prop} (ma : MonoA das) (hf : MonoFA f) (hc : CallSim Γ r f) {σ : L2.St} {H : Hp} {Q : VK} (h : tD Γ W (dApp f das) σ H Q) : tCB r (tA Γ W das) σ H Q := by
  obtain ⟨m, ls, st, s, l, q⟩ := h
  obtain ⟨m0, ls0, st0, s0, l0, q0⟩ := tA_bind ma s l hf q
  exact ⟨m0, ls0, st0, s0, l0, q0.imp fun vs H1 ⟨m1, ds, st1, s1, l1, r1, q1, _⟩ => hc m1 st1 H1 vs ds Q _ s1 r1 q1⟩
theorem sim_callB {f : List D → Sto → Rt} {r : List V → Hp → VK → Prop} {id : String} {x : Str} {p : Pos} (hr : CallR X (.builtin id) r) (hc : CallSim Γ r f) (hf : MonoFA f) (hg : Gl X x) (hm : X.mg x = none) (hv : bootBuiltins x = some (.builtin id)) (h : SimA X Γ W (e :: es) das)
    (hn : x ≠ "__name__") (hdb : (x == ("__debug__" : Str)) = false) (he : starEach (e :: es) X.env = (false, eval e X.env) :: starEach es X.env) (hpl : (backTo pos (starEach es X.env)).any (·.1) = false) : Sim X Γ W (.Call (.Name x p) (e :: es) [] pos) (dApp f das) :=
  ⟨mono_app h.mono hf, (pe_callB hr hg hm hv h.pa hn hdb he hpl).imp fun σ H Q q => tD_app h.mono hf hc q⟩
theorem sim_callTy {f : List D → Sto → Rt} {r : List V → Hp → VK → Prop} {id : String} {x : Str} {p : Pos} (hr : CallR X (.type id) r) (hc : CallSim Γ r f) (hf : MonoFA f) (hg : Gl X x) (hm : X.mg x = none) (hv : bootBuiltins x = some (.type id)) (h : SimA X Γ W (e :: es) das)
    (hn : x ≠ "__name__") (hdb : (x == ("__debug__" : Str)) = false) (he : starEach (e :: es) X.env = (false, eval e X.env) :: starEach es X.env) (hpl : (backTo pos (starEach es X.env)).any (·.1) = false) : Sim X Γ W (.Call (.Name x p) (e :: es) [] pos) (dApp f das) :=
  ⟨mono_app h.mono hf, (pe_callTy hr hg hm hv h.pa hn hdb he hpl).imp fun σ H Q q => tD_app h.mono hf hc q⟩
/-! own defs -/
/-- what a def promises: it does what f says -/
def spD (Γ : Gam) (n : Nat) (f : List D → Sto → Rt) : Sp := fun vs H Q E => vs.length = n ∧ ∃ m ds st, StR Γ m st H ∧ RvL Γ.K m st.length H ds vs ∧ Res Γ m st.length H (f ds st) Q E
theorem sim_call {f : List D → Sto → Rt} {k n : Nat} {fa : Addr} {fd : FuncData} {ps : List Str} {x : Str} {p : Pos} (F : FnOk X.prog X.w X.K X.mg X.base (L2.CX X.prog X.w) k fa fd ps (spD Γ n f)) (hf : MonoFA f) (hr : Room k X.A) (hg : Gl X x) (hm : X.mg x = some (.ref fa))
    (hk : PySem.W.keepIn X.K (.ref fa) = true) (hb : Binds X.K fd ps []) (hx : ∀ σ, PassesAt (L2.CX X.prog X.w) X σ (fun c d H' => W c d σ H')) (h : SimA X Γ W (e :: es) das) (hn : (e :: es).length = n) (hdb : (x == ("__debug__" : Str)) = false) (he : starEach (e :: es) X.env = (false, eval e X.env) :: starEach es X.env)
    (hpl : (backTo pos (starEach es X.env)).any (·.1) = false) (hlen : ∀ ls st ds st', evA das ls st = some (.ok ds, st') → ds.length = n) : Sim X Γ W (.Call (.Name x p) (e :: es) [] pos) (dApp f das) := by
  refine ⟨mono_app h.mono hf, (pe_callSD (E := fun σ c d H' => W c d σ H') F hr hg hm hk hb .nil hx h.pa hdb he hpl).imp fun σ H Q ⟨m, ls, st, s, l, q⟩ => ?_⟩
  refine ⟨m, ls, st, s, l, ?_⟩
  have ma := fun r st' q => h.mono ls st r st' q
  have hlen := hlen ls st
  unfold dApp at q
  match evA das ls st, q, ma, hlen with
  | some (.exc c fs, st1), q, _, _ => exact q
  | some (.ok ds, st1), q, ma, hlen =>
    have hl := ma _ _ rfl
    refine ⟨hl, fun m1 H1 vs e1 k1 s1 r1 => ⟨by rw [List.append_nil, ← r1.length]; exact hlen _ _ rfl, m1, ds, st1, s1, by rw [List.append_nil]; exact r1, ?_⟩⟩
    exact Res.mono (r := f ds st1) q e1 k1 hl fun a st' q => hf _ _ _ _ q
theorem evA_len : ∀ {das : List De} {ls : Ls} {st : Sto} {ds : List D} {st' : Sto}, evA das ls st = some (.ok ds, st') → ds.length = das.length
  | [], _, _, _, _, h => by cases h; rfl
  | da :: r, ls, st, ds, st', h => by
    unfold evA at h
    split at h
    · split at h
      · rename_i ds2 st2 e2
        cases h
        rw [List.length_cons, List.length_cons, evA_len e2]
      · rename_i x hx
        exact absurd h (hx _ _)
    · cases h
    · cases h
end
end MP
end
section
set_option maxRecDepth 100000
set_option maxHeartbeats 1000000
namespace MP
open PySem L2

section
variable {X : Cx} {Γ : Gam} {W : WX} {e a b c o : Expr} {da db dc : De} {pos p2 : Pos} {es rest : List Expr} {das : List De}
/-! ### slices -/
def cutD (l : List D) (lo hi : Option Int) : List D := (l.drop (HT.sIx l.length 0 lo)).take (HT.sIx l.length l.length hi - HT.sIx l.length 0 lo)
def fSl (lo hi : Option Int) : D → Sto → Rt
  | .tup l, st => okD (.tup (cutD l lo hi)) st
  | .obj n, st => match st[n]? with
    | some (.lst _ l) => okL (cutD l lo hi) st
    | _ => none
  | .str z, st => if small z.length then okD (.str (cutS z lo hi)) st else none
  | _, _ => none
theorem mono_fSl {lo hi : Option Int} : MonoF (fSl lo hi) := by
  intro d st r st' h
  unfold fSl at h
  repeat' (split at h)
  all_goals first | exact mono_ok h | exact mono_okL h | cases h
theorem RvL.cut {m : Nat → Addr} {L : Nat} {H : Hp} {ds : List D} {vs : List V} {lo hi : Option Int} (r : RvL Γ.K m L H ds vs) : RvL Γ.K m L H (cutD ds lo hi) (cutV vs lo hi) := by
  unfold cutD cutV
  rw [r.length]
  exact (r.drop _).take _
abbrev rSlD (K : PySem.W.Frag) : V → Option Int → Option Int → Hp → VK → Prop := fun x lo hi H Q => rSlL K x lo hi H Q ∨ (rSlA K x lo hi H Q ∨ rSlS x lo hi H Q)
theorem sl_all : SlR X (rSlD X.K) := sl_list.or (sl_tupA.or sl_str)
theorem cut_whole {vs : List V} {lo hi : Option Int} (h : HT.sIx vs.length 0 lo = 0 ∧ HT.sIx vs.length vs.length hi = vs.length) : cutV vs lo hi = vs := by
  unfold cutV
  rw [h.1, h.2]
  simp
theorem ss_sl {m : Nat → Addr} {st : Sto} {H : Hp} {x : V} {lo hi : Option Int} {Q : VK} {E : XK} (s : StR Γ m st H) : ∀ {d : D}, Rv Γ.K m st.length H d x → Res Γ m st.length H (fSl lo hi d st) Q E → rSlD Γ.K x lo hi H Q
  | .tup l, .tup (a := p) (vs := vs) h1 r1, h => by
    refine .inr (.inl ⟨p, vs, rfl, h1, fun w => ?_, fun _ q hq => Res.tupN (E := E) h s r1.cut hq⟩)
    have e := cut_whole w
    refine Res.ok (E := E) h s (Rv.tup h1 ?_)
    have z := r1.cut (lo := lo) (hi := hi)
    rw [e] at z
    exact z
  | .obj n, .obj _, h => by
    dsimp only [fSl] at h
    split at h
    · rename_i ro l e
      obtain ⟨vs, a, r⟩ := s.list e
      exact .inl ⟨m n, vs, rfl, a, fun p hp => h.lstN s r.cut hp⟩
    · exact h.elim
  | .str z, .str _, h => by
    dsimp only [fSl] at h
    split at h
    · rename_i hz
      exact .inr (.inr ⟨z, rfl, small_le hz, h.ok s (.str _)⟩)
    · exact h.elim
/-- a part of a slice -/
def evO (dp : Option De) (ls : Ls) (st : Sto) (k : Option Int → Sto → Rt) : Rt :=
  match dp with
  | none => k none st
  | some d => bindR (d ls st) fun y st1 => match y with
    | .int i => k (some i) st1
    | _ => none
inductive SimO (X : Cx) (Γ : Gam) (W : WX) : Option Expr → Option De → Prop
  | none : SimO X Γ W none none
  | some {e : Expr} {d : De} : Sim X Γ W e d → SimO X Γ W (some e) (some d)
def tO (Γ : Gam) (W : WX) (dp : Option De) : TO := match dp with
  | none => tNoPart
  | some d => tPart (tD Γ W d)
theorem SimO.po {e : Option Expr} {d : Option De} (h : SimO X Γ W e d) : PO X e (tO Γ W d) := by
  cases h with
  | none => exact po_none
  | some h => exact po_some h.pe
theorem mono_evK {k : Option Int → Sto → Rt} (hk : ∀ o st r st', k o st = some (r, st') → st.length ≤ st'.length) : MonoF (fun y st1 => match y with | .int i => k (some i) st1 | _ => none) := by
  intro d st r st' h
  dsimp only at h
  split at h
  · exact hk _ _ _ _ h
  · cases h
theorem mono_evO {dp : Option De} {ls : Ls} {e : Option Expr} (h : SimO X Γ W e dp) {k : Option Int → Sto → Rt} (hk : ∀ o st r st', k o st = some (r, st') → st.length ≤ st'.length) : ∀ st r st', evO dp ls st k = some (r, st') → st.length ≤ st'.length := fun st r st' q => by
  cases h with
  | none => exact hk _ _ _ _ q
  | some h => exact bindR_mono (fun a s z => h.mono ls st a s z) (mono_evK hk) r st' q
theorem evO_run {dp : Option De} {e : Option Expr} (h : SimO X Γ W e dp) {k : Option Int → Sto → Rt} (hk : ∀ o st r st', k o st = some (r, st') → st.length ≤ st'.length) {σ : L2.St} {H : Hp} {Q : VK} {ls : Ls} {m : Nat → Addr} {st : Sto} (s : StR Γ m st H) (l : LsR Γ m st.length H ls σ)
    (q : Res Γ m st.length H (evO dp ls st k) Q (fun c d H' => W c d σ H')) {R : Option Int → Hp → Prop}
    (hR : ∀ o m1 st1 H1, StR Γ m1 st1 H1 → LsR Γ m1 st1.length H1 ls σ → Res Γ m1 st1.length H1 (k o st1) Q (fun c d H' => W c d σ H') → st.length ≤ st1.length → Ext m st.length m1 → Keep H H1 → R o H1) : tO Γ W dp σ H R := by
  cases h with
  | none => exact hR none m st H s l q (Nat.le_refl _) (Ext.refl _ _) (Keep.refl _)
  | some h =>
    obtain ⟨m0, ls0, st0, s0, l0, q0⟩ := tD_bind h.mono s l (mono_evK hk) q
    refine ⟨m0, ls0, st0, s0, l0, q0.imp fun v H1 ⟨m1, d, st1, s1, l1, r1, q1, hl, e1, k1⟩ => ?_⟩
    match d, r1, q1 with
    | .int i, .int _, q1 => exact ⟨i, rfl, hR (some i) m1 st1 H1 s1 l1 q1 hl e1 k1⟩
def dSl (da : De) (lo hi : Option De) : De := fun ls st => bindR (da ls st) fun x st1 => evO lo ls st1 fun i st2 => evO hi ls st2 fun j st3 => fSl i j x st3
theorem sim_slice {lo hi : Option Expr} {dlo dhi : Option De} (hK : X.K = Γ.K) (ha : Sim X Γ W a da) (hl : SimO X Γ W lo dlo) (hh : SimO X Γ W hi dhi) : Sim X Γ W (.Subscript a (.Slice lo hi none p2) pos) (dSl da dlo dhi) := by
  have m3 : ∀ (i : Option Int) (x : D) (o : Option Int) st r st', (fun j st3 => fSl i j x st3) o st = some (r, st') → st.length ≤ st'.length := fun i x o st r st' h => mono_fSl _ _ _ _ h
  have m2 : ∀ (ls : Ls) (x : D) (o : Option Int) st r st', (fun i st2 => evO dhi ls st2 fun j st3 => fSl i j x st3) o st = some (r, st') → st.length ≤ st'.length := fun ls x o st r st' h => mono_evO hh (m3 o x) st r st' h
  have m1 : ∀ ls, MonoF fun x st1 => evO dlo ls st1 fun i st2 => evO dhi ls st2 fun j st3 => fSl i j x st3 := fun ls x st r st' h => mono_evO hl (m2 ls x) st r st' h
  refine ⟨fun ls st r st' h => bindR_mono (fun a s z => ha.mono ls st a s z) (m1 ls) r st' h, (pe_slice sl_all ha.pe hl.po hh.po).imp fun σ H Q ⟨m, ls, st, s, l, h⟩ => ?_⟩
  obtain ⟨m0, ls0, st0, s0, l0, q0⟩ := tD_bind ha.mono s l (m1 ls) h
  refine ⟨m0, ls0, st0, s0, l0, q0.imp fun v H1 ⟨m1, d, st1, s1, l1, r1, q1, _⟩ => ?_⟩
  refine evO_run hl (m2 ls d) s1 l1 q1 fun i m2 st2 H2 s2 l2 q2 hl2 e2 k2 => ?_
  refine evO_run hh (m3 i d) s2 l2 q2 fun j m3 st3 H3 s3 l3 q3 hl3 e3 k3 => ?_
  rw [hK]
  exact ss_sl s3 ((r1.mono e2 hl2 k2).mono e3 hl3 k3) q3

/-! ### attributes -/
theorem FsR.look {m : Nat → Addr} {L : Nat} {H : Hp} {f : Str} {d : D} : ∀ {fs : List (Str × D)} {vs : List (Str × V)}, FsR Γ.K m L H fs vs → fs.lookup f = some d → ∃ v, vs.lookup f = some v ∧ Rv Γ.K m L H d v
  | _, _, .nil, h => by cases h
  | (g, d0) :: fs, _, .cons (v := v0) (vs := vs) r rs, h => by
    unfold List.lookup at h ⊢
    split at h
    · cases h
      exact ⟨_, rfl, r⟩
    · exact FsR.look rs h
def fFld (cs : List Str) (f : Str) : D → Sto → Rt
  | .obj n, st => match st[n]? with
    | some (.ins c fs) => if cs.contains c then match fs.lookup f with | some d => okD d st | none => none else none
    | _ => none
  | _, _ => none
theorem mono_fFld {cs : List Str} {f : Str} : MonoF (fFld cs f) := by
  intro d st r st' h
  unfold fFld at h
  repeat' (split at h)
  all_goals first | exact mono_ok h | cases h
/-- what is known of the classes whose instances have the attribute f -/
def FldOk (Γ : Gam) (cs : List Str) (f : Str) : Prop := ∀ c, cs.contains c = true → Cls Γ.K (Γ.cl c) ∧ NoAttr Γ.K (Γ.cl c) f
theorem sim_fld {cs : List Str} {f : Str} (hK : X.K = Γ.K) (hc : FldOk Γ cs f) (ha : Sim X Γ W a da) (hb : attributeBase a f X.env (eval a X.env) = eval a X.env) : Sim X Γ W (.Attribute a f pos) (dUn (fFld cs f) da) := by
  refine ⟨mono_un ha.mono mono_fFld, (pe_fld ha.pe hb).imp fun σ H Q ⟨m, ls, st, s, l, h⟩ => ?_⟩
  obtain ⟨m0, ls0, st0, s0, l0, q0⟩ := tD_bind ha.mono s l mono_fFld h
  refine ⟨m0, ls0, st0, s0, l0, q0.imp fun v H1 ⟨m1, d, st1, s1, l1, r1, q1, _⟩ => ?_⟩
  match d, r1, q1 with
  | .obj n, .obj _, q1 =>
    dsimp only [fFld] at q1
    split at q1
    · rename_i c fs e
      split at q1
      · rename_i hcs
        split at q1
        · rename_i d' ed
          obtain ⟨dx, vs, h1, h2⟩ := s1.cell n _ e
          obtain ⟨v, hv, rv⟩ := h2.look ed
          obtain ⟨c1, c2⟩ := hc c hcs
          exact ⟨m1 n, Γ.cl c, dx, vs, v, rfl, h1, by rw [hK]; exact c1, by rw [hK]; exact c2, hv, q1.ok s1 rv⟩
        · exact q1.elim
      · exact q1.elim
    · exact q1.elim

/-! ### methods of built-in types -/
def isTy (T : String) : D → Sto → Bool
  | .obj n, st => match st[n]? with
    | some (.lst _ _) => T == "list"
    | _ => false
  | .str _, _ => T == "str"
  | _, _ => false
theorem isTy_v {T : String} {K : PySem.W.Frag} (hK : K = Γ.K) {m : Nat → Addr} {st : Sto} {H : Hp} {v : V} (s : StR Γ m st H) : ∀ {d : D}, isTy T d st = true → Rv Γ.K m st.length H d v → tyV K T v H
  | .obj n, h, .obj _ => by
    subst hK
    dsimp only [isTy] at h
    split at h
    · rename_i ro l e
      obtain ⟨vs, a, r⟩ := s.list e
      exact .inl ⟨beq_iff_eq.mp h, vs, a⟩
    · cases h
  | .str z, h, .str _ => beq_iff_eq.mp h
def MtSim (Γ : Gam) (r : V → List V → Hp → VK → Prop) (f : D → List D → Sto → Rt) : Prop :=
  ∀ (m : Nat → Addr) (st : Sto) (H : Hp) (x : V) (vs : List V) (d : D) (ds : List D) (Q : VK) (E : XK), StR Γ m st H → Rv Γ.K m st.length H d x → RvL Γ.K m st.length H ds vs → Res Γ m st.length H (f d ds st) Q E → r x vs H Q
def dMeth (T : String) (f : D → List D → Sto → Rt) (da : De) (das : List De) : De := fun ls st => bindR (da ls st) fun x st1 => if isTy T x st1 then dApp (f x) das ls st1 else none
def MonoM (f : D → List D → Sto → Rt) : Prop := ∀ d, MonoFA (f d)
theorem mono_methK {T : String} {f : D → List D → Sto → Rt} {ls : Ls} (hd : MonoA das) (hf : MonoM f) : MonoF fun x st1 => if isTy T x st1 then dApp (f x) das ls st1 else none := by
  intro d st r st' h
  dsimp only at h
  split at h
  · exact mono_app hd (hf d) _ _ _ _ h
  · cases h
theorem sim_meth {T id : String} {name : Str} {apos cpos : Pos} {f : D → List D → Sto → Rt} {r : V → List V → Hp → VK → Prop} (hK : X.K = Γ.K) (pa : PlainAttrs T) (slot : Slot T name id) (hty : typeOf (.builtin id) = pure (.type "method_descriptor")) (hm : MtR X id r) (hs : MtSim Γ r f) (hf : MonoM f)
    (ho : Sim X Γ W o da) (ha : SimA X Γ W (e :: es) das) (hbase : attributeBase o name X.env (eval o X.env) = eval o X.env)
    (hfew : ((backTo cpos (starEach (e :: es) X.env)).all (fun x => !x.1) && (backToKw cpos (keywordEach [] X.env)).all (fun x => x.1.isSome)
      && decide ((e :: es).length + ([] : List Keyword).length + (if ([] : List Keyword).isEmpty then 0 else 1) < 30)) = true)
    (hline : (apos.endLine == cpos.line) = true) (hst : starEach (e :: es) X.env = (false, eval e X.env) :: starEach es X.env) (hplain : (backTo cpos (starEach es X.env)).any (·.1) = false) :
    Sim X Γ W (.Call (.Attribute o name apos) (e :: es) [] cpos) (dMeth T f da das) := by
  have mk : ∀ ls, MonoF fun x st1 => if isTy T x st1 then dApp (f x) das ls st1 else none := fun ls => mono_methK ha.mono hf
  refine ⟨fun ls st r st' q => bindR_mono (fun a s z => ho.mono ls st a s z) (mk ls) r st' q, (pe_bm pa slot hty hm ho.pe ha.pa hbase hfew hline hst hplain).imp fun σ H Q ⟨m, ls, st, s, l, h⟩ => ?_⟩
  obtain ⟨m0, ls0, st0, s0, l0, q0⟩ := tD_bind ho.mono s l (mk ls) h
  refine ⟨m0, ls0, st0, s0, l0, q0.imp fun v H1 ⟨m1, d, st1, s1, l1, r1, q1, _⟩ => ?_⟩
  split at q1
  · rename_i ht
    refine ⟨isTy_v hK s1 ht r1, ?_⟩
    obtain ⟨m0, ls0, st0, s0, l0, q0⟩ := tA_bind ha.mono s1 l1 (hf d) q1
    exact ⟨m0, ls0, st0, s0, l0, q0.imp fun vs H2 ⟨m2, ds, st2, s2, l2, r2, q2, hl2, e2, k2⟩ => hs m2 st2 H2 v vs d ds Q _ s2 (r1.mono e2 hl2 k2) r2 q2⟩
  · exact q1.elim
def fAppend : D → List D → Sto → Rt
  | .obj n, [d], st => match st[n]? with
    | some (.lst false l) => if l.length < LINE then some (.ok .non, st.set n (.lst false (l ++ [d]))) else none
    | _ => none
  | _, _, _ => none
theorem mono_fAppend : MonoM fAppend := by
  intro x ds st r st' h
  unfold fAppend at h
  repeat' (split at h)
  all_goals first | exact mono_put h | cases h
theorem ms_append : MtSim Γ rAppend fAppend := fun
  | m, st, H, _, _, .obj n, [d], Q, E, s, .obj _, .cons rd .nil, h => by
    dsimp only [fAppend] at h
    split at h
    · rename_i l e
      split at h
      · rename_i hl
        obtain ⟨vs, a, r⟩ := s.lst e
        refine ⟨m n, vs, _, rfl, rfl, a, by rw [← r.length]; exact line_lt hl, ?_⟩
        exact h.putN s e rfl rfl (fun k => ⟨_, upd_same, (r.snoc rd).mono (Ext.refl _ _) (Nat.le_refl _) k⟩) .non
      · exact h.elim
    · exact h.elim

/-! ### built-in functions -/
def fLen : List D → Sto → Rt
  | [.tup l], st => okD (.int l.length) st
  | [.obj n], st => match st[n]? with
    | some (.lst _ l) => okD (.int l.length) st
    | _ => none
  | [.str z], st => if small z.length then okD (.int z.length) st else none
  | _, _ => none
def fAbs : List D → Sto → Rt
  | [.int i], st => okD (.int (if i < 0 then -i else i)) st
  | _, _ => none
def fInt : List D → Sto → Rt
  | [.int i], st => okD (.int i) st
  | [.bl b], st => okD (.int (if b then 1 else 0)) st
  | _, _ => none
def fTuple : List D → Sto → Rt
  | [.tup l], st => okD (.tup l) st
  | [.obj n], st => match st[n]? with
    | some (.lst _ l) => okD (.tup l) st
    | _ => none
  | _, _ => none
def fList : List D → Sto → Rt
  | [.tup l], st => okL l st
  | [.obj n], st => match st[n]? with
    | some (.lst _ l) => okL l st
    | _ => none
  | _, _ => none
def blsOf : List D → Option (List Bool)
  | [] => some []
  | .bl i :: r => match blsOf r with | some l => some (i :: l) | none => none
  | _ :: _ => none
def fAll : List D → Sto → Rt
  | [.obj n], st => match st[n]? with
    | some (.lst _ l) => match blsOf l with | some bs => okD (.bl (bs.all id)) st | none => none
    | _ => none
  | _, _ => none
def fAny : List D → Sto → Rt
  | [.obj n], st => match st[n]? with
    | some (.lst _ l) => match blsOf l with | some bs => okD (.bl (bs.any id)) st | none => none
    | _ => none
  | _, _ => none
theorem mono_fLen : MonoFA fLen := by
  intro d st r st' h
  unfold fLen at h
  repeat' (split at h)
  all_goals first | exact mono_ok h | cases h
theorem mono_fAbs : MonoFA fAbs := by
  intro d st r st' h
  unfold fAbs at h
  repeat' (split at h)
  all_goals first | exact mono_ok h | cases h
theorem mono_fInt : MonoFA fInt := by
  intro d st r st' h
  unfold fInt at h
  repeat' (split at h)
  all_goals first | exact mono_ok h | cases h
theorem mono_fTuple : MonoFA fTuple := by
  intro d st r st' h
  unfold fTuple at h
  repeat' (split at h)
  all_goals first | exact mono_ok h | cases h
theorem mono_fList : MonoFA fList := by
  intro d st r st' h
  unfold fList at h
  repeat' (split at h)
  all_goals first | exact mono_okL h | cases h
theorem mono_fAll : MonoFA fAll := by
  intro d st r st' h
  unfold fAll at h
  repeat' (split at h)
  all_goals first | exact mono_ok h | cases h
theorem mono_fAny : MonoFA fAny := by
  intro d st r st' h
  unfold fAny at h
  repeat' (split at h)
  all_goals first | exact mono_ok h | cases h
theorem blsOf_vals {m : Nat → Addr} {L : Nat} {H : Hp} : ∀ {ds : List D} {vs : List V} {ns : List Bool}, RvL Γ.K m L H ds vs → blsOf ds = some ns → vs = ns.map V.bl
  | [], _, ns, .nil, h => by cases h; rfl
  | .bl i :: r, _, ns, .cons q rs, h => by
    unfold blsOf at h
    split at h
    · rename_i l e
      cases h
      cases q
      rw [blsOf_vals rs e]
      rfl
    · cases h
  | .non :: _, _, _, _, h => by cases h
  | .int _ :: _, _, _, _, h => by cases h
  | .str _ :: _, _, _, _, h => by cases h
  | .tup _ :: _, _, _, _, h => by cases h
  | .obj _ :: _, _, _, _, h => by cases h
abbrev rLenD (K : PySem.W.Frag) : List V → Hp → VK → Prop := fun xs H Q => (∃ p ys, xs = [.ref p] ∧ (SqL K H p ys ∨ SqT K H p ys) ∧ Q (.int ys.length) H) ∨ ∃ z, xs = [.str z] ∧ z.length ≤ sizeLine ∧ Q (.int z.length) H
theorem cr_len : CallR X (.builtin "len") (rLenD X.K) := call_len_seq.or call_len_str
theorem cs_len : CallSim Γ (rLenD Γ.K) fLen := fun
  | m, st, H, _, [.tup l], Q, E, s, .cons (.tup (a := p) (vs := vs) h1 r1) .nil, h => .inl ⟨p, vs, rfl, .inr h1, by have z := Res.ok (E := E) h s (Rv.int _); rw [r1.length] at z; exact z⟩
  | m, st, H, _, [.obj n], Q, E, s, .cons (.obj _) .nil, h => by
    dsimp only [fLen] at h
    split at h
    · rename_i ro l e
      obtain ⟨vs, a, r⟩ := s.list e
      exact .inl ⟨m n, vs, rfl, .inl a, by have z := h.ok s (.int _); rw [r.length] at z; exact z⟩
    · exact h.elim
  | m, st, H, _, [.str z], Q, E, s, .cons (.str _) .nil, h => by
    dsimp only [fLen] at h
    split at h
    · rename_i hz
      exact .inr ⟨z, rfl, small_le hz, h.ok s (.int _)⟩
    · exact h.elim
theorem cs_abs : CallSim Γ (fun xs H Q => ∃ i, xs = [.int i] ∧ Q (.int (if i < 0 then -i else i)) H) fAbs := fun
  | m, st, H, _, [.int i], Q, E, s, .cons (.int _) .nil, h => ⟨i, rfl, h.ok s (.int _)⟩
theorem cs_int : CallSim Γ (fun xs H Q => (∃ i, xs = [.int i] ∧ Q (.int i) H) ∨ ∃ k, xs = [.bl k] ∧ Q (.int (if k then 1 else 0)) H) fInt := fun
  | m, st, H, _, [.int i], Q, E, s, .cons (.int _) .nil, h => .inl ⟨i, rfl, h.ok s (.int _)⟩
  | m, st, H, _, [.bl i], Q, E, s, .cons (.bl _) .nil, h => .inr ⟨i, rfl, h.ok s (.int _)⟩
abbrev rTupleD (K : PySem.W.Frag) : List V → Hp → VK → Prop := fun xs H Q => ∃ p ys, xs = [.ref p] ∧ ((SqL K H p ys ∧ ∀ l, H l = none → Q (.ref l) (upd H l (.tup ys))) ∨ (SqT K H p ys ∧ Q (.ref p) H))
theorem cs_tuple : CallSim Γ (rTupleD Γ.K) fTuple := fun
  | m, st, H, _, [.tup l], Q, E, s, .cons (.tup (a := p) (vs := vs) h1 r1) .nil, h => ⟨p, vs, rfl, .inr ⟨h1, Res.ok (E := E) h s (Rv.tup h1 r1)⟩⟩
  | m, st, H, _, [.obj n], Q, E, s, .cons (.obj _) .nil, h => by
    dsimp only [fTuple] at h
    split at h
    · rename_i ro l e
      obtain ⟨vs, a, r⟩ := s.list e
      exact ⟨m n, vs, rfl, .inl ⟨a, fun p hp => h.tupN s r hp⟩⟩
    · exact h.elim
abbrev rListDD (K : PySem.W.Frag) : List V → Hp → VK → Prop := fun xs H Q => ∃ p ys, xs = [.ref p] ∧ (SqL K H p ys ∨ SqT K H p ys) ∧ ∀ l, H l = none → Q (.ref l) (upd H l (.lst ys))
theorem cs_list : CallSim Γ (rListDD Γ.K) fList := fun
  | m, st, H, _, [.tup l], Q, E, s, .cons (.tup (a := p) (vs := vs) h1 r1) .nil, h => ⟨p, vs, rfl, .inr h1, fun q hq => Res.lstN (E := E) h s r1 hq⟩
  | m, st, H, _, [.obj n], Q, E, s, .cons (.obj _) .nil, h => by
    dsimp only [fList] at h
    split at h
    · rename_i ro l e
      obtain ⟨vs, a, r⟩ := s.list e
      exact ⟨m n, vs, rfl, .inl a, fun p hp => h.lstN s r hp⟩
    · exact h.elim
theorem cs_all : CallSim Γ (rAll Γ.K) fAll := fun
  | m, st, H, _, [.obj n], Q, E, s, .cons (.obj _) .nil, h => by
    dsimp only [fAll] at h
    split at h
    · rename_i ro l e
      split at h
      · rename_i bs eb
        obtain ⟨vs, a, r⟩ := s.list e
        rw [blsOf_vals r eb] at a
        exact ⟨m n, bs, rfl, a, h.ok s (.bl _)⟩
      · exact h.elim
    · exact h.elim
theorem cs_any : CallSim Γ (rAny Γ.K) fAny := fun
  | m, st, H, _, [.obj n], Q, E, s, .cons (.obj _) .nil, h => by
    dsimp only [fAny] at h
    split at h
    · rename_i ro l e
      split at h
      · rename_i bs eb
        obtain ⟨vs, a, r⟩ := s.list e
        rw [blsOf_vals r eb] at a
        exact ⟨m n, bs, rfl, a, h.ok s (.bl _)⟩
      · exact h.elim
    · exact h.elim
def fMax2 : List D → Sto → Rt
  | [.int i, .int j], st => okD (.int (if j > i then j else i)) st
  | _, _ => none
def fMin2 : List D → Sto → Rt
  | [.int i, .int j], st => okD (.int (if j < i then j else i)) st
  | _, _ => none
theorem mono_fMax2 : MonoFA fMax2 := by
  intro d st r st' h
  unfold fMax2 at h
  repeat' (split at h)
  all_goals first | exact mono_ok h | cases h
theorem mono_fMin2 : MonoFA fMin2 := by
  intro d st r st' h
  unfold fMin2 at h
  repeat' (split at h)
  all_goals first | exact mono_ok h | cases h
theorem cs_max2 : CallSim Γ (fun xs H Q => ∃ i j, xs = [.int i, .int j] ∧ Q (.int (if j > i then j else i)) H) fMax2 := fun
  | m, st, H, _, [.int i, .int j], Q, E, s, .cons (.int _) (.cons (.int _) .nil), h => ⟨i, j, rfl, h.ok s (.int _)⟩
theorem cs_min2 : CallSim Γ (fun xs H Q => ∃ i j, xs = [.int i, .int j] ∧ Q (.int (if j < i then j else i)) H) fMin2 := fun
  | m, st, H, _, [.int i, .int j], Q, E, s, .cons (.int _) (.cons (.int _) .nil), h => ⟨i, j, rfl, h.ok s (.int _)⟩
end
end MP
end
section
set_option maxRecDepth 100000
set_option maxHeartbeats 1000000
namespace MP
open PySem L2

/-! ### targets -/
inductive Tg where
  | nm (i : Nat)
  | tp (l : List Tg)
mutual
def asg : Tg → D → Ls → Option Ls
  | .nm i, d, ls => some (ls.set i (some d))
  | .tp ts, .tup ds, ls => asgs ts ds ls
  | .tp _, _, _ => none
def asgs : List Tg → List D → Ls → Option Ls
  | [], [], ls => some ls
  | t :: ts, d :: ds, ls => match asg t d ls with
    | some l => asgs ts ds l
    | none => none
  | [], _ :: _, _ => none
  | _ :: _, [], _ => none
end
mutual
def tslots : Tg → List Nat
  | .nm i => [i]
  | .tp ts => tsslots ts
def tsslots : List Tg → List Nat
  | [] => []
  | t :: ts => tslots t ++ tsslots ts
end
mutual
theorem asg_len : ∀ {t : Tg} {d : D} {ls l : Ls}, asg t d ls = some l → l.length = ls.length
  | .nm i, d, ls, l, h => by
    unfold asg at h
    cases h
    exact List.length_set
  | .tp ts, .tup ds, ls, l, h => by
    unfold asg at h
    exact asgs_len h
  | .tp ts, .non, ls, l, h => by unfold asg at h; cases h
  | .tp ts, .bl _, ls, l, h => by unfold asg at h; cases h
  | .tp ts, .int _, ls, l, h => by unfold asg at h; cases h
  | .tp ts, .str _, ls, l, h => by unfold asg at h; cases h
  | .tp ts, .obj _, ls, l, h => by unfold asg at h; cases h
theorem asgs_len : ∀ {ts : List Tg} {ds : List D} {ls l : Ls}, asgs ts ds ls = some l → l.length = ls.length
  | [], [], ls, l, h => by unfold asgs at h; cases h; rfl
  | t :: ts, d :: ds, ls, l, h => by
    unfold asgs at h
    split at h
    · rename_i l1 e
      exact (asgs_len h).trans (asg_len e)
    · cases h
  | [], _ :: _, ls, l, h => by unfold asgs at h; cases h
  | _ :: _, [], ls, l, h => by unfold asgs at h; cases h
end
def tG (Γ : Gam) (t : Tg) : TG := fun v σ H Q => ∃ m L ls d ls', LsR Γ m L H ls σ ∧ Rv Γ.K m L H d v ∧ asg t d ls = some ls' ∧ ∀ σ', LsR Γ m L H ls' σ' → (∀ j, j ∉ tslots t → σ'[j]? = σ[j]?) → Q σ' H
def tGs (Γ : Gam) (ts : List Tg) : TGs := fun vs σ H Q => ∃ m L ls ds ls', LsR Γ m L H ls σ ∧ RvL Γ.K m L H ds vs ∧ asgs ts ds ls = some ls' ∧ ∀ σ', LsR Γ m L H ls' σ' → (∀ j, j ∉ tsslots ts → σ'[j]? = σ[j]?) → Q σ' H
theorem _root_.L2.PG.imp {X : Cx} {e : Expr} {t t' : TG} (h : PG X e t) (q : ∀ v σ H Q, t' v σ H Q → t v σ H Q) : PG X e t' := ⟨fun pins s σ H v u Q I r w => h.run pins s σ H v u Q I r (q v σ H Q w)⟩
theorem _root_.L2.PGs.imp {X : Cx} {e : List Expr} {t t' : TGs} (h : PGs X e t) (q : ∀ v σ H Q, t' v σ H Q → t v σ H Q) : PGs X e t' := ⟨fun pins s σ H v u Q I r w => h.run pins s σ H v u Q I r (q v σ H Q w)⟩
theorem _root_.L2.PI.imp {X : Cx} {tg e : Expr} {t t' : TI} (h : PI X tg e t) (q : ∀ σ H R, t' σ H R → t σ H R) : PI X tg e t' := ⟨fun pins s σ H R I w => h.run pins s σ H R I (q σ H R w)⟩
theorem tslots_tp {ts : List Tg} : tslots (.tp ts) = tsslots ts := by rw [tslots]
theorem tsslots_cons {t : Tg} {ts : List Tg} : tsslots (t :: ts) = tslots t ++ tsslots ts := by rw [tsslots]
section
variable {X : Cx} {Γ : Gam} {W : WX} {e a b c o tg : Expr} {da db dc : De} {pos p2 : Pos} {es rest : List Expr} {das : List De} {t : Tg} {ts : List Tg}
theorem sg_name {i : Nat} {x : Str} (hN : X.N.Nodup) (hi : X.N[i]? = some x) (hx : Loc X.env.scope x) (hf : X.fn x = true ∨ X.env.scope.names.lookup x = some .local) : PG X (.Name x pos) (tG Γ (.nm i)) :=
  (pg_name hN hi hx hf).imp fun v σ H Q ⟨m, L, ls, d, ls', l, r, h, q⟩ => by
    unfold asg at h
    cases h
    refine q _ (l.set i r) fun j hj => ?_
    rw [List.getElem?_set_ne]
    rintro rfl
    exact hj (by rw [tslots]; exact List.mem_singleton.mpr rfl)
theorem sgs_nil : PGs X [] (tGs Γ []) := pgs_nil.imp fun vs σ H Q ⟨m, L, ls, ds, ls', l, r, h, q⟩ => by
  match ds, r, h with
  | [], .nil, h =>
    unfold asgs at h
    cases h
    exact ⟨rfl, q σ l fun _ _ => rfl⟩
  | _ :: _, _, h => unfold asgs at h; cases h
theorem sgs_cons (h1 : PG X e (tG Γ t)) (h2 : PGs X es (tGs Γ ts)) (hs : (assignEach (e :: es) X.env).map (·.2) = assign e X.env :: (assignEach es X.env).map (·.2)) : PGs X (e :: es) (tGs Γ (t :: ts)) :=
  (pgs_cons h1 h2 hs).imp fun vs σ H Q ⟨m, L, ls, ds, ls', l, r, h, q⟩ => by
    match ds, r, h with
    | [], _, h => unfold asgs at h; cases h
    | d :: ds, .cons r rs, h =>
      unfold asgs at h
      split at h
      · rename_i l1 e1
        refine ⟨_, _, rfl, m, L, ls, d, l1, l, r, e1, fun σ1 hl1 hk1 => ⟨m, L, l1, ds, ls', hl1, rs, h, fun σ2 hl2 hk2 => q σ2 hl2 fun j hj => ?_⟩⟩
        rw [tsslots_cons, List.mem_append] at hj
        exact (hk2 j fun z => hj (.inr z)).trans (hk1 j fun z => hj (.inl z))
      · cases h
theorem sg_tup {k n : Nat} (hK : X.K = Γ.K) (hc : X.calm = true) (h : PGs X es (tGs Γ ts)) (hn : (assignEach es X.env).length = n) (hst : (assignEach es X.env).findIdx? (·.1) = none) (hlen : ts.length = n) : PG X (.Tuple es k pos) (tG Γ (.tp ts)) :=
  (pg_tup hc h hn hst).imp fun v σ H Q ⟨m, L, ls, d, ls', l, r, h, q⟩ => by
    have alen : ∀ {ts : List Tg} {ds : List D} {ls l : Ls}, asgs ts ds ls = some l → ds.length = ts.length := by
      intro ts
      induction ts with
      | nil =>
        intro ds ls l h
        cases ds with
        | nil => rfl
        | cons _ _ => unfold asgs at h; cases h
      | cons t ts ih =>
        intro ds ls l h
        cases ds with
        | nil => unfold asgs at h; cases h
        | cons d ds =>
          unfold asgs at h
          split at h
          · rw [List.length_cons, List.length_cons, ih h]
          · cases h
    match d, r, h with
    | .tup ds, .tup (a := p) (vs := vs) h1 r1, h =>
      unfold asg at h
      refine ⟨p, vs, rfl, by rw [hK]; exact h1, by rw [← r1.length, alen h, hlen], m, L, ls, ds, ls', l, r1, h, fun σ' hl hk => q σ' hl fun j hj => hk j ?_⟩
      rw [tslots_tp] at hj
      exact hj
    | .non, _, h => unfold asg at h; cases h
    | .bl _, _, h => unfold asg at h; cases h
    | .int _, _, h => unfold asg at h; cases h
    | .str _, _, h => unfold asg at h; cases h
    | .obj _, _, h => unfold asg at h; cases h

/-! ### what is walked -/
mutual
def beqD : D → D → Bool
  | .non, .non => true
  | .bl a, .bl b => a == b
  | .int a, .int b => a == b
  | .str a, .str b => decide (a = b)
  | .tup a, .tup b => beqDs a b
  | .obj a, .obj b => a == b
  | .non, .bl _ => false | .non, .int _ => false | .non, .str _ => false | .non, .tup _ => false | .non, .obj _ => false
  | .bl _, .non => false | .bl _, .int _ => false | .bl _, .str _ => false | .bl _, .tup _ => false | .bl _, .obj _ => false
  | .int _, .non => false | .int _, .bl _ => false | .int _, .str _ => false | .int _, .tup _ => false | .int _, .obj _ => false
  | .str _, .non => false | .str _, .bl _ => false | .str _, .int _ => false | .str _, .tup _ => false | .str _, .obj _ => false
  | .tup _, .non => false | .tup _, .bl _ => false | .tup _, .int _ => false | .tup _, .str _ => false | .tup _, .obj _ => false
  | .obj _, .non => false | .obj _, .bl _ => false | .obj _, .int _ => false | .obj _, .str _ => false | .obj _, .tup _ => false
def beqDs : List D → List D → Bool
  | [], [] => true
  | a :: r, b :: t => beqD a b && beqDs r t
  | [], _ :: _ => false
  | _ :: _, [] => false
end
mutual
theorem beqD_eq : ∀ {a b : D}, beqD a b = true → a = b
  | .non, .non, _ => rfl
  | .bl a, .bl b, h => by unfold beqD at h; rw [beq_iff_eq.mp h]
  | .int a, .int b, h => by unfold beqD at h; rw [beq_iff_eq.mp h]
  | .str a, .str b, h => by unfold beqD at h; rw [of_decide_eq_true h]
  | .tup a, .tup b, h => by unfold beqD at h; rw [beqDs_eq h]
  | .obj a, .obj b, h => by unfold beqD at h; rw [beq_iff_eq.mp h]
  | .non, .bl _, h => by cases h
  | .non, .int _, h => by cases h
  | .non, .str _, h => by cases h
  | .non, .tup _, h => by cases h
  | .non, .obj _, h => by cases h
  | .bl _, .non, h => by cases h
  | .bl _, .int _, h => by cases h
  | .bl _, .str _, h => by cases h
  | .bl _, .tup _, h => by cases h
  | .bl _, .obj _, h => by cases h
  | .int _, .non, h => by cases h
  | .int _, .bl _, h => by cases h
  | .int _, .str _, h => by cases h
  | .int _, .tup _, h => by cases h
  | .int _, .obj _, h => by cases h
  | .str _, .non, h => by cases h
  | .str _, .bl _, h => by cases h
  | .str _, .int _, h => by cases h
  | .str _, .tup _, h => by cases h
  | .str _, .obj _, h => by cases h
  | .tup _, .non, h => by cases h
  | .tup _, .bl _, h => by cases h
  | .tup _, .int _, h => by cases h
  | .tup _, .str _, h => by cases h
  | .tup _, .obj _, h => by cases h
  | .obj _, .non, h => by cases h
  | .obj _, .bl _, h => by cases h
  | .obj _, .int _, h => by cases h
  | .obj _, .str _, h => by cases h
  | .obj _, .tup _, h => by cases h
theorem beqDs_eq : ∀ {a b : List D}, beqDs a b = true → a = b
  | [], [], _ => rfl
  | a :: r, b :: t, h => by
    unfold beqDs at h
    obtain ⟨h1, h2⟩ := Bool.and_eq_true_iff.mp h
    rw [beqD_eq h1, beqDs_eq h2]
  | [], _ :: _, h => by cases h
  | _ :: _, [], h => by cases h
end
mutual
theorem beqD_refl : ∀ (a : D), beqD a a = true
  | .non => rfl
  | .bl a => by unfold beqD; exact beq_self_eq_true a
  | .int a => by unfold beqD; exact beq_self_eq_true a
  | .str a => by unfold beqD; exact decide_eq_true rfl
  | .tup a => by unfold beqD; exact beqDs_refl a
  | .obj a => by unfold beqD; exact beq_self_eq_true a
theorem beqDs_refl : ∀ (a : List D), beqDs a a = true
  | [] => rfl
  | a :: r => by unfold beqDs; rw [beqD_refl a, beqDs_refl r]; rfl
end
/-- the list that is walked stands still -/
def gdB (gd : Option (Nat × List D)) (st : Sto) : Bool := match gd with
  | none => true
  | some (n, l) => match st[n]? with
    | some (.lst _ l') => beqDs l' l
    | _ => false
theorem gdB_at {n : Nat} {l : List D} {st : Sto} (h : gdB (some (n, l)) st = true) : ∃ ro, st[n]? = some (.lst ro l) := by
  unfold gdB at h
  dsimp only at h
  split at h
  · rename_i ro l' e
    rw [beqDs_eq h] at e
    exact ⟨ro, e⟩
  · cases h
theorem gdB_of {n : Nat} {l : List D} {st : Sto} {ro : Bool} (h : st[n]? = some (.lst ro l)) : gdB (some (n, l)) st = true := by
  unfold gdB
  dsimp only
  rw [h]
  exact beqDs_refl l
/-- J walks the items; gd: the list that has to stand still -/
def IterOk (Γ : Gam) (J : It) (items : List D) (gd : Option (Nat × List D)) (m0 : Nat → Addr) (L0 : Nat) (H0 : Hp) : Prop :=
  ∀ i m st H, i ≤ items.length → Ext m0 L0 m → L0 ≤ st.length → Keep H0 H → StR Γ m st H → gdB gd st = true →
    (i = items.length → J.stop i H) ∧ (i < items.length → J.go i H ∧ ∀ x H', J.yld i H x H' → ∃ d, items[i]? = some d ∧ Keep H H' ∧ StR Γ m st H' ∧ Rv Γ.K m st.length H' d x)
inductive RsI where
  | it (items : List D) (gd : Option (Nat × List D))
  | exc (c : Str) (fs : List (Str × D))
abbrev Di := Ls → Sto → Option (RsI × Sto)
def ResI (Γ : Gam) (m : Nat → Addr) (L : Nat) (H : Hp) (r : Option (RsI × Sto)) (R : It → Hp → Prop) (E : XK) : Prop := match r with
  | none => False
  | some (.it items gd, st') => L ≤ st'.length ∧ ∀ m' H' J, Ext m L m' → Keep H H' → StR Γ m' st' H' → IterOk Γ J items gd m' st'.length H' → R J H'
  | some (.exc c fs, st') => L ≤ st'.length ∧ AfterExc Γ m L H st' c fs E
def MonoI (di : Di) : Prop := ∀ ls st r st', di ls st = some (r, st') → st.length ≤ st'.length
def tI (Γ : Gam) (W : WX) (di : Di) : TI := fun σ H R => ∃ m ls st, StR Γ m st H ∧ LsR Γ m st.length H ls σ ∧ ResI Γ m st.length H (di ls st) R (fun c d H' => W c d σ H')
structure SimI (X : Cx) (Γ : Gam) (W : WX) (tg e : Expr) (di : Di) : Prop where
  mono : MonoI di
  pi : PI X tg e (tI Γ W di)
/-- a list or a tuple -/
def fSeq : D → Sto → Option (RsI × Sto)
  | .tup l, st => some (.it l none, st)
  | .obj n, st => match st[n]? with
    | some (.lst _ l) => some (.it l (some (n, l)), st)
    | _ => none
  | _, _ => none
def bindI (r : Rt) (f : D → Sto → Option (RsI × Sto)) : Option (RsI × Sto) := match r with
  | some (.ok d, st1) => f d st1
  | some (.exc c fs, st1) => some (.exc c fs, st1)
  | none => none
def dSeq (da : De) : Di := fun ls st => bindI (da ls st) fSeq
theorem pi_seq {l : Expr} {tl : TE} (hl : PE X l tl) : PI X tg l (fun σ H R => tl σ H fun x H1 => ∃ a, x = .ref a ∧ (((∃ xs, SqL X.K H1 a xs) ∧ R (Itl X.K a) H1) ∨ ((∃ xs, SqT X.K H1 a xs) ∧ R (Itt X.K a) H1))) := by
  refine ⟨fun pins s σ H R I h => ?_⟩
  refine thn (hl.run pins s σ H _ I h) fun v s1 ⟨x, H1, I1, r1, q1⟩ => ?_
  obtain ⟨a, e, q | q⟩ := q1
  · obtain ⟨⟨xs, hq⟩, q⟩ := q
    subst e
    cases r1
    obtain ⟨its, rv, p, hz⟩ := I1.list hq
    refine wpAny_pyIter_list p.isList ?_
    refine ⟨s1.heap.objs.size, [s1.heap.objs.size], _, _, H1, rfl, I1.kept (t' := s1.toks) fun b o e => Heap.get?_push_of_some _ e, turn_list a _, ⟨_, Heap.get?_push_size _ rfl, rfl, rfl⟩, fun b hb => ?_, q⟩
    have e : b = s1.heap.objs.size := by simpa using hb
    subst e
    exact I1.fpOk (Nat.le_refl _) (I1.hok.fresh (Nat.le_refl _))
  · obtain ⟨⟨xs, hq⟩, q⟩ := q
    subst e
    cases r1
    obtain ⟨its, rv, p, hz⟩ := I1.tuple hq
    refine wpAny_pyIter_tuple (show s1.heap.IsTuple a its.toArray from p) ?_
    refine ⟨s1.heap.objs.size, [s1.heap.objs.size], _, _, H1, rfl, I1.kept (t' := s1.toks) fun b o e => Heap.get?_push_of_some _ e, turn_tuple a _, ⟨_, Heap.get?_push_size _ rfl, rfl, rfl⟩, fun b hb => ?_, q⟩
    have e : b = s1.heap.objs.size := by simpa using hb
    subst e
    exact I1.fpOk (Nat.le_refl _) (I1.hok.fresh (Nat.le_refl _))
theorem iterOk_list {m0 : Nat → Addr} {L0 : Nat} {H0 : Hp} {n : Nat} {l : List D} (hn : n < L0) : IterOk Γ (Itl Γ.K (m0 n)) l (some (n, l)) m0 L0 H0 := by
  intro i m st H hi e hL k s hg
  obtain ⟨ro, hg⟩ := gdB_at hg
  obtain ⟨vs, a, r⟩ := s.list hg
  rw [e n hn] at a
  refine ⟨fun h => ⟨vs, a, by rw [h, r.length]; exact Nat.le_refl _⟩, fun h => ⟨?_, fun x H' y => ?_⟩⟩
  · have hv : i < vs.length := by rw [← r.length]; exact h
    exact ⟨vs, vs[i], a, by simp [hv]⟩
  · obtain ⟨rfl, y⟩ := y
    obtain ⟨d, hd, rd⟩ := r.getV (y vs a)
    exact ⟨d, hd, Keep.refl _, s, rd⟩
theorem iterOk_tup {m0 : Nat → Addr} {L0 : Nat} {H0 : Hp} {a : Addr} {l : List D} {vs : List V} (ha : SqT Γ.K H0 a vs) (r : RvL Γ.K m0 L0 H0 l vs) : IterOk Γ (Itt Γ.K a) l none m0 L0 H0 := by
  intro i m st H hi e hL k s _
  have a := k.sqT ha
  have r := r.mono e hL k
  refine ⟨fun h => ⟨vs, a, by rw [h, r.length]; exact Nat.le_refl _⟩, fun h => ⟨?_, fun x H' y => ?_⟩⟩
  · have hv : i < vs.length := by rw [← r.length]; exact h
    exact ⟨vs, vs[i], a, by simp [hv]⟩
  · obtain ⟨rfl, y⟩ := y
    obtain ⟨d, hd, rd⟩ := r.getV (y vs a)
    exact ⟨d, hd, Keep.refl _, s, rd⟩
/-- the value, then what is walked -/
theorem tD_bindI {f : D → Sto → Option (RsI × Sto)} (ma : Mono da) {σ : L2.St} {H : Hp} {ls : Ls} {m : Nat → Addr} {st : Sto} {R : It → Hp → Prop} (s : StR Γ m st H) (l : LsR Γ m st.length H ls σ) (hf : ∀ d st r st', f d st = some (r, st') → st.length ≤ st'.length)
    (h : ResI Γ m st.length H (bindI (da ls st) f) R (fun c d H' => W c d σ H')) {Q : VK}
    (hQ : ∀ m1 d st1 v H1, StR Γ m1 st1 H1 → LsR Γ m1 st1.length H1 ls σ → Rv Γ.K m1 st1.length H1 d v → ResI Γ m1 st1.length H1 (f d st1) R (fun c d H' => W c d σ H') → Q v H1) : tD Γ W da σ H Q := by
  refine ⟨m, ls, st, s, l, ?_⟩
  have ma := fun r st' q => ma ls st r st' q
  match da ls st, h, ma with
  | some (.exc c fs, st1), h, _ => exact h
  | some (.ok d, st1), h, ma =>
    have hl := ma _ _ rfl
    refine ⟨hl, fun m1 H1 v e1 k1 s1 r1 => hQ m1 d st1 v H1 s1 (l.mono e1 hl k1) r1 ?_⟩
    have h : ResI Γ m st.length H (f d st1) R (fun c d H' => W c d σ H') := h
    have hf := fun r st' q => hf d st1 r st' q
    match f d st1, h, hf with
    | some (.it items gd, st2), h, hf => exact ⟨hf _ _ rfl, fun m2 H2 J e2 k2 s2 q => h.2 m2 H2 J (e1.trans e2 hl) (k1.trans k2) s2 q⟩
    | some (.exc c fs, st2), h, hf => exact ⟨hf _ _ rfl, fun m2 H2 J e2 k2 s2 q => h.2 m2 H2 J (e1.trans e2 hl) (k1.trans k2) s2 q⟩
theorem mono_fSeq : ∀ d st r st', fSeq d st = some (r, st') → st.length ≤ st'.length := by
  intro d st r st' h
  unfold fSeq at h
  repeat' (split at h)
  all_goals first | (cases h; exact Nat.le_refl _) | cases h
theorem monoI_bind {f : D → Sto → Option (RsI × Sto)} (ma : Mono da) (hf : ∀ d st r st', f d st = some (r, st') → st.length ≤ st'.length) : MonoI fun ls st => bindI (da ls st) f := fun ls st r st' h => by
  have ma := fun r st' q => ma ls st r st' q
  dsimp only at h
  match da ls st, h, ma with
  | some (.exc c fs, st1), h, ma =>
    cases h
    exact ma _ _ rfl
  | some (.ok d, st1), h, ma => exact Nat.le_trans (ma _ _ rfl) (hf _ _ _ _ h)
  | none, h, _ => cases h
theorem si_seq (hK : X.K = Γ.K) (ha : Sim X Γ W a da) : SimI X Γ W tg a (dSeq da) := by
  refine ⟨monoI_bind ha.mono mono_fSeq, (pi_seq ha.pe).imp fun σ H R ⟨m, ls, st, s, l, h⟩ => ?_⟩
  refine tD_bindI ha.mono s l mono_fSeq h fun m1 d st1 v H1 s1 l1 r1 q => ?_
  match d, r1, q with
  | .tup ds, .tup (a := p) (vs := vs) h1 r1, q => exact ⟨p, rfl, .inr ⟨⟨vs, by rw [hK]; exact h1⟩, by rw [hK]; exact q.2 m1 H1 _ (Ext.refl _ _) (Keep.refl _) s1 (iterOk_tup h1 r1)⟩⟩
  | .obj n, .obj hn, q =>
    dsimp only [fSeq] at q
    split at q
    · rename_i ro l e
      obtain ⟨vs, a, r⟩ := s1.list e
      exact ⟨m1 n, rfl, .inl ⟨⟨vs, by rw [hK]; exact a⟩, by rw [hK]; exact q.2 m1 H1 _ (Ext.refl _ _) (Keep.refl _) s1 (iterOk_list hn)⟩⟩
    · exact q.elim
/-! ranges -/
def rgD (lo : Int) (n : Nat) : List D := (List.range n).map fun i => .int (lo + (i : Nat))
theorem rgD_len {lo : Int} {n : Nat} : (rgD lo n).length = n := by simp [rgD]
theorem rgD_get {lo : Int} {n i : Nat} (h : i < n) : (rgD lo n)[i]? = some (.int (lo + (i : Nat))) := by simp [rgD, h]
theorem iterOk_range {m0 : Nat → Addr} {L0 : Nat} {H0 : Hp} {lo : Int} {n : Nat} : IterOk Γ (Itr lo n) (rgD lo n) none m0 L0 H0 := by
  intro i m st H hi e hL k s _
  rw [rgD_len] at hi ⊢
  refine ⟨fun h => by rw [h]; exact Nat.le_refl _, fun h => ⟨h, fun x H' y => ?_⟩⟩
  obtain ⟨rfl, rfl⟩ := y
  exact ⟨_, rgD_get h, Keep.refl _, s, .int _⟩
def rangeOk (i : Int) : Bool := decide (-(2 ^ 62) ≤ i) && decide (i < 2 ^ 62)
theorem rangeOk_c {i : Int} (h : rangeOk i = true) : -(2 ^ 62) ≤ i ∧ i < 2 ^ 62 := by
  unfold rangeOk at h
  simpa using h
def fRange : List D → Sto → Option (RsI × Sto)
  | [.int j], st => if rangeOk j then some (.it (rgD 0 j.toNat) none, st) else none
  | [.int i, .int j], st => if rangeOk i && rangeOk j then some (.it (rgD i (j - i).toNat) none, st) else none
  | _, _ => none
def dAppI (f : List D → Sto → Option (RsI × Sto)) (das : List De) : Di := fun ls st => match evA das ls st with
  | some (.ok ds, st1) => f ds st1
  | some (.exc c fs, st1) => some (.exc c fs, st1)
  | none => none
theorem monoI_app {f : List D → Sto → Option (RsI × Sto)} (ma : MonoA das) (hf : ∀ ds st r st', f ds st = some (r, st') → st.length ≤ st'.length) : MonoI (dAppI f das) := fun ls st r st' h => by
  unfold dAppI at h
  split at h
  · rename_i ds st1 e
    exact Nat.le_trans (ma _ _ _ _ e) (hf _ _ _ _ h)
  · rename_i c fs st1 e
    cases h
    exact ma _ _ _ _ e
  · cases h
theorem tA_bindI {f : List D → Sto → Option (RsI × Sto)} (ma : MonoA das) {σ : L2.St} {H : Hp} {ls : Ls} {m : Nat → Addr} {st : Sto} {R : It → Hp → Prop} (s : StR Γ m st H) (l : LsR Γ m st.length H ls σ) (hf : ∀ ds st r st', f ds st = some (r, st') → st.length ≤ st'.length)
    (h : ResI Γ m st.length H (dAppI f das ls st) R (fun c d H' => W c d σ H')) {Q : List V → Hp → Prop}
    (hQ : ∀ m1 ds st1 vs H1, StR Γ m1 st1 H1 → LsR Γ m1 st1.length H1 ls σ → RvL Γ.K m1 st1.length H1 ds vs → ResI Γ m1 st1.length H1 (f ds st1) R (fun c d H' => W c d σ H') → Q vs H1) : tA Γ W das σ H Q := by
  refine ⟨m, ls, st, s, l, ?_⟩
  have ma := fun r st' q => ma ls st r st' q
  unfold dAppI at h
  match evA das ls st, h, ma with
  | some (.exc c fs, st1), h, _ => exact h
  | some (.ok d, st1), h, ma =>
    have hl := ma _ _ rfl
    refine ⟨hl, fun m1 H1 v e1 k1 s1 r1 => hQ m1 d st1 v H1 s1 (l.mono e1 hl k1) r1 ?_⟩
    have h : ResI Γ m st.length H (f d st1) R (fun c d H' => W c d σ H') := h
    have hf := fun r st' q => hf d st1 r st' q
    match f d st1, h, hf with
    | some (.it items gd, st2), h, hf => exact ⟨hf _ _ rfl, fun m2 H2 J e2 k2 s2 q => h.2 m2 H2 J (e1.trans e2 hl) (k1.trans k2) s2 q⟩
    | some (.exc c fs, st2), h, hf => exact ⟨hf _ _ rfl, fun m2 H2 J e2 k2 s2 q => h.2 m2 H2 J (e1.trans e2 hl) (k1.trans k2) s2 q⟩
theorem mono_fRange : ∀ ds st r st', fRange ds st = some (r, st') → st.length ≤ st'.length := by
  intro d st r st' h
  unfold fRange at h
  repeat' (split at h)
  all_goals first | (cases h; exact Nat.le_refl _) | cases h
theorem si_range1 {p : Pos} (hg : Gl X "range") (hm : X.mg "range" = none) (ha : SimA X Γ W [a] das) (hd : das.length = 1) (hs : starEach [a] X.env = [(false, eval a X.env)]) : SimI X Γ W tg (.Call (.Name "range" p) [a] [] pos) (dAppI fRange das) := by
  refine ⟨monoI_app ha.mono mono_fRange, (pi_range1 hg hm ha.pa hs).imp fun σ H R ⟨m, ls, st, s, l, h⟩ => ?_⟩
  unfold iRng1
  have key : tA Γ W das σ H (fun vs H1 => vs.length = 1 → ∃ j : Int, vs = [.int j] ∧ -(2 ^ 62) ≤ j ∧ j < 2 ^ 62 ∧ R (Itr 0 j.toNat) H1) := by
    refine tA_bindI ha.mono s l mono_fRange h fun m1 ds st1 vs H1 s1 l1 r1 q hlen => ?_
    match ds, r1, q with
      | [.int j], .cons (.int _) .nil, q =>
        dsimp only [fRange] at q
        split at q
        · rename_i z
          obtain ⟨z1, z2⟩ := rangeOk_c z
          exact ⟨j, rfl, z1, z2, q.2 m1 H1 _ (Ext.refl _ _) (Keep.refl _) s1 iterOk_range⟩
        · exact q.elim
      | [.int i, .int j], .cons _ (.cons _ .nil), q => cases hlen
  obtain ⟨m0, ls0, st0, s0, l0, q0⟩ := key
  have hl : ∀ ds st', evA das ls0 st0 = some (.ok ds, st') → ds.length = 1 := fun ds st' e => (evA_len e).trans hd
  refine ⟨m0, ls0, st0, s0, l0, ?_⟩
  match evA das ls0 st0, q0, hl with
  | some (.ok ds, st'), q0, hl => exact ⟨q0.1, fun m' H' vs e k s r => q0.2 m' H' vs e k s r (by rw [← r.length]; exact hl _ _ rfl)⟩
  | some (.exc c fs, st'), q0, _ => exact q0
theorem si_range2 {p : Pos} (hg : Gl X "range") (hm : X.mg "range" = none) (ha : SimA X Γ W [a, b] das) (hd : das.length = 2) (hs : starEach [a, b] X.env = [(false, eval a X.env), (false, eval b X.env)]) (hs2 : starEach [b] X.env = [(false, eval b X.env)]) :
    SimI X Γ W tg (.Call (.Name "range" p) [a, b] [] pos) (dAppI fRange das) := by
  refine ⟨monoI_app ha.mono mono_fRange, (pi_range2 hg hm ha.pa hs hs2).imp fun σ H R ⟨m, ls, st, s, l, h⟩ => ?_⟩
  unfold iRng2
  have key : tA Γ W das σ H (fun vs H1 => vs.length = 2 → ∃ i j : Int, vs = [.int i, .int j] ∧ (-(2 ^ 62) ≤ i ∧ i < 2 ^ 62 ∧ -(2 ^ 62) ≤ j ∧ j < 2 ^ 62) ∧ R (Itr i (j - i).toNat) H1) := by
    refine tA_bindI ha.mono s l mono_fRange h fun m1 ds st1 vs H1 s1 l1 r1 q hlen => ?_
    match ds, r1, q with
      | [.int j], .cons (.int _) .nil, q => cases hlen
      | [.int i, .int j], .cons (.int _) (.cons (.int _) .nil), q =>
        dsimp only [fRange] at q
        split at q
        · rename_i z
          obtain ⟨y1, y2⟩ := Bool.and_eq_true_iff.mp z
          obtain ⟨z1, z2⟩ := rangeOk_c y1
          obtain ⟨z3, z4⟩ := rangeOk_c y2
          exact ⟨i, j, rfl, ⟨z1, z2, z3, z4⟩, q.2 m1 H1 _ (Ext.refl _ _) (Keep.refl _) s1 iterOk_range⟩
        · exact q.elim
  obtain ⟨m0, ls0, st0, s0, l0, q0⟩ := key
  have hl : ∀ ds st', evA das ls0 st0 = some (.ok ds, st') → ds.length = 2 := fun ds st' e => (evA_len e).trans hd
  refine ⟨m0, ls0, st0, s0, l0, ?_⟩
  match evA das ls0 st0, q0, hl with
  | some (.ok ds, st'), q0, hl => exact ⟨q0.1, fun m' H' vs e k s r => q0.2 m' H' vs e k s r (by rw [← r.length]; exact hl _ _ rfl)⟩
  | some (.exc c fs, st'), q0, _ => exact q0
end
end MP
end
section
set_option maxRecDepth 100000
set_option maxHeartbeats 1000000
namespace MP
open PySem L2

/-! ### comprehensions -/
abbrev WF : WX := fun _ _ _ _ => False
abbrev EF : XK := fun _ _ _ => False
def bindO (r : Rt) (f : D → Sto → Rt) : Rt := match r with
  | some (.ok d, st') => f d st'
  | _ => none
theorem bindO_mono {r : Rt} {f : D → Sto → Rt} {n : Nat} (h : ∀ a st', r = some (a, st') → n ≤ st'.length) (hf : MonoF f) : ∀ a st', bindO r f = some (a, st') → n ≤ st'.length := fun a st' q => by
  match r, h, q with
  | some (.ok d, st1), h, q => exact Nat.le_trans (h _ _ rfl) (hf d st1 a st' q)
theorem Res.bindO {Γ : Gam} {m : Nat → Addr} {st : Sto} {H : Hp} {r : Rt} {f : D → Sto → Rt} {Q : VK} {E : XK} (h : Res Γ m st.length H (MP.bindO r f) Q E) (hm : ∀ a st', r = some (a, st') → st.length ≤ st'.length) (hf : MonoF f) :
    Res Γ m st.length H r (fun v H1 => ∃ m1 d st1, Ext m st.length m1 ∧ Keep H H1 ∧ st.length ≤ st1.length ∧ StR Γ m1 st1 H1 ∧ Rv Γ.K m1 st1.length H1 d v ∧ Res Γ m1 st1.length H1 (f d st1) Q E) EF := by
  match r, h, hm with
  | some (.ok d, st1), h, hm =>
    have hl := hm _ _ rfl
    refine ⟨hl, fun m1 H1 v e k s rv => ⟨m1, d, st1, e, k, hl, s, rv, ?_⟩⟩
    have h : Res Γ m st.length H (f d st1) Q E := h
    exact h.mono e k hl fun a st' q => hf d st1 a st' q
  | some (.exc c fs, st1), h, hm => exact h.elim
def wipeL (ls : Ls) : List Nat → Ls
  | [] => ls
  | v :: vs => (wipeL ls vs).set v none
theorem wipeL_some {ls : Ls} {i : Nat} {d : D} : ∀ {vs : List Nat}, (wipeL ls vs)[i]? = some (some d) → ls[i]? = some (some d) ∧ i ∉ vs
  | [], h => ⟨h, by simp⟩
  | v :: vs, h => by
    unfold wipeL at h
    by_cases hi : v = i
    · subst hi
      by_cases hv : v < (wipeL ls vs).length
      · rw [List.getElem?_set_self hv] at h; cases h
      · rw [List.getElem?_eq_none (by simpa using hv)] at h; cases h
    · rw [List.getElem?_set_ne hi] at h
      obtain ⟨h1, h2⟩ := wipeL_some h
      exact ⟨h1, by simp only [List.mem_cons, not_or]; exact ⟨fun e => hi e.symm, h2⟩⟩
theorem wipeL_length (ls : Ls) : ∀ vs : List Nat, (wipeL ls vs).length = ls.length
  | [] => rfl
  | v :: vs => by unfold wipeL; rw [List.length_set, wipeL_length ls vs]
theorem LsR.wipe {Γ : Gam} {m : Nat → Addr} {L : Nat} {H : Hp} {ls : Ls} {σ : L2.St} (h : LsR Γ m L H ls σ) (vs : List Nat) : LsR Γ m L H (wipeL ls vs) (L2.wipe σ vs) := by
  refine ⟨by rw [wipeL_length, wipe_length, h.len], fun i d q => ?_⟩
  obtain ⟨q1, q2⟩ := wipeL_some q
  rw [wipe_out q2]
  exact h.at_ i d q1
def compD (gd : Option (Nat × List D)) (t : Tg) (dt de : De) (k : Nat) (lsw : Ls) : List D → Sto → Rt
  | [], st => if gdB gd st then okD (.obj k) st else none
  | d :: r, st => if gdB gd st then
      match asg t d lsw with
      | some ls1 => bindO (dt ls1 st) fun b st2 => match b with
        | .bl false => compD gd t dt de k lsw r st2
        | .bl true => bindO (de ls1 st2) fun y st3 => match st3[k]? with
          | some (.lst false acc) => if acc.length < LINE then compD gd t dt de k lsw r (st3.set k (.lst false (acc ++ [y]))) else none
          | _ => none
        | _ => none
      | none => none
    else none
/-- what follows the test, what follows the item -/
def compK (gd : Option (Nat × List D)) (t : Tg) (dt de : De) (k : Nat) (lsw : Ls) (r : List D) (y : D) (st3 : Sto) : Rt := match st3[k]? with
  | some (.lst false acc) => if acc.length < LINE then compD gd t dt de k lsw r (st3.set k (.lst false (acc ++ [y]))) else none
  | _ => none
def compJ (gd : Option (Nat × List D)) (t : Tg) (dt de : De) (k : Nat) (lsw ls1 : Ls) (r : List D) (b : D) (st2 : Sto) : Rt := match b with
  | .bl false => compD gd t dt de k lsw r st2
  | .bl true => bindO (de ls1 st2) (compK gd t dt de k lsw r)
  | _ => none
theorem compD_mono {gd : Option (Nat × List D)} {t : Tg} {dt de : De} {k : Nat} {lsw : Ls} (mt : Mono dt) (me : Mono de) : ∀ (items : List D) (st : Sto) (r : Rs) (st' : Sto), compD gd t dt de k lsw items st = some (r, st') → st.length ≤ st'.length
  | [], st, r, st', h => by
    unfold compD at h
    split at h
    · exact mono_ok h
    · cases h
  | d :: items, st, r, st', h => by
    unfold compD at h
    split at h
    · split at h
      · rename_i ls1 e
        refine bindO_mono (fun a s z => mt ls1 st a s z) (fun b st2 r st' h => ?_) r st' h
        split at h
        · exact compD_mono mt me items _ _ _ h
        · refine bindO_mono (fun a s z => me ls1 _ a s z) (fun y st3 r st' h => ?_) r st' h
          split at h
          · split at h
            · have z := compD_mono mt me items _ _ _ h
              rw [List.length_set] at z
              exact z
            · cases h
          · cases h
        · cases h
      · cases h
    · cases h
theorem compK_mono {gd : Option (Nat × List D)} {t : Tg} {dt de : De} {k : Nat} {lsw : Ls} (mt : Mono dt) (me : Mono de) {r : List D} : MonoF (compK gd t dt de k lsw r) := fun y st3 a st' h => by
  unfold compK at h
  split at h
  · split at h
    · have z := compD_mono mt me r _ _ _ h
      rw [List.length_set] at z
      exact z
    · cases h
  · cases h
theorem compJ_mono {gd : Option (Nat × List D)} {t : Tg} {dt de : De} {k : Nat} {lsw ls1 : Ls} (mt : Mono dt) (me : Mono de) {r : List D} : MonoF (compJ gd t dt de k lsw ls1 r) := fun y st3 a st' h => by
  unfold compJ at h
  split at h
  · exact compD_mono mt me r _ _ _ h
  · exact bindO_mono (fun a s z => me ls1 _ a s z) (compK_mono mt me) a st' h
  · cases h
theorem compD_cons {gd : Option (Nat × List D)} {t : Tg} {dt de : De} {k : Nat} {lsw ls1 : Ls} {d : D} {r : List D} {st : Sto} (hg : gdB gd st = true) (ha : asg t d lsw = some ls1) : compD gd t dt de k lsw (d :: r) st = bindO (dt ls1 st) (compJ gd t dt de k lsw ls1 r) := by
  rw [compD, if_pos hg, ha]
  rfl
def dLc (di : Di) (t : Tg) (dt de : De) (vs : List Nat) : De := fun ls st => match di ls st with
  | some (.it items gd, st1) => compD gd t dt de st1.length (wipeL ls vs) items (st1 ++ [.lst false []])
  | some (.exc c fs, st1) => some (.exc c fs, st1)
  | none => none
theorem mono_lc {di : Di} {t : Tg} {dt de : De} {vs : List Nat} (mi : MonoI di) (mt : Mono dt) (me : Mono de) : Mono (dLc di t dt de vs) := fun ls st r st' h => by
  unfold dLc at h
  split at h
  · rename_i items gd st1 e
    have z := compD_mono mt me items _ _ _ h
    rw [List.length_append] at z
    exact Nat.le_trans (mi _ _ _ _ e) (Nat.le_trans (Nat.le_add_right _ _) z)
  · rename_i c fs st1 e
    cases h
    exact mi _ _ _ _ e
  · cases h
def dYes : De := fun _ st => okD (.bl true) st
theorem mono_yes : Mono dYes := fun ls st r st' h => mono_ok h
theorem wipe_same {σ σ' : L2.St} {vs : List Nat} (hl : σ'.length = (wipe σ vs).length) (h : ∀ j, j ∉ vs → σ'[j]? = (wipe σ vs)[j]?) : wipe σ' vs = wipe σ vs := by
  have at_ : ∀ (vs : List Nat) (σ : L2.St) (j : Nat), j ∈ vs → (wipe σ vs)[j]? = if j < σ.length then some none else none := by
    intro vs
    induction vs with
    | nil => intro σ j hj; cases hj
    | cons v vs ih =>
      intro σ j hj
      unfold wipe
      by_cases e : v = j
      · subst e
        by_cases hv : v < (wipe σ vs).length
        · rw [List.getElem?_set_self hv, if_pos (by rwa [wipe_length] at hv)]
        · rw [List.getElem?_eq_none (by simpa using hv), if_neg (by rwa [wipe_length] at hv)]
      · rw [List.getElem?_set_ne e]
        refine ih σ j ?_
        rcases List.mem_cons.mp hj with z | z
        · exact absurd z.symm e
        · exact z
  apply List.ext_getElem?
  intro j
  by_cases hj : j ∈ vs
  · rw [at_ vs σ' j hj, at_ vs σ j hj, hl, wipe_length]
  · rw [wipe_out hj, h j hj]
section
variable {X : Cx} {Γ : Gam} {W : WX} {e a b c o tg iter elt : Expr} {ifs : List Expr} {da db dc dt de : De} {pos p2 : Pos} {es rest : List Expr} {das : List De} {t : Tg} {di : Di} {scope : Scope} {own : List (Str × Nat)}
theorem pts_yes : PTs X [] (tT Γ WF dYes) := ⟨fun pins s σ H Q I ⟨m, ls, st, s0, l, h⟩ => by
  obtain ⟨k, e, q⟩ := h.ok s0 (.bl true)
  cases e
  exact pts_nil.run pins s σ H Q I q⟩
theorem tLc_of (mi : MonoI di) (mt : Mono dt) (me : Mono de) {vs : List Nat} (hv : ∀ j ∈ tslots t, j ∈ vs) {σ : L2.St} {H : Hp} {Q : VK} (h : tD Γ W (dLc di t dt de vs) σ H Q) : tLc (tI Γ W di) (tG Γ t) (tT Γ WF dt) (tD Γ WF de) vs σ H Q := by
  obtain ⟨m, ls, st, s, l, h⟩ := h
  refine ⟨m, ls, st, s, l, ?_⟩
  unfold dLc at h
  have mi := fun r st' q => mi ls st r st' q
  match di ls st, h, mi with
  | some (.exc c fs, st1), h, _ => exact h
  | some (.it items gd, st1), h, mi =>
    have hl := mi _ _ rfl
    refine ⟨hl, fun m1 H1 J e1 k1 s1 hit D hD => ?_⟩
    have h : Res Γ m st.length H (compD gd t dt de st1.length (wipeL ls vs) items (st1 ++ [.lst false []])) Q (fun c d H' => W c d σ H') := h
    have kD : Keep H1 (upd H1 D (.lst [])) := .new hD
    have eD : Ext m1 st1.length (extM m1 st1.length D) := extM_ext
    have sD := s1.push (p := D) (c := .lst false []) (o := .lst []) hD ⟨[], upd_same, .nil⟩
    have hlen : (st1 ++ [Cell.lst false []]).length = st1.length + 1 := by rw [List.length_append, List.length_singleton]
    refine ⟨fun i k H2 => k = items.length - i ∧ i ≤ items.length ∧ ∃ m2 st2, Ext (extM m1 st1.length D) (st1.length + 1) m2 ∧ st1.length + 1 ≤ st2.length ∧ Keep (upd H1 D (.lst [])) H2 ∧ StR Γ m2 st2 H2 ∧
      Res Γ m2 st2.length H2 (compD gd t dt de st1.length (wipeL ls vs) (items.drop i) st2) Q (fun c d H' => W c d σ H'), ⟨items.length, rfl, Nat.zero_le _, extM m1 st1.length D, st1 ++ [.lst false []], Ext.refl _ _, by rw [hlen]; exact Nat.le_refl _, Keep.refl _, sD, ?_⟩, ?_⟩
    · refine h.mono (e1.trans eD hl) (k1.trans kD) (by rw [hlen]; exact Nat.le_trans hl (Nat.le_succ _)) fun a st' q => ?_
      exact compD_mono mt me _ _ _ _ q
    · rintro i k H2 ⟨rfl, hi, m2, st2, e2, hl2, k2, s2, q2⟩
      have e12 : Ext m1 st1.length m2 := eD.trans e2 (Nat.le_succ _)
      have l2 : LsR Γ m2 st2.length H2 (wipeL ls vs) (wipe σ vs) := ((l.mono e1 hl k1).mono e12 (Nat.le_trans (Nat.le_succ _) hl2) (kD.trans k2)).wipe vs
      have hguard : gdB gd st2 = true := by
        by_cases c : gdB gd st2 = true
        · exact c
        · cases e : items.drop i with
          | nil => rw [e, compD, if_neg c] at q2; exact q2.elim
          | cons d r => rw [e, compD, if_neg c] at q2; exact q2.elim
      obtain ⟨hstop, hgo⟩ := hit i m2 st2 H2 hi e12 (Nat.le_trans (Nat.le_succ _) hl2) (kD.trans k2) s2 hguard
      have mD2 : m2 st1.length = D := by rw [e2 _ (Nat.lt_succ_self _), extM_new]
      by_cases hlt : i < items.length
      · refine .inr ⟨(hgo hlt).1, fun H' => ∃ m2 st2, Ext (extM m1 st1.length D) (st1.length + 1) m2 ∧ st1.length + 1 ≤ st2.length ∧ Keep (upd H1 D (.lst [])) H' ∧ StR Γ m2 st2 H' ∧
          Res Γ m2 st2.length H' (compD gd t dt de st1.length (wipeL ls vs) (items.drop (i + 1)) st2) Q (fun c d H' => W c d σ H'), fun H' n => ⟨_, by omega, rfl, hlt, n⟩, fun x H3 y => ?_⟩
        obtain ⟨d, hd, k3, s3, rd⟩ := (hgo hlt).2 x H3 y
        have hdrop : items.drop i = d :: items.drop (i + 1) := by
          rw [List.drop_eq_getElem_cons hlt]
          have : items[i] = d := by
            rw [List.getElem?_eq_getElem hlt] at hd
            exact Option.some.inj hd
          rw [this]
        rw [hdrop] at q2
        cases ea : asg t d (wipeL ls vs) with
        | none =>
          rw [compD, if_pos hguard, ea] at q2
          exact q2.elim
        | some ls1 =>
          rw [compD_cons hguard ea] at q2
          have l3 := l2.mono (Ext.refl _ _) (Nat.le_refl _) k3
          refine ⟨m2, st2.length, wipeL ls vs, d, ls1, l3, rd, ea, fun σ3 hl3 hk3 => ⟨wipe_same (by rw [← hl3.len, asg_len ea, l3.len]) fun j hj => hk3 j fun z => hj (hv j z), ?_⟩⟩
          have q3 := q2.mono (Ext.refl _ _) k3 (Nat.le_refl _) fun a st' q => bindO_mono (fun a s z => mt ls1 st2 a s z) (compJ_mono mt me) a st' q
          refine ⟨m2, ls1, st2, s3, hl3, (Res.bindO q3 (fun a st' q => mt ls1 st2 a st' q) (compJ_mono mt me)).imp fun v H4 ⟨m4, d4, st4, e4, k4, hl4, s4, r4, q4⟩ => ?_⟩
          unfold compJ at q4
          split at q4
          · cases r4
            refine ⟨false, rfl, iteF ⟨m4, st4, e2.trans e4 hl2, Nat.le_trans hl2 hl4, (k2.trans k3).trans k4, s4, q4⟩⟩
          · cases r4
            refine ⟨true, rfl, iteT ?_⟩
            refine ⟨m4, ls1, st4, s4, hl3.mono e4 hl4 k4, (Res.bindO q4 (fun a st' q => me ls1 st4 a st' q) (compK_mono mt me)).imp fun v H5 ⟨m5, d5, st5, e5, k5, hl5, s5, r5, q5⟩ => ?_⟩
            unfold compK at q5
            split at q5
            · rename_i acc eacc
              split at q5
              · rename_i hacc
                obtain ⟨ws, hw, rw'⟩ := s5.lst eacc
                have mD5 : m5 st1.length = D := by rw [e5 _ (Nat.lt_of_lt_of_le (Nat.lt_of_lt_of_le (Nat.lt_succ_self _) hl2) hl4), e4 _ (Nat.lt_of_lt_of_le (Nat.lt_succ_self _) hl2), mD2]
                rw [mD5] at hw
                refine ⟨ws, hw, by rw [← rw'.length]; exact line_lt hacc, ?_⟩
                have k6 : Keep H5 (upd H5 D (.lst (ws ++ [v]))) := .put hw .lst
                have s6 := s5.put (o := .lst (ws ++ [v])) (c' := .lst false (acc ++ [d5])) eacc rfl rfl ⟨_, by rw [mD5]; exact upd_same, (rw'.snoc r5).mono (Ext.refl _ _) (Nat.le_refl _) (by rw [mD5]; exact k6)⟩
                rw [mD5] at s6
                have hl6 : (st5.set st1.length (Cell.lst false (acc ++ [d5]))).length = st5.length := List.length_set
                refine ⟨m5, st5.set st1.length (.lst false (acc ++ [d5])), e2.trans (e4.trans e5 hl4) hl2, by rw [hl6]; exact Nat.le_trans hl2 (Nat.le_trans hl4 hl5), ((k2.trans k3).trans k4).trans (k5.trans k6), s6, ?_⟩
                rw [hl6]
                refine q5.mono (Ext.refl _ _) k6 (Nat.le_refl _) fun a st' q => ?_
                have z := compD_mono mt me _ _ _ _ q
                rw [hl6] at z
                exact z
              · exact q5.elim
            · exact q5.elim
          · exact q4.elim
      · have e : i = items.length := by omega
        refine .inl ⟨hstop e, ?_⟩
        rw [e, List.drop_length, compD, if_pos hguard] at q2
        have z : Rv Γ.K m2 st2.length H2 (.obj st1.length) (.ref D) := by
          rw [← mD2]
          exact .obj (Nat.lt_of_lt_of_le (Nat.lt_succ_self _) hl2)
        exact q2.ok s2 z
/-- [elt for tg in iter if ifs] -/
theorem sim_lc (hc : X.calm = true) (hN : X.N.Nodup) (hi : SimI X Γ W tg iter di) (ok : BlkOk X.N X.env.scope scope own) (mt : Mono dt) (me : Mono de) (hv : ∀ j ∈ tslots t, j ∈ own.map (·.2))
    (hg : ∀ (s : Shared) (H : Hp) (C : Addr) (cl : List (Str × Addr)) (fp : List Addr), PG (X.blk s H scope (compEnvC scope cl C X.env) fp) tg (tG Γ t)) (ht : ∀ (s : Shared) (H : Hp) (C : Addr) (cl : List (Str × Addr)) (fp : List Addr), PTs (X.blk s H scope (compEnvC scope cl C X.env) fp) ifs (tT Γ WF dt))
    (he : ∀ (s : Shared) (H : Hp) (C : Addr) (cl : List (Str × Addr)) (fp : List Addr), PE (X.blk s H scope (compEnvC scope cl C X.env) fp) elt (tD Γ WF de)) (hs : ∀ x, foldedSetIterable iter X.env x = pure x) :
    Sim X Γ W (.ListComp elt [⟨tg, iter, ifs, 0⟩] scope pos) (dLc di t dt de (own.map (·.2))) :=
  ⟨mono_lc hi.mono mt me, (pe_lc hc hN hi.pi ok hg ht he hs).imp fun σ H Q h => tLc_of hi.mono mt me hv h⟩
end
end MP
end
section
set_option maxRecDepth 100000
set_option maxHeartbeats 1000000
namespace MP
open PySem L2

/-! ### statements -/
inductive Fl where
  | next | brk | cont
  | ret (d : D)
  | exc (c : Str) (fs : List (Str × D))
abbrev Rss := Option (Fl × Ls × Sto)
abbrev Ds := Ls → Sto → Rss
def OutS (Γ : Gam) (m : Nat → Addr) (L : Nat) (H : Hp) (ls' : Ls) (st' : Sto) (P : L2.St → Hp → Prop) : Prop := L ≤ st'.length ∧ ∀ m' H' σ', Ext m L m' → Keep H H' → StR Γ m' st' H' → LsR Γ m' st'.length H' ls' σ' → P σ' H'
def ResS (Γ : Gam) (m : Nat → Addr) (L : Nat) (H : Hp) (r : Rss) (D : Ends) (W : WX) : Prop := match r with
  | none => False
  | some (.next, ls', st') => OutS Γ m L H ls' st' D.nx
  | some (.brk, ls', st') => OutS Γ m L H ls' st' D.bk
  | some (.cont, ls', st') => OutS Γ m L H ls' st' D.ct
  | some (.ret d, ls', st') => L ≤ st'.length ∧ AfterOk Γ m L H st' d D.rt
  | some (.exc c fs, ls', st') => L ≤ st'.length ∧ ∀ m' H' σ' dd, Ext m L m' → Keep H H' → StR Γ m' st' H' → LsR Γ m' st'.length H' ls' σ' → ExcR Γ m' st'.length H' fs dd → W (.ref (Γ.cl c)) dd σ' H'
section
variable {Γ : Gam} {m m' : Nat → Addr} {L L' : Nat} {H H' : Hp} {r : Rss} {D D' : Ends} {W : WX}
theorem OutS.mono {ls : Ls} {st : Sto} {P : L2.St → Hp → Prop} (h : OutS Γ m L H ls st P) (e : Ext m L m') (k : Keep H H') (hL : L ≤ L') (hr : L' ≤ st.length) : OutS Γ m' L' H' ls st P := ⟨hr, fun m2 H2 σ e2 k2 s2 l2 => h.2 m2 H2 σ (e.trans e2 hL) (k.trans k2) s2 l2⟩
theorem ResS.mono (h : ResS Γ m L H r D W) (e : Ext m L m') (k : Keep H H') (hL : L ≤ L') (hr : ∀ a l st', r = some (a, l, st') → L' ≤ st'.length) : ResS Γ m' L' H' r D W := by
  match r, h, hr with
  | some (.next, l, st'), h, hr => exact OutS.mono h e k hL (hr _ _ _ rfl)
  | some (.brk, l, st'), h, hr => exact OutS.mono h e k hL (hr _ _ _ rfl)
  | some (.cont, l, st'), h, hr => exact OutS.mono h e k hL (hr _ _ _ rfl)
  | some (.ret d, l, st'), ⟨_, h⟩, hr => exact ⟨hr _ _ _ rfl, fun m2 H2 v e2 k2 s2 r2 => h m2 H2 v (e.trans e2 hL) (k.trans k2) s2 r2⟩
  | some (.exc c fs, l, st'), ⟨_, h⟩, hr => exact ⟨hr _ _ _ rfl, fun m2 H2 σ dd e2 k2 s2 l2 x2 => h m2 H2 σ dd (e.trans e2 hL) (k.trans k2) s2 l2 x2⟩
/-- other ends -/
theorem ResS.imp (h : ResS Γ m L H r D W) (h1 : ∀ σ H, D.nx σ H → D'.nx σ H) (h2 : ∀ σ H, D.bk σ H → D'.bk σ H) (h3 : ∀ σ H, D.ct σ H → D'.ct σ H) (h4 : ∀ v H, D.rt v H → D'.rt v H) : ResS Γ m L H r D' W := by
  match r, h with
  | some (.next, l, st'), h => exact ⟨h.1, fun m2 H2 σ e2 k2 s2 l2 => h1 _ _ (h.2 m2 H2 σ e2 k2 s2 l2)⟩
  | some (.brk, l, st'), h => exact ⟨h.1, fun m2 H2 σ e2 k2 s2 l2 => h2 _ _ (h.2 m2 H2 σ e2 k2 s2 l2)⟩
  | some (.cont, l, st'), h => exact ⟨h.1, fun m2 H2 σ e2 k2 s2 l2 => h3 _ _ (h.2 m2 H2 σ e2 k2 s2 l2)⟩
  | some (.ret d, l, st'), ⟨hl, h⟩ => exact ⟨hl, fun m2 H2 v e2 k2 s2 r2 => h4 _ _ (h m2 H2 v e2 k2 s2 r2)⟩
  | some (.exc c fs, l, st'), h => exact h
theorem OutS.here {ls : Ls} {st : Sto} {P : L2.St → Hp → Prop} {σ : L2.St} (h : OutS Γ m st.length H ls st P) (s : StR Γ m st H) (l : LsR Γ m st.length H ls σ) : P σ H := h.2 m H σ (Ext.refl _ _) (Keep.refl _) s l
end
def MonoS (ds : Ds) : Prop := ∀ ls st a l st', ds ls st = some (a, l, st') → st.length ≤ st'.length
def tS (Γ : Gam) (W : WX) (ds : Ds) : TS := fun D σ H => ∃ m ls st, StR Γ m st H ∧ LsR Γ m st.length H ls σ ∧ ResS Γ m st.length H (ds ls st) D W
structure SimS (X : Cx) (Γ : Gam) (W : WX) (st : Stmt) (ds : Ds) : Prop where
  mono : MonoS ds
  ps : PS X st (tS Γ W ds)
structure SimB (X : Cx) (Γ : Gam) (W : WX) (st : List Stmt) (ds : Ds) : Prop where
  mono : MonoS ds
  ps : PSs X st (tS Γ W ds)
def bindS (r : Rt) (ls : Ls) (k : D → Sto → Rss) : Rss := match r with
  | some (.ok d, st1) => k d st1
  | some (.exc c fs, st1) => some (.exc c fs, ls, st1)
  | none => none
def MonoK (k : D → Sto → Rss) : Prop := ∀ d st a l st', k d st = some (a, l, st') → st.length ≤ st'.length
theorem bindS_mono {r : Rt} {ls : Ls} {k : D → Sto → Rss} {n : Nat} (h : ∀ a st', r = some (a, st') → n ≤ st'.length) (hk : MonoK k) : ∀ a l st', bindS r ls k = some (a, l, st') → n ≤ st'.length := fun a l st' q => by
  match r, h, q with
  | some (.ok d, st1), h, q => exact Nat.le_trans (h _ _ rfl) (hk d st1 a l st' q)
  | some (.exc c fs, st1), h, q =>
    cases q
    exact h _ _ rfl
section
variable {X : Cx} {Γ : Gam} {W : WX} {e a b c o tg iter : Expr} {da db dc : De} {pos pos' p2 : Pos} {es : List Expr} {das : List De} {t : Tg} {di : Di} {s1 : Stmt} {body rest orelse : List Stmt} {d1 d2 d3 : Ds}
/-- the value, then what the statement does -/
theorem tD_bindS {k : D → Sto → Rss} (ma : Mono da) {σ : L2.St} {H : Hp} {ls : Ls} {m : Nat → Addr} {st : Sto} {D : Ends} (s : StR Γ m st H) (l : LsR Γ m st.length H ls σ) (hk : MonoK k) (h : ResS Γ m st.length H (bindS (da ls st) ls k) D W) {Q : VK}
    (hQ : ∀ m1 d st1 v H1, StR Γ m1 st1 H1 → LsR Γ m1 st1.length H1 ls σ → Rv Γ.K m1 st1.length H1 d v → ResS Γ m1 st1.length H1 (k d st1) D W → st.length ≤ st1.length → Ext m st.length m1 → Keep H H1 → Q v H1) : tD Γ W da σ H Q := by
  refine ⟨m, ls, st, s, l, ?_⟩
  have ma := fun r st' q => ma ls st r st' q
  match da ls st, h, ma with
  | some (.exc c fs, st1), h, ma =>
    have hl := ma _ _ rfl
    exact ⟨hl, fun m1 H1 dd e1 k1 s1 x1 => h.2 m1 H1 σ dd e1 k1 s1 (l.mono e1 hl k1) x1⟩
  | some (.ok d, st1), h, ma =>
    have hl := ma _ _ rfl
    refine ⟨hl, fun m1 H1 v e1 k1 s1 r1 => hQ m1 d st1 v H1 s1 (l.mono e1 hl k1) r1 ?_ hl e1 k1⟩
    exact ResS.mono (r := k d st1) h e1 k1 hl fun a l st' q => hk d st1 a l st' q
/-! blocks -/
def dNext : Ds := fun ls st => some (.next, ls, st)
def dThen (a b : Ds) : Ds := fun ls st => match a ls st with
  | some (.next, ls1, st1) => b ls1 st1
  | r => r
theorem mono_next : MonoS dNext := fun ls st a l st' h => by cases h; exact Nat.le_refl _
theorem mono_then (h1 : MonoS d1) (h2 : MonoS d2) : MonoS (dThen d1 d2) := fun ls st a l st' h => by
  unfold dThen at h
  have h1 := fun a l st' q => h1 ls st a l st' q
  match d1 ls st, h, h1 with
  | some (.next, ls1, st1), h, h1 => exact Nat.le_trans (h1 _ _ _ rfl) (h2 _ _ _ _ _ h)
  | some (.brk, ls1, st1), h, h1 => exact h1 _ _ _ h
  | some (.cont, ls1, st1), h, h1 => exact h1 _ _ _ h
  | some (.ret d, ls1, st1), h, h1 => exact h1 _ _ _ h
  | some (.exc c fs, ls1, st1), h, h1 => exact h1 _ _ _ h
  | none, h, h1 => cases h
theorem sb_nil : SimB X Γ W [] dNext := ⟨mono_next, pss_nil.imp fun D σ H ⟨m, ls, st, s, l, h⟩ => OutS.here h s l⟩
theorem tS_then {σ : L2.St} {H : Hp} {D : Ends} (h1 : MonoS d1) (h2 : MonoS d2) (h : tS Γ W (dThen d1 d2) D σ H) : tS Γ W d1 { D with nx := tS Γ W d2 D } σ H := by
  obtain ⟨m, ls, st, s, l, h⟩ := h
  refine ⟨m, ls, st, s, l, ?_⟩
  unfold dThen at h
  have h1 := fun a l st' q => h1 ls st a l st' q
  match d1 ls st, h, h1 with
  | some (.next, ls1, st1), h, h1 =>
    have hl := h1 _ _ _ rfl
    exact ⟨hl, fun m1 H1 σ1 e1 k1 s1 l1 => ⟨m1, ls1, st1, s1, l1, ResS.mono (r := d2 ls1 st1) h e1 k1 hl fun a l st' q => h2 _ _ _ _ _ q⟩⟩
  | some (.brk, ls1, st1), h, h1 => exact h
  | some (.cont, ls1, st1), h, h1 => exact h
  | some (.ret d, ls1, st1), h, h1 => exact h
  | some (.exc c fs, ls1, st1), h, h1 => exact h
theorem sb_cons (h1 : SimS X Γ W s1 d1) (h2 : SimB X Γ W rest d2) : SimB X Γ W (s1 :: rest) (dThen d1 d2) := ⟨mono_then h1.mono h2.mono, (pss_cons h1.ps h2.ps).imp fun D σ H h => tS_then h1.mono h2.mono h⟩
theorem sb_one (h1 : SimS X Γ W s1 d1) : SimB X Γ W [s1] d1 := ⟨h1.mono, pss_one h1.ps⟩
/-! small statements -/
theorem ss_pass : SimS X Γ W (.Pass pos) dNext := ⟨mono_next, ps_pass.imp fun D σ H ⟨m, ls, st, s, l, h⟩ => OutS.here h s l⟩
def dBrk : Ds := fun ls st => some (.brk, ls, st)
def dCont : Ds := fun ls st => some (.cont, ls, st)
theorem ss_brk : SimS X Γ W (.Break pos) dBrk := ⟨fun ls st a l st' h => by cases h; exact Nat.le_refl _, ps_break.imp fun D σ H ⟨m, ls, st, s, l, h⟩ => OutS.here h s l⟩
theorem ss_cont : SimS X Γ W (.Continue pos) dCont := ⟨fun ls st a l st' h => by cases h; exact Nat.le_refl _, ps_continue.imp fun D σ H ⟨m, ls, st, s, l, h⟩ => OutS.here h s l⟩
def dExpr (da : De) : Ds := fun ls st => bindS (da ls st) ls fun _ st1 => some (.next, ls, st1)
theorem monoK_next {ls : Ls} : MonoK fun _ st1 => some (.next, ls, st1) := fun d st a l st' h => by cases h; exact Nat.le_refl _
theorem ss_expr (ha : Sim X Γ W e da) (hs : swapsWith e none pos.line X.env = pure false) : SimS X Γ W (.Expr e pos) (dExpr da) := by
  refine ⟨fun ls st a l st' h => bindS_mono (fun a s z => ha.mono ls st a s z) monoK_next a l st' h, (ps_expr ha.pe hs).imp fun D σ H ⟨m, ls, st, s, l, h⟩ => ?_⟩
  exact tD_bindS ha.mono s l monoK_next h fun m1 d st1 v H1 s1 l1 r1 q _ _ _ => OutS.here q s1 l1
def dRet (da : De) : Ds := fun ls st => bindS (da ls st) ls fun d st1 => some (.ret d, ls, st1)
theorem monoK_ret {ls : Ls} : MonoK fun d st1 => some (.ret d, ls, st1) := fun d st a l st' h => by cases h; exact Nat.le_refl _
theorem ss_ret (ha : Sim X Γ W e da) : SimS X Γ W (.Return (some e) pos) (dRet da) := by
  refine ⟨fun ls st a l st' h => bindS_mono (fun a s z => ha.mono ls st a s z) monoK_ret a l st' h, (ps_ret ha.pe).imp fun D σ H ⟨m, ls, st, s, l, h⟩ => ?_⟩
  exact tD_bindS ha.mono s l monoK_ret h fun m1 d st1 v H1 s1 l1 r1 q _ _ _ => q.2 m1 H1 v (Ext.refl _ _) (Keep.refl _) s1 r1
def dRetN : Ds := fun ls st => some (.ret .non, ls, st)
theorem ss_retN : SimS X Γ W (.Return none pos) dRetN := ⟨fun ls st a l st' h => by cases h; exact Nat.le_refl _, ps_retN.imp fun D σ H ⟨m, ls, st, s, l, h⟩ => h.2 m H .non (Ext.refl _ _) (Keep.refl _) s .non⟩
/-! target = e -/
def asgK (t : Tg) (ls : Ls) (d : D) (st1 : Sto) : Rss := match asg t d ls with | some ls1 => some (.next, ls1, st1) | none => none
def dAsg (da : De) (t : Tg) : Ds := fun ls st => bindS (da ls st) ls (asgK t ls)
theorem monoK_asg {ls : Ls} : MonoK (asgK t ls) := fun d st a l st' h => by
  unfold asgK at h
  split at h
  · cases h; exact Nat.le_refl _
  · cases h
theorem mono_asg (ma : Mono da) : MonoS (dAsg da t) := fun ls st a l st' h => bindS_mono (fun a s z => ma ls st a s z) monoK_asg a l st' h
theorem tAsg_of (ma : Mono da) {σ : L2.St} {H : Hp} {D : Ends} (h : tS Γ W (dAsg da t) D σ H) : tAsg (tD Γ W da) (tG Γ t) D σ H := by
  obtain ⟨m, ls, st, s, l, h⟩ := h
  refine tD_bindS ma s l monoK_asg h fun m1 d st1 v H1 s1 l1 r1 q _ _ _ => ?_
  unfold asgK at q
  split at q
  · rename_i ls1 e
    exact ⟨m1, st1.length, ls, d, ls1, l1, r1, e, fun σ' hl hk => OutS.here q s1 hl⟩
  · exact q.elim
theorem ss_asg (ha : Sim X Γ W e da) (hg : PG X tg (tG Γ t)) (hs : swapsWithSole [tg] e pos.line X.env = pure false) (hw : swappedStores [tg] e X.env = pure none) (h1 : (assignEach [tg] X.env).map (·.2) = [assign tg X.env]) : SimS X Γ W (.Assign [tg] e pos) (dAsg da t) :=
  ⟨mono_asg ha.mono, (ps_asg ha.pe hg hs hw h1).imp fun D σ H h => tAsg_of ha.mono h⟩
theorem tAsg_name {i : Nat} {te : TE} {σ : L2.St} {H : Hp} {D : Ends} (h : tAsg te (tG Γ (.nm i)) D σ H) (hm : ∀ σ H Q Q', (∀ v H, Q v H → Q' v H) → te σ H Q → te σ H Q') : tAsg te (gName i) D σ H := by
  refine hm σ H _ _ (fun v H1 q => ?_) h
  obtain ⟨m, L, ls, d, ls', l, r, e, q⟩ := q
  unfold asg at e
  cases e
  refine q _ (l.set i r) fun j hj => ?_
  rw [List.getElem?_set_ne]
  rintro rfl
  exact hj (by rw [tslots]; exact List.mem_singleton.mpr rfl)
theorem tD_mono {σ : L2.St} {H : Hp} {Q Q' : VK} (q : ∀ v H, Q v H → Q' v H) (h : tD Γ W da σ H Q) : tD Γ W da σ H Q' := by
  obtain ⟨m, ls, st, s, l, h⟩ := h
  exact ⟨m, ls, st, s, l, h.imp q⟩
theorem ss_set {i : Nat} {x : Str} (hN : X.N.Nodup) (hi : X.N[i]? = some x) (hx : Loc X.env.scope x) (ha : Sim X Γ W e da) (hs : swapsWith e (some (.Name x pos')) pos.line X.env = pure false) (hf : X.fn x = true ∨ X.env.scope.names.lookup x = some .local) :
    SimS X Γ W (.Assign [.Name x pos'] e pos) (dAsg da (.nm i)) :=
  ⟨mono_asg ha.mono, (ps_set hN hi hx ha.pe hs hf).imp fun D σ H h => tAsg_name (tAsg_of ha.mono h) fun _ _ _ _ q z => tD_mono q z⟩
/-! a, b = x, y -/
theorem ss_par {i j : Nat} {x y : Str} {px py pt : Pos} {kt k2 pt2} (hc : X.calm = true) (hN : X.N.Nodup) (hi : X.N[i]? = some x) (hj : X.N[j]? = some y) (hij : i ≠ j) (hx : X.env.scope.names.lookup x = some .local) (hy : X.env.scope.names.lookup y = some .local) (ha : SimA X Γ W [a, b] das) (hd : das.length = 2)
    (hw : swappedStores [.Tuple [.Name x px, .Name y py] kt pt] (.Tuple [a, b] k2 pt2) X.env = pure (some [x, y])) (hs : swapsWithSole [.Tuple [.Name x px, .Name y py] kt pt] (.Tuple [a, b] k2 pt2) pos.line X.env = pure false) :
    SimS X Γ W (.Assign [.Tuple [.Name x px, .Name y py] kt pt] (.Tuple [a, b] k2 pt2) pos) (dAsg (dApp fTup das) (.tp [.nm i, .nm j])) := by
  refine ⟨mono_asg (mono_app ha.mono mono_fTup), (ps_par hc hN hi hj hij hx hy ha.pa hw hs).imp fun D σ H ⟨m, ls, st, s, l, h⟩ => ?_⟩
  refine ⟨m, ls, st, s, l, ?_⟩
  have ma := fun r st' q => ha.mono ls st r st' q
  have hlen := fun ds st' (q : evA das ls st = some (.ok ds, st')) => (evA_len q).trans hd
  unfold dAsg dApp at h
  match evA das ls st, h, ma, hlen with
  | some (.exc c fs, st1), h, ma, _ =>
    have hl := ma _ _ rfl
    exact ⟨hl, fun m1 H1 dd e1 k1 s1 x1 => h.2 m1 H1 σ dd e1 k1 s1 (l.mono e1 hl k1) x1⟩
  | some (.ok ds, st1), h, ma, hlen =>
    have hl := ma _ _ rfl
    refine ⟨hl, fun m1 H1 vs e1 k1 s1 r1 => ?_⟩
    have hds := hlen _ _ rfl
    match ds, r1, hds, h with
    | [d, d'], .cons (v := v) ra (.cons (v := w) rb .nil), _, h =>
      have h : ResS Γ m st.length H (some (.next, (ls.set i (some d)).set j (some d'), st1)) D W := h
      exact ⟨v, w, rfl, h.2 m1 H1 _ e1 k1 s1 (((l.mono e1 hl k1).set i ra).set j rb)⟩
/-! if -/
def ifK (d1 d2 : Ds) (ls : Ls) (d : D) (st1 : Sto) : Rss := match d with
  | .bl true => d1 ls st1
  | .bl false => d2 ls st1
  | _ => none
def dIfS (da : De) (d1 d2 : Ds) : Ds := fun ls st => bindS (da ls st) ls (ifK d1 d2 ls)
theorem monoK_if {ls : Ls} (h1 : MonoS d1) (h2 : MonoS d2) : MonoK (ifK d1 d2 ls) := fun d st a l st' h => by
  unfold ifK at h
  split at h
  · exact h1 _ _ _ _ _ h
  · exact h2 _ _ _ _ _ h
  · cases h
theorem ss_if (hc : SimT X Γ W c dc) (h1 : SimB X Γ W body d1) (h2 : SimB X Γ W orelse d2) : SimS X Γ W (.If c body orelse pos) (dIfS dc d1 d2) := by
  refine ⟨fun ls st a l st' h => bindS_mono (fun a s z => hc.mono ls st a s z) (monoK_if h1.mono h2.mono) a l st' h, (ps_if hc.pt h1.ps h2.ps).imp fun D σ H ⟨m, ls, st, s, l, h⟩ => ?_⟩
  refine tD_bindS hc.mono s l (monoK_if h1.mono h2.mono) h fun m1 d st1 v H1 s1 l1 r1 q _ _ _ => ?_
  unfold ifK at q
  split at q
  · cases r1
    exact ⟨true, rfl, iteT ⟨m1, ls, st1, s1, l1, q⟩⟩
  · cases r1
    exact ⟨false, rfl, iteF ⟨m1, ls, st1, s1, l1, q⟩⟩
  · exact q.elim
/-! for -/
def forD (gd : Option (Nat × List D)) (t : Tg) (db : Ds) : List D → Ls → Sto → Rss
  | [], ls, st => if gdB gd st then some (.next, ls, st) else none
  | d :: r, ls, st => if gdB gd st then
      match asg t d ls with
      | some ls1 => match db ls1 st with
        | some (.next, ls2, st2) => forD gd t db r ls2 st2
        | some (.cont, ls2, st2) => forD gd t db r ls2 st2
        | some (.brk, ls2, st2) => some (.next, ls2, st2)
        | some (.ret d, ls2, st2) => some (.ret d, ls2, st2)
        | some (.exc c fs, ls2, st2) => some (.exc c fs, ls2, st2)
        | none => none
      | none => none
    else none
theorem forD_mono {gd : Option (Nat × List D)} (hb : MonoS d1) : ∀ (items : List D) (ls : Ls) (st : Sto) (a : Fl) (l : Ls) (st' : Sto), forD gd t d1 items ls st = some (a, l, st') → st.length ≤ st'.length
  | [], ls, st, a, l, st', h => by
    unfold forD at h
    split at h
    · cases h; exact Nat.le_refl _
    · cases h
  | d :: r, ls, st, a, l, st', h => by
    unfold forD at h
    split at h
    · split at h
      · rename_i ls1 e
        have hb' := fun a l st' q => hb ls1 st a l st' q
        split at h
        · rename_i e2
          exact Nat.le_trans (hb' _ _ _ e2) (forD_mono hb r _ _ _ _ _ h)
        · rename_i e2
          exact Nat.le_trans (hb' _ _ _ e2) (forD_mono hb r _ _ _ _ _ h)
        · rename_i e2
          cases h
          exact hb' _ _ _ e2
        · rename_i e2
          cases h
          exact hb' _ _ _ e2
        · rename_i e2
          cases h
          exact hb' _ _ _ e2
        · cases h
      · cases h
    · cases h
def dFor (di : Di) (t : Tg) (db : Ds) : Ds := fun ls st => match di ls st with
  | some (.it items gd, st1) => forD gd t db items ls st1
  | some (.exc c fs, st1) => some (.exc c fs, ls, st1)
  | none => none
theorem tFor_of (mi : MonoI di) (hb : MonoS d1) {σ : L2.St} {H : Hp} {D : Ends} (h : tS Γ W (dFor di t d1) D σ H) : tFor (tI Γ W di) (tG Γ t) (tS Γ W d1) D σ H := by
  obtain ⟨m, ls, st, s, l, h⟩ := h
  refine ⟨m, ls, st, s, l, ?_⟩
  unfold dFor at h
  have mi := fun r st' q => mi ls st r st' q
  match di ls st, h, mi with
  | some (.exc c fs, st1), h, mi =>
    have hl := mi _ _ rfl
    exact ⟨hl, fun m1 H1 dd e1 k1 s1 x1 => h.2 m1 H1 σ dd e1 k1 s1 (l.mono e1 hl k1) x1⟩
  | some (.it items gd, st1), h, mi =>
    have hl := mi _ _ rfl
    refine ⟨hl, fun m1 H1 J e1 k1 s1 hit => ?_⟩
    have h : ResS Γ m st.length H (forD gd t d1 items ls st1) D W := h
    refine ⟨fun i k σ2 H2 => k = items.length - i ∧ i ≤ items.length ∧ ∃ m2 ls2 st2, Ext m1 st1.length m2 ∧ st1.length ≤ st2.length ∧ Keep H1 H2 ∧ StR Γ m2 st2 H2 ∧ LsR Γ m2 st2.length H2 ls2 σ2 ∧
      ResS Γ m2 st2.length H2 (forD gd t d1 (items.drop i) ls2 st2) D W, ⟨items.length, rfl, Nat.zero_le _, m1, ls, st1, Ext.refl _ _, Nat.le_refl _, Keep.refl _, s1, l.mono e1 hl k1, ?_⟩, ?_⟩
    · exact ResS.mono (r := forD gd t d1 items ls st1) h e1 k1 hl fun a l st' q => forD_mono hb _ _ _ _ _ _ q
    · rintro i k σ2 H2 ⟨rfl, hi, m2, ls2, st2, e2, hl2, k2, s2, l2, q2⟩
      have hguard : gdB gd st2 = true := by
        by_cases c : gdB gd st2 = true
        · exact c
        · cases e : items.drop i with
          | nil => rw [e, forD, if_neg c] at q2; exact q2.elim
          | cons d r => rw [e, forD, if_neg c] at q2; exact q2.elim
      obtain ⟨hstop, hgo⟩ := hit i m2 st2 H2 hi e2 hl2 k2 s2 hguard
      by_cases hlt : i < items.length
      · refine .inr ⟨(hgo hlt).1, fun σ' H' => ∃ m2 ls2 st2, Ext m1 st1.length m2 ∧ st1.length ≤ st2.length ∧ Keep H1 H' ∧ StR Γ m2 st2 H' ∧ LsR Γ m2 st2.length H' ls2 σ' ∧
          ResS Γ m2 st2.length H' (forD gd t d1 (items.drop (i + 1)) ls2 st2) D W, fun σ' H' n => ⟨_, by omega, rfl, hlt, n⟩, fun x H3 y => ?_⟩
        obtain ⟨d, hd, k3, s3, rd⟩ := (hgo hlt).2 x H3 y
        have hdrop : items.drop i = d :: items.drop (i + 1) := by
          rw [List.drop_eq_getElem_cons hlt]
          have : items[i] = d := by
            rw [List.getElem?_eq_getElem hlt] at hd
            exact Option.some.inj hd
          rw [this]
        rw [hdrop, forD, if_pos hguard] at q2
        cases ea : asg t d ls2 with
        | none =>
          rw [ea] at q2
          exact q2.elim
        | some ls3 =>
          rw [ea] at q2
          dsimp only at q2
          have l3 := l2.mono (Ext.refl _ _) (Nat.le_refl _) k3
          refine ⟨m2, st2.length, ls2, d, ls3, l3, rd, ea, fun σ3 hl3 _ => ⟨m2, ls3, st2, s3, hl3, ?_⟩⟩
          have hb' := fun a l st' q => hb ls3 st2 a l st' q
          match d1 ls3 st2, q2, hb' with
          | some (.next, ls4, st4), q2, hb' =>
            have hl4 := hb' _ _ _ rfl
            exact ⟨hl4, fun m4 H4 σ4 e4 k4 s4 l4 => ⟨m4, ls4, st4, e2.trans e4 hl2, Nat.le_trans hl2 hl4, (k2.trans k3).trans k4, s4, l4, ResS.mono (r := forD gd t d1 (items.drop (i + 1)) ls4 st4) q2 e4 (k3.trans k4) hl4 fun a l st' q => forD_mono hb _ _ _ _ _ _ q⟩⟩
          | some (.cont, ls4, st4), q2, hb' =>
            have hl4 := hb' _ _ _ rfl
            exact ⟨hl4, fun m4 H4 σ4 e4 k4 s4 l4 => ⟨m4, ls4, st4, e2.trans e4 hl2, Nat.le_trans hl2 hl4, (k2.trans k3).trans k4, s4, l4, ResS.mono (r := forD gd t d1 (items.drop (i + 1)) ls4 st4) q2 e4 (k3.trans k4) hl4 fun a l st' q => forD_mono hb _ _ _ _ _ _ q⟩⟩
          | some (.brk, ls4, st4), q2, hb' => exact ⟨hb' _ _ _ rfl, fun m4 H4 σ4 e4 k4 s4 l4 => q2.2 m4 H4 σ4 e4 (k3.trans k4) s4 l4⟩
          | some (.ret d, ls4, st4), q2, hb' => exact ⟨hb' _ _ _ rfl, fun m4 H4 v e4 k4 s4 r4 => q2.2 m4 H4 v e4 (k3.trans k4) s4 r4⟩
          | some (.exc c fs, ls4, st4), q2, hb' => exact ⟨hb' _ _ _ rfl, fun m4 H4 σ4 dd e4 k4 s4 l4 x4 => q2.2 m4 H4 σ4 dd e4 (k3.trans k4) s4 l4 x4⟩
          | none, q2, _ => exact q2.elim
      · have e : i = items.length := by omega
        refine .inl ⟨hstop e, ?_⟩
        rw [e, List.drop_length, forD, if_pos hguard] at q2
        exact OutS.here q2 s2 l2
theorem ss_for (hp : PassesOwn (model X.prog X.w) X.A X.env X.xe) (hc : X.calm = true) (hi : SimI X Γ W tg iter di) (hg : PG X tg (tG Γ t)) (hb : SimB X Γ W body d1) (hs : ∀ x, foldedSetIterable iter X.env x = pure x) : SimS X Γ W (.For tg iter body [] pos) (dFor di t d1) := by
  refine ⟨fun ls st a l st' h => ?_, (ps_for hp hc hi.pi hg hb.ps hs).imp fun D σ H h => tFor_of hi.mono hb.mono h⟩
  unfold dFor at h
  have mi := fun r st' q => hi.mono ls st r st' q
  match di ls st, h, mi with
  | some (.exc c fs, st1), h, mi =>
    cases h
    exact mi _ _ rfl
  | some (.it items gd, st1), h, mi => exact Nat.le_trans (mi _ _ rfl) (forD_mono hb.mono _ _ _ _ _ _ h)
  | none, h, mi => cases h
end
end MP
end
section
set_option maxRecDepth 100000
set_option maxHeartbeats 1000000
namespace MP
open PySem PySem.Spec PyProof.Rows L2

section
variable {X : Cx} {Γ : Gam} {W : WX} {e a b c o i tg iter : Expr} {da db dc de do_ di_ : De} {pos pos' tpos p2 : Pos} {es : List Expr} {das : List De} {t : Tg} {di : Di} {s1 : Stmt} {body rest orelse : List Stmt} {d1 d2 d3 : Ds}
/-! ### o[i] = e -/
def setK (ls : Ls) (v o i : D) (st : Sto) : Rss := match o, i with
  | .obj n, .int k => match st[n]? with
    | some (.lst false l) => match ixN l.length k with
      | some j => some (.next, ls, st.set n (.lst false (l.set j v)))
      | none => none
    | _ => none
  | _, _ => none
theorem monoK_set {ls : Ls} {v o : D} : MonoK (setK ls v o) := fun i st a l st' h => by
  unfold setK at h
  repeat' (split at h)
  all_goals first | (cases h; rw [List.length_set]; exact Nat.le_refl _) | cases h
def dSetIx (de do_ di_ : De) : Ds := fun ls st => bindS (de ls st) ls fun v st1 => bindS (do_ ls st1) ls fun o st2 => bindS (di_ ls st2) ls (setK ls v o)
theorem ss_setix (he : Sim X Γ W e de) (ho : Sim X Γ W o do_) (hi : Sim X Γ W i di_) (ha : ∀ v, assign (.Subscript o i tpos) X.env v = (do
      let ov ← holding [v] (eval o X.env)
      let iv ← holding [v, ov] (eval i X.env)
      standAt tpos
      holding [v, ov, iv] (setItem ov iv v)
      release [v, ov, iv] [])) (hs : swapsWithSole [.Subscript o i tpos] e pos.line X.env = pure false) (hw : swappedStores [.Subscript o i tpos] e X.env = pure none)
    (h1 : (assignEach [.Subscript o i tpos] X.env).map (·.2) = [assign (.Subscript o i tpos) X.env]) : SimS X Γ W (.Assign [.Subscript o i tpos] e pos) (dSetIx de do_ di_) := by
  have m2 : ∀ (ls : Ls) (v o : D), MonoK (setK ls v o) := fun ls v o => monoK_set
  have m1 : ∀ (ls : Ls) (v : D), MonoK fun o st2 => bindS (di_ ls st2) ls (setK ls v o) := fun ls v o st a l st' h => bindS_mono (fun a s z => hi.mono ls st a s z) (m2 ls v o) a l st' h
  have m0 : ∀ (ls : Ls), MonoK fun v st1 => bindS (do_ ls st1) ls fun o st2 => bindS (di_ ls st2) ls (setK ls v o) := fun ls v st a l st' h => bindS_mono (fun a s z => ho.mono ls st a s z) (m1 ls v) a l st' h
  refine ⟨fun ls st a l st' h => bindS_mono (fun a s z => he.mono ls st a s z) (m0 ls) a l st' h, (ps_asg he.pe (pg_sub ho.pe hi.pe set_list ha) hs hw h1).imp fun D σ H ⟨m, ls, st, s, l, h⟩ => ?_⟩
  refine tD_bindS he.mono s l (m0 ls) h fun m1' v st1 vv H1 s1 l1 r1 q1 _ _ _ => ?_
  refine tD_bindS ho.mono s1 l1 (m1 ls v) q1 fun m2' o st2 ov H2 s2 l2 r2 q2 hl2 e2 k2 => ?_
  refine tD_bindS hi.mono s2 l2 (m2 ls v o) q2 fun m3' i st3 iv H3 s3 l3 r3 q3 hl3 e3 k3 => ?_
  unfold setK at q3
  split at q3
  · rename_i n k
    split at q3
    · rename_i l0 el
      split at q3
      · rename_i j ej
        have r2' := r2.mono e3 hl3 k3
        cases r2'
        cases r3
        obtain ⟨vs, hv, rv⟩ := s3.lst el
        refine ⟨m3' n, vs, k, j, rfl, rfl, hv, by rw [← rv.length]; exact ej, ?_⟩
        have k4 : Keep H3 (upd H3 (m3' n) (.lst (vs.set j vv))) := .put hv .lst
        have r1' := (r1.mono e2 hl2 k2).mono e3 hl3 k3
        have s4 := s3.put (o := .lst (vs.set j vv)) (c' := .lst false (l0.set j v)) el rfl rfl ⟨_, upd_same, (rv.set j r1').mono (Ext.refl _ _) (Nat.le_refl _) k4⟩
        refine q3.2 m3' _ σ (Ext.refl _ _) k4 s4 ?_
        rw [List.length_set]
        exact l3.mono (Ext.refl _ _) (Nat.le_refl _) k4
      · exact q3.elim
    · exact q3.elim
  · exact q3.elim
/-! ### o.f = e -/
def putD (f : Str) (d : D) : List (Str × D) → List (Str × D)
  | [] => [(f, d)]
  | (g, v) :: r => if g = f then (g, d) :: r else (g, v) :: putD f d r
theorem FsR.put {m : Nat → Addr} {L : Nat} {H : Hp} {f : Str} {d : D} {v : V} (r : Rv Γ.K m L H d v) : ∀ {fs : List (Str × D)} {vs : List (Str × V)}, FsR Γ.K m L H fs vs → FsR Γ.K m L H (putD f d fs) (putF f v vs)
  | _, _, .nil => .cons r .nil
  | (g, d0) :: fs, _, .cons (v := v0) (vs := vs) r0 rs => by
    show FsR Γ.K m L H (if g = f then (g, d) :: fs else (g, d0) :: putD f d fs) (if g = f then (g, v) :: vs else (g, v0) :: putF f v vs)
    by_cases e : g = f
    · rw [if_pos e, if_pos e]
      exact .cons r rs
    · rw [if_neg e, if_neg e]
      exact .cons r0 (FsR.put r rs)
theorem FsR.length {m : Nat → Addr} {L : Nat} {H : Hp} : ∀ {fs : List (Str × D)} {vs : List (Str × V)}, FsR Γ.K m L H fs vs → fs.length = vs.length
  | _, _, .nil => rfl
  | _, _, .cons _ rs => by rw [List.length_cons, List.length_cons, FsR.length rs]
def setFK (cs : List Str) (f : Str) (ls : Ls) (v o : D) (st : Sto) : Rss := match o with
  | .obj n => match st[n]? with
    | some (.ins c fs) => if cs.contains c && decide (fs.length < 1000) then some (.next, ls, st.set n (.ins c (putD f v fs))) else none
    | _ => none
  | _ => none
theorem monoK_setF {cs : List Str} {f : Str} {ls : Ls} {v : D} : MonoK (setFK cs f ls v) := fun i st a l st' h => by
  unfold setFK at h
  repeat' (split at h)
  all_goals first | (cases h; rw [List.length_set]; exact Nat.le_refl _) | cases h
def dSetF (cs : List Str) (f : Str) (do_ de : De) : Ds := fun ls st => bindS (de ls st) ls fun v st1 => bindS (do_ ls st1) ls (setFK cs f ls v)
theorem ss_setf {cs : List Str} {f : Str} (hK : X.K = Γ.K) (hc : FldOk Γ cs f) (ho : Sim X Γ W o do_) (he : Sim X Γ W e de) (hs : swapsWith e (some (.Attribute o f pos')) pos.line X.env = pure false) : SimS X Γ W (.Assign [.Attribute o f pos'] e pos) (dSetF cs f do_ de) := by
  have m1 : ∀ (ls : Ls) (v : D), MonoK (setFK cs f ls v) := fun ls v => monoK_setF
  have m0 : ∀ (ls : Ls), MonoK fun v st1 => bindS (do_ ls st1) ls (setFK cs f ls v) := fun ls v st a l st' h => bindS_mono (fun a s z => ho.mono ls st a s z) (m1 ls v) a l st' h
  refine ⟨fun ls st a l st' h => bindS_mono (fun a s z => he.mono ls st a s z) (m0 ls) a l st' h, (ps_fld ho.pe he.pe hs).imp fun D σ H ⟨m, ls, st, s, l, h⟩ => ?_⟩
  refine tD_bindS he.mono s l (m0 ls) h fun m1' v st1 vv H1 s1 l1 r1 q1 _ _ _ => ?_
  refine tD_bindS ho.mono s1 l1 (m1 ls v) q1 fun m2' o st2 ov H2 s2 l2 r2 q2 hl2 e2 k2 => ?_
  unfold setFK at q2
  split at q2
  · rename_i n
    split at q2
    · rename_i c fs el
      split at q2
      · rename_i hcs
        obtain ⟨hcs, hlt⟩ := Bool.and_eq_true_iff.mp hcs
        cases r2
        obtain ⟨dx, vs, hv, rv⟩ := s2.cell n _ el
        obtain ⟨c1, c2⟩ := hc c hcs
        refine ⟨m2' n, Γ.cl c, dx, vs, rfl, hv, by rw [hK]; exact c1, by rw [hK]; exact c2, by rw [← rv.length]; exact of_decide_eq_true hlt, ?_⟩
        have k4 : Keep H2 (upd H2 (m2' n) (.ins (Γ.cl c) dx (putF f vv vs))) := .put hv .ins
        have r1' := r1.mono e2 hl2 k2
        have s4 := s2.put (o := .ins (Γ.cl c) dx (putF f vv vs)) (c' := .ins c (putD f v fs)) el rfl rfl ⟨dx, _, upd_same, FsR.mono (Γ := Γ) (Ext.refl _ _) (Nat.le_refl _) k4 (rv.put r1')⟩
        refine q2.2 m2' _ σ (Ext.refl _ _) k4 s4 ?_
        rw [List.length_set]
        exact l2.mono (Ext.refl _ _) (Nat.le_refl _) k4
      · exact q2.elim
    · exact q2.elim
  · exact q2.elim

/-! ### raise -/
def dRaise0 (c : Str) : Ds := fun ls st => some (.exc c [], ls, st)
/-- raise C('..') of a class without __init__ -/
theorem ss_raise0 {c x : Str} {m : Str} {j : Nat} {p p3 : Pos} {bmB : List Value} {B newId initId : String} (hcalm : X.calm = true) (tk : Takes X W) (F : ExcBaseFacts B newId initId bmB) (q : PySem.W.excIn X.K (Γ.cl c) bmB newId = true) (gC : X.mg x = some (.ref (Γ.cl c))) (kC : PySem.W.keepIn X.K (.ref (Γ.cl c)) = true)
    (r : Raises X (.ref (Γ.cl c))) (hg : Gl X x) (hdb : (x == ("__debug__" : Str)) = false) : SimS X Γ W (.Raise (some (.Call (.Name x p) [.Constant (.str m) j p2] [] p3)) none pos) (dRaise0 c) :=
  ⟨fun ls st a l st' h => by cases h; exact Nat.le_refl _, (ps_raise hcalm tk (pmk_own F q gC kC r hg hdb)).imp fun D σ H ⟨m, ls, st, s, l, h⟩ => h.2 m H σ none (Ext.refl _ _) (Keep.refl _) s l (.inl ⟨rfl, rfl⟩)⟩
def raiseK (c f : Str) (ls : Ls) (d : D) (st : Sto) : Rss := some (.exc c [(f, d)], ls, st)
def dRaise1 (c f : Str) (da : De) : Ds := fun ls st => bindS (da ls st) ls (raiseK c f ls)
theorem monoK_raise {c f : Str} {ls : Ls} : MonoK (raiseK c f ls) := fun d st a l st' h => by cases h; exact Nat.le_refl _
/-- the promise of such an __init__: self.f = v -/
def spX1 (K : PySem.W.Frag) (C : Addr) (f : Str) : Sp := fun vs H Q E => ∃ a v, vs = [.ref a, v] ∧ OexC K C ∧ PySem.W.findIn K (.ref C) f = some none ∧ H a = some (exo a C none) ∧ ∀ dx, H dx = none → dx ≠ a → Q .non (upd (upd H dx (exd dx [(f, v)])) a (exo a C (some dx)))
theorem ss_raise1 {c f x : Str} {p p3 : Pos} {fI : Addr} {k : Nat} {fd : FuncData} {ps : List Str} (hcalm : X.calm = true) (tk : Takes X W) (T : OexC X.K (Γ.cl c)) (nf : PySem.W.findIn X.K (.ref (Γ.cl c)) f = some none) (iC : PySem.W.findIn X.K (.ref (Γ.cl c)) "__init__" = some (some (.ref fI)))
    (tI : PySem.W.typeIn X.K (.ref fI) = some (.type "function")) (F1 : FnOk X.prog X.w X.K X.mg X.base CX0 k fI fd ps (spX1 X.K (Γ.cl c) f)) (hr : Room (k + 1) X.A) (hb : Binds X.K fd ps []) (hg : Gl X x) (hm : X.mg x = some (.ref (Γ.cl c))) (ha : Sim X Γ W a da)
    (hdb : (x == ("__debug__" : Str)) = false) (hst : starEach [a] X.env = (false, eval a X.env) :: starEach [] X.env) : SimS X Γ W (.Raise (some (.Call (.Name x p) [a] [] p3)) none pos) (dRaise1 c f da) := by
  refine ⟨fun ls st a l st' h => bindS_mono (fun a s z => ha.mono ls st a s z) monoK_raise a l st' h, (ps_raise hcalm tk (pmk_oex T iC tI F1 hr hb .nil (fun _ _ _ _ _ _ _ h => h.elim) hg hm (pa_cons ha.pe pa_nil hst) hdb hst (by rfl))).imp fun D σ H ⟨m, ls, st, s, l, h⟩ => ?_⟩
  refine tD_bindS ha.mono s l monoK_raise h fun m1 d st1 v H1 s1 l1 r1 q1 _ _ _ => ?_
  refine ⟨by show 1 ≤ 1000; decide, fun a0 ha0 => ⟨a0, v, rfl, T, nf, upd_same, fun dx hdx hne => ⟨rfl, dx, [(f, v)], upd_same, by rw [upd_ne hne, upd_same], ?_, ?_⟩⟩⟩
  · rw [upd_ne hne] at hdx
    exact hdx
  · have hdx0 : H1 dx = none := by
      rw [upd_ne hne] at hdx
      exact hdx
    have eH : upd (del (upd (upd (upd H1 a0 (exo a0 (Γ.cl c) none)) dx (exd dx [(f, v)])) a0 (exo a0 (Γ.cl c) (some dx))) a0) dx (.xd [(f, v)]) = upd H1 dx (.xd [(f, v)]) := by
      funext b
      by_cases hb : b = dx
      · rw [hb, upd_same, upd_same]
      · rw [upd_ne hb, upd_ne hb]
        by_cases hb2 : b = a0
        · rw [hb2, del_same, ha0]
        · rw [del_ne hb2, upd_ne hb2, upd_ne hb, upd_ne hb2]
    rw [eH]
    have k : Keep H1 (upd H1 dx (.xd [(f, v)])) := .new hdx0
    have s2 : StR Γ m1 st1 (upd H1 dx (.xd [(f, v)])) := ⟨fun i c hi => (s1.cell i c hi).mono (Ext.refl _ _) (Nat.le_refl _) k fun o q => by rw [upd_ne (ne_of_none q hdx0)]; exact q, s1.inj, tabs_new hdx0 s1.tabs⟩
    refine q1.2 m1 _ σ (some dx) (Ext.refl _ _) k s2 (l1.mono (Ext.refl _ _) (Nat.le_refl _) k) (.inr ⟨(fun z => by cases z), dx, [(f, v)], rfl, upd_same, .cons (r1.mono (Ext.refl _ _) (Nat.le_refl _) k) .nil⟩)

/-! ### a new instance -/
theorem run_makeS {C fI : Addr} {k : Nat} {fd : FuncData} {ps : List Str} {sp : Sp} {E : L2.St → XK} {pins : List (Addr × Obj)} {σ : L2.St} {H : Hp} {s : Shared} {Q : VK} {us : List Value} {vs : List V} {CX : CXT} (M : Mk X.K C fI) (F : FnOk X.prog X.w X.K X.mg X.base CX k fI fd ps sp) (hr : Room (k + 1) X.A) (hb : Binds X.K fd ps [])
    (hx : PassesAt CX X σ (E σ)) (I : Inv X pins σ H s) (r : Vals vs us)
    (h : ∀ x dx, H x = none → H dx = none → dx ≠ x → sp (.ref x :: vs) (upd (upd H dx (.own x)) x (.ins C dx [])) (fun v H2 => v = .non ∧ Q (.ref x) H2) (E σ)) :
    wpAny (model X.prog X.w) X.A (call (.ref C) us) (EP X pins σ Q) X.xe s := by
  have hq := h (s.heap.objs.size + 1) s.heap.objs.size (I.hok.fresh (Nat.le_succ _)) (I.hok.fresh (Nat.le_refl _)) (Nat.ne_of_lt (Nat.lt_succ_self _))
  have I2 := Inv.made (C := C) I
  have r2 : Vals (V.ref (s.heap.objs.size + 1) :: vs) (Value.ref (s.heap.objs.size + 1) :: us) := .cons rfl r
  have hl : (Value.ref (s.heap.objs.size + 1) :: us).length = ps.length := by
    have e := r2.length
    rw [F.len _ _ _ _ hq] at e
    exact e.symm
  have b := hb ⟨_, s.gens, s.drawn, s.toks, s.os⟩ (Value.ref (s.heap.objs.size + 1) :: us) I2.kIn (by rw [List.append_nil]; exact hl)
  rw [List.append_nil] at b
  refine wpAny_call (make_map (f := fI) I.kIn M.makes M.init (beq_iff_eq.mp M.fn) (codeAny_mono (F.run _ X.stack _ _ ⟨Value.ref (s.heap.objs.size + 1) :: us, []⟩ (Value.ref (s.heap.objs.size + 1) :: us) _ _ (E σ) (hr.make C us [])
    (I2.env0.make C us []) b r2 hq) fun r s' hq' => ?_))
  cases r with
  | error e => exact hx pins _ _ e s' I2 hq'
  | ok fl =>
    cases fl with
    | ret u =>
      obtain ⟨v, H', I3, rv, ev, q3⟩ := I2.after hq'
      subst ev
      exact ⟨rv, ⟨V.ref (s.heap.objs.size + 1), H', I3, rfl, q3⟩⟩
    | next => exact False.elim hq'
    | brk => exact False.elim hq'
    | cont => exact False.elim hq'
def tMakeS (C : Addr) (sp : Sp) (E : L2.St → XK) (t : TA) : TE := fun σ H Q => t σ H fun vs H1 => ∀ x dx, H1 x = none → H1 dx = none → dx ≠ x →
  sp (.ref x :: vs) (upd (upd H1 dx (.own x)) x (.ins C dx [])) (fun v H2 => v = .non ∧ Q (.ref x) H2) (E σ)
theorem pe_makeS {C fI : Addr} {k : Nat} {fd : FuncData} {ps : List Str} {sp : Sp} {E : L2.St → XK} {CX : CXT} {x : Str} {p : Pos} {ta : TA} (M : Mk X.K C fI) (F : FnOk X.prog X.w X.K X.mg X.base CX k fI fd ps sp) (hr : Room (k + 1) X.A) (hg : Gl X x) (hm : X.mg x = some (.ref C)) (hb : Binds X.K fd ps []) (hx : ∀ σ, PassesAt CX X σ (E σ))
    (ha : PA X (e :: es) ta) (hdb : (x == ("__debug__" : Str)) = false) (he : starEach (e :: es) X.env = (false, eval e X.env) :: starEach es X.env) (hpl : (backTo pos (starEach es X.env)).any (·.1) = false) :
    PE X (.Call (.Name x p) (e :: es) [] pos) (tMakeS C sp E ta) := by
  refine ⟨fun pins s σ H Q I h => ?_⟩
  refine wpAny_Call_Name_kw (ld_glob I hg hm ?_ hdb)
  refine PySem.W.callWith_K (h₀ := X.base) I.ok.mod.kin M.kp (thn (ha.run pos pins s σ H _ I h) fun us s1 ⟨vs, H1, I1, r, q⟩ => ⟨I1.kIn, ?_⟩) he hpl
  exact run_makeS M F hr hb (hx σ) I1 r q
/-- C(..): g is what __init__ does -/
def mkK (n : Nat) (r : Rt) : Rt := match r with
  | some (.ok .non, st') => okD (.obj n) st'
  | some (.exc k fs, st') => some (.exc k fs, st')
  | _ => none
def fMake (c : Str) (g : List D → Sto → Rt) (ds : List D) (st : Sto) : Rt := mkK st.length (g (.obj st.length :: ds) (st ++ [.ins c []]))
theorem mono_fMake {c : Str} {g : List D → Sto → Rt} (hg : MonoFA g) : MonoFA (fMake c g) := fun ds st r st' h => by
  unfold fMake mkK at h
  have hl : (st ++ [Cell.ins c []]).length = st.length + 1 := by rw [List.length_append, List.length_singleton]
  split at h
  · rename_i st1 e
    have z := hg _ _ _ _ e
    rw [hl] at z
    cases h
    exact Nat.le_trans (Nat.le_succ _) z
  · rename_i k fs st1 e
    have z := hg _ _ _ _ e
    rw [hl] at z
    cases h
    exact Nat.le_trans (Nat.le_succ _) z
  · cases h
theorem sim_make {c x : Str} {fI : Addr} {k n : Nat} {fd : FuncData} {ps : List Str} {p : Pos} {g : List D → Sto → Rt} (M : Mk X.K (Γ.cl c) fI) (F : FnOk X.prog X.w X.K X.mg X.base (L2.CX X.prog X.w) k fI fd ps (spD Γ (n + 1) g)) (mg : MonoFA g) (hr : Room (k + 1) X.A) (hg : Gl X x) (hm : X.mg x = some (.ref (Γ.cl c)))
    (hb : Binds X.K fd ps []) (hx : ∀ σ, PassesAt (L2.CX X.prog X.w) X σ (fun c d H' => W c d σ H')) (ha : SimA X Γ W (e :: es) das) (hn : das.length = n) (hdb : (x == ("__debug__" : Str)) = false) (he : starEach (e :: es) X.env = (false, eval e X.env) :: starEach es X.env) (hpl : (backTo pos (starEach es X.env)).any (·.1) = false) :
    Sim X Γ W (.Call (.Name x p) (e :: es) [] pos) (dApp (fMake c g) das) := by
  refine ⟨mono_app ha.mono (mono_fMake mg), (pe_makeS (E := fun σ c d H' => W c d σ H') M F hr hg hm hb hx ha.pa hdb he hpl).imp fun σ H Q ⟨m, ls, st, s, l, h⟩ => ?_⟩
  refine ⟨m, ls, st, s, l, ?_⟩
  have ma := fun r st' q => ha.mono ls st r st' q
  have hlen := fun ds st' (q : evA das ls st = some (.ok ds, st')) => (evA_len q).trans hn
  unfold dApp at h
  match evA das ls st, h, ma, hlen with
  | some (.exc c fs, st1), h, _, _ => exact h
  | some (.ok ds, st1), h, ma, hlen =>
    have hl := ma _ _ rfl
    refine ⟨hl, fun m1 H1 vs e1 k1 s1 r1 x0 dx hx0 hdx hne => ?_⟩
    have hds := hlen _ _ rfl
    have h : Res Γ m st.length H (fMake c g ds st1) Q (fun c d H' => W c d σ H') := h
    have hl2 : (st1 ++ [Cell.ins c []]).length = st1.length + 1 := by rw [List.length_append, List.length_singleton]
    have k2 : Keep H1 (upd H1 dx (.own x0)) := .new hdx
    have hx1 : (upd H1 dx (.own x0)) x0 = none := by rw [upd_ne (Ne.symm hne)]; exact hx0
    have s2 : StR Γ m1 st1 (upd H1 dx (.own x0)) := ⟨fun i c hi => (s1.cell i c hi).mono (Ext.refl _ _) (Nat.le_refl _) k2 fun o q => by rw [upd_ne (ne_of_none q hdx)]; exact q, s1.inj, tabs_new hdx s1.tabs⟩
    have s3 := s2.push (c := .ins c []) (o := .ins (Γ.cl c) dx []) hx1 ⟨dx, [], upd_same, .nil⟩
    have e3 : Ext m1 st1.length (extM m1 st1.length x0) := extM_ext
    have k3 : Keep (upd H1 dx (.own x0)) (upd (upd H1 dx (.own x0)) x0 (.ins (Γ.cl c) dx [])) := .new hx1
    have hob : Rv Γ.K (extM m1 st1.length x0) (st1 ++ [Cell.ins c []]).length (upd (upd H1 dx (.own x0)) x0 (.ins (Γ.cl c) dx [])) (.obj st1.length) (.ref x0) := by
      have z := Rv.obj (K := Γ.K) (m := extM m1 st1.length x0) (H := upd (upd H1 dx (.own x0)) x0 (.ins (Γ.cl c) dx [])) (n := st1.length) (L := (st1 ++ [Cell.ins c []]).length) (by rw [hl2]; exact Nat.lt_succ_self _)
      rw [extM_new] at z
      exact z
    refine ⟨by rw [List.length_cons, ← r1.length, hds], extM m1 st1.length x0, .obj st1.length :: ds, st1 ++ [.ins c []], s3, .cons hob (r1.mono e3 (by rw [hl2]; exact Nat.le_succ _) (k2.trans k3)), ?_⟩
    unfold fMake at h
    have gm := fun r st' q => mg (.obj st1.length :: ds) (st1 ++ [.ins c []]) r st' q
    revert h gm
    generalize g _ _ = r0
    intro h gm
    match r0, h, gm with
    | some (.ok .non, st4), h, gm =>
      have hl4 := gm _ _ rfl
      refine ⟨hl4, fun m4 H4 v e4 k4 s4 r4 => ?_⟩
      cases r4
      refine ⟨rfl, h.2 m4 H4 (.ref x0) ((e1.trans e3 hl).trans e4 (by rw [hl2]; exact Nat.le_trans hl (Nat.le_succ _))) ((k1.trans (k2.trans k3)).trans k4) s4 ?_⟩
      have z := Rv.mono e4 hl4 k4 hob
      exact z
    | some (.ok (.bl _), st4), h, _ => exact h.elim
    | some (.ok (.int _), st4), h, _ => exact h.elim
    | some (.ok (.str _), st4), h, _ => exact h.elim
    | some (.ok (.tup _), st4), h, _ => exact h.elim
    | some (.ok (.obj _), st4), h, _ => exact h.elim
    | some (.exc c fs, st4), h, gm =>
      have hl4 := gm _ _ rfl
      exact ⟨hl4, fun m4 H4 dd e4 k4 s4 x4 => h.2 m4 H4 dd ((e1.trans e3 hl).trans e4 (by rw [hl2]; exact Nat.le_trans hl (Nat.le_succ _))) ((k1.trans (k2.trans k3)).trans k4) s4 x4⟩
end

/-! ### defs -/
def startL (n : Nat) (ds : List D) : Ls := ds.map some ++ List.replicate (n - ds.length) none
/-- what a def does: its body at the arguments -/
def runD (n : Nat) (db : Ds) (ds : List D) (st : Sto) : Rt := match db (startL n ds) st with
  | some (.next, _, st') => okD .non st'
  | some (.ret d, _, st') => okD d st'
  | some (.exc c fs, _, st') => some (.exc c fs, st')
  | _ => none
theorem mono_runD {n : Nat} {db : Ds} (h : MonoS db) : MonoFA (runD n db) := fun ds st r st' q => by
  unfold runD at q
  split at q
  · rename_i e
    cases q
    exact h _ _ _ _ _ e
  · rename_i e
    cases q
    exact h _ _ _ _ _ e
  · rename_i e
    cases q
    exact h _ _ _ _ _ e
  · cases q
theorem startL_rel {Γ : Gam} {m : Nat → Addr} {L : Nat} {H : Hp} {N : List Str} {ds : List D} {vs : List V} (r : RvL Γ.K m L H ds vs) : LsR Γ m L H (startL N.length ds) (L2.start N vs) := by
  unfold startL L2.start
  refine ⟨by rw [List.length_append, List.length_append, List.length_map, List.length_map, List.length_replicate, List.length_replicate, r.length], fun i d h => ?_⟩
  by_cases hi : i < ds.length
  · rw [List.getElem?_append_left (by rw [List.length_map]; exact hi), List.getElem?_map] at h
    cases e : ds[i]? with
    | none => rw [e] at h; cases h
    | some d' =>
      rw [e] at h
      have ed : d' = d := Option.some.inj (Option.some.inj h)
      subst ed
      obtain ⟨v, hv, rv⟩ := r.get e
      refine ⟨v, ?_, rv⟩
      rw [List.getElem?_append_left (by rw [List.length_map, ← r.length]; exact hi), List.getElem?_map, hv]
      rfl
  · rw [List.getElem?_append_right (by rw [List.length_map]; omega), List.getElem?_replicate] at h
    split at h <;> cases h
/-- THE RULE for a def -/
theorem fn_sim {P : Program} {w : World} {K : PySem.W.Frag} {mg : Str → Option Value} {base : Heap} {Γ : Gam} (hK : K = Γ.K) {x qual : Str} {st : Stmt} {f : Addr} {fd : FuncData} {N ps : List Str} {k : Nat} (F : Fun K x qual st f fd) (S : FnScope N ps (defScope st)) {g : List D → Sto → Rt} {db : Ds}
    (hg : g = runD N.length db)
    (hbody : ∀ (cdv : Value) (A : Around) (outer : List Env) (s : Shared) (H : Hp) (E : XK), Room k (A.deeper (envOfC qual (defScope st) s.heap.objs.size f cdv)) →
      SimB (cxOf (L2.CX P w) P w K mg base N qual (defScope st) f cdv A outer s H E) Γ (fun c d _ H' => E c d H') (defBody st) db) : FnOk P w K mg base (L2.CX P w) (k + 1) f fd ps (spD Γ ps.length g) := by
  subst hg
  refine F.okX S (fun vs H Q E h => h.1) (fun cdv A outer s H vs Q E hr h => ?_)
  obtain ⟨_, m, ds, sto, sr, rv, h⟩ := h
  have B := hbody cdv A outer s H E hr
  refine ⟨_, B.ps, m, startL N.length ds, sto, sr, startL_rel rv, ?_⟩
  have mb := fun a l st' q => B.mono (startL N.length ds) sto a l st' q
  unfold runD at h
  match db (startL N.length ds) sto, h, mb with
  | some (.next, ls', st'), h, mb => exact ⟨h.1, fun m' H' σ' e k s l => h.2 m' H' .non e k s .non⟩
  | some (.ret d, ls', st'), h, mb => exact h
  | some (.exc c fs, ls', st'), h, mb => exact ⟨h.1, fun m' H' σ' dd e k s l x => h.2 m' H' dd e k s x⟩
  | some (.brk, ls', st'), h, mb => exact h.elim
  | some (.cont, ls', st'), h, mb => exact h.elim
end MP
end
section
set_option maxRecDepth 100000
set_option maxHeartbeats 1000000
namespace MP
open PySem PySem.Spec PyProof.Rows L2

/-- the text's def x stands behind the top -/
structure FunX (K : PySem.W.Frag) (mg : Str → Option Value) (x : Str) (st : Stmt) (ps : List Str) : Prop where
  ex : ∃ f fd, Fun K x x st f fd ∧ mg x = some (.ref f) ∧ Binds K fd ps []
/-- the global def x does what g says -/
structure Den (P : Program) (w : World) (Γ : Gam) (mg : Str → Option Value) (base : Heap) (k : Nat) (x : Str) (n : Nat) (g : List D → Sto → Rt) : Prop where
  ex : ∃ f fd ps, FnOk P w Γ.K mg base (L2.CX P w) k f fd ps (spD Γ n g) ∧ mg x = some (.ref f) ∧ PySem.W.keepIn Γ.K (.ref f) = true ∧ Binds Γ.K fd ps []
  mono : MonoFA g
section
variable {P : Program} {w : World} {Γ : Gam} {mg : Str → Option Value} {base : Heap}
theorem room_c {k : Nat} (hk : k ≤ 100) (env : Env) : Room k (callerA.deeper env) := by
  have h1 : claimMargin + 400 < recursionLimit := by decide
  have h2 : 3000 < cLine := by decide
  refine ⟨rfl, ?_, ?_⟩
  · show 1 + claimMargin + 1 + 3 * k + 5 < recursionLimit
    omega
  · show 4 + 3 + 16 * k + 200 < cLine
    omega
theorem den_of {x : Str} {st : Stmt} {N ps : List Str} {k : Nat} (F : FunX Γ.K mg x st ps) (S : FnScope N ps (defScope st)) {db : Ds}
    (hbody : ∀ (f : Addr) (cdv : Value) (A : Around) (outer : List Env) (s : Shared) (H : Hp) (E : XK), Room k (A.deeper (envOfC x (defScope st) s.heap.objs.size f cdv)) →
      SimB (cxOf (L2.CX P w) P w Γ.K mg base N x (defScope st) f cdv A outer s H E) Γ (fun c d _ H' => E c d H') (defBody st) db) (hk : k ≤ 100 := by decide) : Den P w Γ mg base (k + 1) x ps.length (runD N.length db) := by
  obtain ⟨f, fd, F, hm', b⟩ := F.ex
  have hm := (hbody 0 .none callerA [] {} (fun _ => none) (fun _ _ _ => False) (room_c hk _)).mono
  exact ⟨⟨f, fd, ps, fn_sim rfl F S rfl (hbody f), hm', F.kp, b⟩, mono_runD hm⟩
theorem sim_callD {X : Cx} {W : WX} {e : Expr} {es : List Expr} {das : List De} {x : Str} {p pos : Pos} {k n : Nat} {g : List D → Sto → Rt} (G : Den X.prog X.w Γ X.mg X.base k x n g) (hK : X.K = Γ.K) (hr : Room k X.A) (hg : Gl X x)
    (hx : ∀ σ, PassesAt (L2.CX X.prog X.w) X σ (fun c d H' => W c d σ H')) (h : SimA X Γ W (e :: es) das) (hn : das.length = n) (hn2 : (e :: es).length = n) (hdb : (x == ("__debug__" : Str)) = false) (he : starEach (e :: es) X.env = (false, eval e X.env) :: starEach es X.env)
    (hpl : (backTo pos (starEach es X.env)).any (·.1) = false) : Sim X Γ W (.Call (.Name x p) (e :: es) [] pos) (dApp g das) := by
  obtain ⟨⟨f, fd, ps, F, hm, hk, hb⟩, mo⟩ := G
  rw [← hK] at F hk hb
  exact sim_call F mo hr hg hm hk hb hx h hn2 hdb he hpl fun ls st ds st' q => (evA_len q).trans hn
/-- a def's own wish about exceptions -/
theorem hx_def {K : PySem.W.Frag} {N : List Str} {qual : Str} {sc : Scope} {f : Addr} {cdv : Value} {A : Around} {outer : List Env} {s : Shared} {H : Hp} {E : XK} :
    ∀ σ, PassesAt (L2.CX P w) (cxOf (L2.CX P w) P w K mg base N qual sc f cdv A outer s H E) σ (fun c d H' => (fun c d (_ : L2.St) H' => E c d H') c d σ H') := fun σ =>
  passAt (X := cxOf (L2.CX P w) P w K mg base N qual sc f cdv A outer s H E) (W := fun c d _ H' => E c d H') (takes_of rfl rfl rfl rfl) σ
/-- no exception: within a comprehension -/
theorem hx_no {X : Cx} : ∀ σ, PassesAt (L2.CX X.prog X.w) X σ (fun c d H' => WF c d σ H') := fun σ pins H s e s' _ h => by
  obtain ⟨_, _, _, _, _, _, _, _, _, _, _, _, z⟩ := h
  exact z.elim
end
end MP
end
section
set_option maxRecDepth 100000
set_option maxHeartbeats 1000000
namespace MP
open PySem PySem.Spec PyProof.Rows L2

/-! ### a module's whole number -/
structure ConstI (mg : Str → Option Value) (x : Str) (i : Int) : Prop where
  ex : ∃ t, mg x = some (.int i t)
section
variable {X : Cx} {Γ : Gam} {W : WX} {e a b c o : Expr} {da db dc : De} {pos : Pos} {es rest : List Expr} {das : List De}
theorem sim_constI {x : Str} {i : Int} (h : ConstI X.mg x i) (hg : Gl X x) (hd : (x == ("__debug__" : Str)) = false) : Sim X Γ W (.Name x pos) (dC (.int i)) := by
  obtain ⟨t, h⟩ := h.ex
  exact sim_glob hg h (v := .int i) ⟨t, rfl⟩ (fun m L H => .int i) hd

/-! ### isinstance(x, T), T a built-in type -/
def isiD (T : String) : D → Sto → Option Bool
  | .non, _ => kitB "NoneType" T
  | .bl _, _ => kitB "bool" T
  | .int _, _ => kitB "int" T
  | .str _, _ => kitB "str" T
  | .tup _, _ => kitB "tuple" T
  | .obj n, st => match st[n]? with
    | some (.lst _ _) => kitB "list" T
    | _ => none
def fIsi (T : String) (d : D) (st : Sto) : Rt := match isiD T d st with
  | some b => okD (.bl b) st
  | none => none
theorem mono_fIsi {T : String} : MonoF (fIsi T) := by
  intro d st r st' h
  unfold fIsi at h
  split at h
  · exact mono_ok h
  · cases h
theorem tyX_tup {K : PySem.W.Frag} {H : Hp} {a : Addr} {xs : List V} (h : SqT K H a xs) : TyX K H (.ref a) (.type "tuple") := by
  rcases h with (h | ⟨o, h⟩) | ⟨o, its, n, h1, h2, _⟩
  · exact .base (.tup h)
  · exact .fTuple h
  · exact .kTuple h1 h2
theorem tyX_lst {K : PySem.W.Frag} {H : Hp} {a : Addr} {xs : List V} (h : SqL K H a xs) : TyX K H (.ref a) (.type "list") := by
  rcases h with (h | ⟨o, h⟩) | ⟨o, its, n, h1, h2, _⟩
  · exact .base (.lst h)
  · exact .base (.frz h)
  · exact .kList h1 h2
theorem Rv.ty {m : Nat → Addr} {st : Sto} {H : Hp} {T : String} (s : StR Γ m st H) : ∀ {d : D} {v : V} {r : Bool}, Rv Γ.K m st.length H d v → isiD T d st = some r → ∃ t, TyX Γ.K H v t ∧ PySem.W.kitOne Γ.K t (.type T) = some r
  | .non, _, r, .non, h => ⟨_, .base .non, kit_ty h⟩
  | .bl _, _, r, .bl _, h => ⟨_, .base (.bl _), kit_ty h⟩
  | .int _, _, r, .int _, h => ⟨_, .base (.int _), kit_ty h⟩
  | .str _, _, r, .str _, h => ⟨_, .base (.str _), kit_ty h⟩
  | .tup _, _, r, .tup a _, h => ⟨_, tyX_tup a, kit_ty h⟩
  | .obj n, _, r, .obj _, h => by
    dsimp only [isiD] at h
    split at h
    · rename_i e
      obtain ⟨vs, a, _⟩ := s.list e
      exact ⟨_, tyX_lst a, kit_ty h⟩
    · cases h
theorem sim_isi {T : String} {x : Str} {p p2 : Pos} (hK : X.K = Γ.K) (hg : Gl X "isinstance") (hm : X.mg "isinstance" = none) (hg2 : Gl X x) (hm2 : X.mg x = none) (hv : bootBuiltins x = some (.type T)) (hn2 : x ≠ "__name__") (hd2 : (x == ("__debug__" : Str)) = false) (ha : Sim X Γ W a da)
    (he : starEach [a, .Name x p2] X.env = (false, eval a X.env) :: starEach [.Name x p2] X.env) (he2 : starEach [.Name x p2] X.env = (false, eval (.Name x p2) X.env) :: starEach [] X.env) (hpl : (backTo pos (starEach [.Name x p2] X.env)).any (·.1) = false) :
    Sim X Γ W (.Call (.Name "isinstance" p) [a, .Name x p2] [] pos) (dUn (fIsi T) da) := by
  refine ⟨mono_un ha.mono mono_fIsi, (pe_callB call_isi hg hm boot_isinstance (pa_cons ha.pe (pa_cons (pe_bltn (v := .ty T) hg2 hm2 hv rfl hn2 hd2) pa_nil he2) he) (by decide) (by decide) he hpl).imp fun σ H Q ⟨m, ls, st, s, l, h⟩ => ?_⟩
  obtain ⟨m0, ls0, st0, s0, l0, q0⟩ := tD_bind ha.mono s l mono_fIsi h
  refine ⟨m0, ls0, st0, s0, l0, q0.imp fun v H1 ⟨m1, d, st1, s1, l1, r1, q1, _⟩ => ?_⟩
  unfold fIsi at q1
  split at q1
  · rename_i k ek
    obtain ⟨t, h1, h2⟩ := r1.ty s1 ek
    exact ⟨v, .ty T, t, _, k, rfl, .ty T, by rw [hK]; exact h1, by rw [hK]; exact h2, q1.ok s1 (.bl k)⟩
  · exact q1.elim
end
end MP
end
section
set_option maxRecDepth 100000
set_option maxHeartbeats 1000000
namespace MP
open PySem PySem.Spec PyProof.Rows L2 PySem.W

theorem rowLt_lex : ∀ xs ys : List Int, rowLt (xs.map .int) (ys.map .int) = HT.lexLt xs ys
  | [], [] => PyProof.Rows.lex_irrefl _
  | [], y :: ys => by
    show rowLt [] (PyData.int y :: ys.map .int) = _
    unfold rowLt
    rw [toks_all_cons]
    rfl
  | x :: xs, [] => by
    show rowLt (PyData.int x :: xs.map .int) [] = _
    unfold rowLt
    rw [toks_all_cons]
    rfl
  | x :: xs, y :: ys => by
    show rowLt (PyData.int x :: xs.map .int) (PyData.int y :: ys.map .int) = _
    unfold rowLt
    rw [dataLt_cons (by simp [alike]), HT.lexLt_cons, ← rowLt_lex xs ys, dataLt_int]
    simp only [PyData.eqv, beq_iff_eq]
    rfl
theorem dataLt_lex (xs ys : List Int) : dataLt (.tuple (xs.map .int)) (.tuple (ys.map .int)) = HT.lexLt xs ys := by
  rw [dataLt_tuple]
  exact rowLt_lex xs ys

section
variable {prog : Program} {w : World} {A : Around} {E : Value → Shared → Prop} {s : Shared}
theorem call_max_twoH {a b : Value} {Q : Value → Shared → Prop}
    (h : wpAny (model prog w) A.in1 (pyIter (.ref s.heap.objs.size)) (fun it s₂ => ∃ I fp wr G n P St H bt, it = .ref I ∧ WalksS prog w A.in1 I fp wr G n P St ∧ St 0 s₂ ∧ (∀ b ∈ fp, b < s₂.heap.objs.size) ∧ 0 < n ∧
      (∀ b o, H.get? b = some o → b ∉ wr) ∧ (∀ b o, H.get? b = some o → s₂.heap.get? b = some o) ∧ CmpIn prog w A.in1 .Gt H P bt ∧ ∀ v s', P (argBest bt (n - 1)) v → Moved wr G s₂ s' → Q v s') E
      { s with heap := s.heap.push { cls := .type "tuple", data := .seq #[a, b] } }) :
    wpAny (model prog w) A (call (.builtin "max") [a, b]) Q E s := by
  have hname : (toString "max" ++ toString ".loop" : String) = "max.loop" := by decide
  refine call_function_tree F.kind_max F.plain_max F.entry_max (F.args_max2 _ _) ?_
  show wpAny _ A.in1 (Builtin.Builtins.bindParams "max" ["key", "default"] 0 ⟨[], []⟩ >>= _) _ _ s
  refine wpAny_bind (wpAny_of_eq (show Builtin.Builtins.bindParams "max" ["key", "default"] 0 ⟨[], []⟩ = pure [none, none] from rfl) ?_)
  show wpAny _ A.in1 (newTuple [a, b] >>= _) _ _ s
  refine wpAny_bind (wpAny_newObj_type ?_)
  refine wpAny_bind (wpAny_mono h (fun it s₂ h₂ => ?_) fun _ _ e => e)
  obtain ⟨I, fp, wr, G, n, P, St, H, bt, rfl, W, hst, hfp, hn, hw, hkeep, hcmp, hQ⟩ := h₂
  refine wpAny_bind (wpAny_newObj_type ?_)
  have hSf : s₂.heap.objs.size ∉ fp := fun hm => Nat.lt_irrefl _ (hfp _ hm)
  rw [hname]
  refine wpAny_pure ⟨plainId_quiet F.plain_max_loop _, codeAny_max_loop_firstH W H hw bt hcmp s₂.heap.objs.size hSf (fresh_in hkeep) _ hn (fun b o e => Heap.get?_push_of_some _ (hkeep b o e)) (W.frame 0 s₂ _ s₂.toks hst (Nat.le_refl _) fun b _ o e => Heap.get?_push_of_some _ e) (Heap.get?_push_size _ rfl) fun v s' hP hm => ?_⟩
  exact hQ v s' hP (Moved.drop_new (tk := s₂.toks) hm (Nat.le_refl _))
theorem call_min_twoH {a b : Value} {Q : Value → Shared → Prop}
    (h : wpAny (model prog w) A.in1 (pyIter (.ref s.heap.objs.size)) (fun it s₂ => ∃ I fp wr G n P St H bt, it = .ref I ∧ WalksS prog w A.in1 I fp wr G n P St ∧ St 0 s₂ ∧ (∀ b ∈ fp, b < s₂.heap.objs.size) ∧ 0 < n ∧
      (∀ b o, H.get? b = some o → b ∉ wr) ∧ (∀ b o, H.get? b = some o → s₂.heap.get? b = some o) ∧ CmpIn prog w A.in1 .Lt H P bt ∧ ∀ v s', P (argBest bt (n - 1)) v → Moved wr G s₂ s' → Q v s') E
      { s with heap := s.heap.push { cls := .type "tuple", data := .seq #[a, b] } }) :
    wpAny (model prog w) A (call (.builtin "min") [a, b]) Q E s := by
  have hname : (toString "min" ++ toString ".loop" : String) = "min.loop" := by decide
  refine call_function_tree F.kind_min F.plain_min F.entry_min (F.args_min2 _ _) ?_
  show wpAny _ A.in1 (Builtin.Builtins.bindParams "min" ["key", "default"] 0 ⟨[], []⟩ >>= _) _ _ s
  refine wpAny_bind (wpAny_of_eq (show Builtin.Builtins.bindParams "min" ["key", "default"] 0 ⟨[], []⟩ = pure [none, none] from rfl) ?_)
  show wpAny _ A.in1 (newTuple [a, b] >>= _) _ _ s
  refine wpAny_bind (wpAny_newObj_type ?_)
  refine wpAny_bind (wpAny_mono h (fun it s₂ h₂ => ?_) fun _ _ e => e)
  obtain ⟨I, fp, wr, G, n, P, St, H, bt, rfl, W, hst, hfp, hn, hw, hkeep, hcmp, hQ⟩ := h₂
  refine wpAny_bind (wpAny_newObj_type ?_)
  have hSf : s₂.heap.objs.size ∉ fp := fun hm => Nat.lt_irrefl _ (hfp _ hm)
  rw [hname]
  refine wpAny_pure ⟨plainId_quiet F.plain_min_loop _, codeAny_min_loop_firstH W H hw bt hcmp s₂.heap.objs.size hSf (fresh_in hkeep) _ hn (fun b o e => Heap.get?_push_of_some _ (hkeep b o e)) (W.frame 0 s₂ _ s₂.toks hst (Nat.le_refl _) fun b _ o e => Heap.get?_push_of_some _ e) (Heap.get?_push_size _ rfl) fun v s' hP hm => ?_⟩
  exact hQ v s' hP (Moved.drop_new (tk := s₂.toks) hm (Nat.le_refl _))
theorem old2 {s : Shared} {o1 o2 : Obj} {s' : Shared} (m : Moved [(s.heap.push o1).objs.size] (fun a b => b = a) ({ { s with heap := s.heap.push o1 } with heap := (s.heap.push o1).push o2 } : Shared) s') : ∃ h' tk, s' = { s with heap := h', toks := tk } ∧ ∀ b o, s.heap.get? b = some o → h'.get? b = some o := by
  refine ⟨s'.heap, s'.toks, ?_, fun b ob eb => m.heap b ob (fun hb => ?_) (Heap.get?_push_of_some _ (Heap.get?_push_of_some _ eb))⟩
  · obtain ⟨hp, g, d, tk, os⟩ := s'
    have h1 : g = s.gens := m.gens
    have h2 : d = s.drawn := m.drawn
    have h3 : os = s.os := m.os
    subst h1
    subst h2
    subst h3
    rfl
  · have h2 : b < s.heap.objs.size := Heap.lt_size eb
    rw [List.mem_singleton.mp hb, Heap.size_push] at h2
    exact absurd h2 (Nat.not_lt.mpr (Nat.le_succ _))
/-- two data that are alike -/
def alike2 (p q : PyData) : Bool := alike p p && (alike p q && (alike q p && alike q q))
theorem alikeAll2 {p q : PyData} (h : alike2 p q = true) (hp : p ≠ .none) (hq : q ≠ .none) : AlikeAll [p, q] := by
  unfold alike2 at h
  simp only [Bool.and_eq_true] at h
  obtain ⟨h1, h2, h3, h4⟩ := h
  refine ⟨fun x hx y hy => ?_, fun x hx => ?_⟩
  · simp only [List.mem_cons, List.not_mem_nil, or_false] at hx hy
    rcases hx with rfl | rfl <;> rcases hy with rfl | rfl <;> assumption
  · simp only [List.mem_cons, List.not_mem_nil, or_false] at hx
    rcases hx with rfl | rfl <;> assumption
theorem two_best {bt : Nat → Nat → Bool} {a b v : Value} (h : #[a, b][argBest bt (#[a, b].size - 1)]? = some v) : v = if bt 1 0 then b else a := by
  have e : argBest bt (#[a, b].size - 1) = if bt 1 0 then 1 else 0 := rfl
  rw [e] at h
  cases hb : bt 1 0 with
  | true => rw [hb] at h; simpa using h.symm
  | false => rw [hb] at h; simpa using h.symm
theorem depth2 {p q : PyData} {n : Nat} (h1 : p.depth ≤ n) (h2 : q.depth ≤ n) : PyData.depthAll [p, q] ≤ n := by
  simp only [PyData.depthAll]
  exact Nat.max_le.mpr ⟨h1, Nat.max_le.mpr ⟨h2, Nat.zero_le _⟩⟩
theorem max_two_data {a b : Value} {p q : PyData} {as bs : List Addr} {n : Nat} {Q : Value → Shared → Prop} (hh : A.handled = none) (ra : Reads s.heap a p as) (rb : Reads s.heap b q bs) (ha : alike2 p q = true) (hp : p ≠ .none) (hq : q ≠ .none) (d1 : p.depth ≤ n) (d2 : q.depth ≤ n) (hu : A.units + 1 + n < cLine)
    (h : ∀ h' tk, (∀ b o, s.heap.get? b = some o → h'.get? b = some o) → Q (if dataLt p q then b else a) { s with heap := h', toks := tk }) :
    wpAny (model prog w) A (call (.builtin "max") [a, b]) Q E s := by
  have hT : (s.heap.push { cls := .type "tuple", data := .seq #[a, b] }).IsTuple s.heap.objs.size #[a, b] := ⟨_, Heap.get?_push_size _ rfl, rfl, 0, rfl⟩
  have hd := depth2 d1 d2
  refine call_max_twoH (iter_tupleW (A := A.in1) hh hT fun s₂ e W st hfp hw hk => ?_)
  have hr : ReadsAll (s.heap.push { cls := .type "tuple", data := .seq #[a, b] }) #[a, b].toList [p, q] (as ++ (bs ++ [])) := .cons (reads_keeps (fun b o e => Heap.get?_push_of_some _ e) ra) (.cons (reads_keeps (fun b o e => Heap.get?_push_of_some _ e) rb) .nil)
  have hc : CmpIn prog w A.in1 .Gt (s.heap.push { cls := .type "tuple", data := .seq #[a, b] }) (fun i v => #[a, b][i]? = some v) (fun i j => dataLt ([p, q].getD j .none) ([p, q].getD i .none)) :=
    cmpIn_gt (s := { s with heap := s.heap.push { cls := .type "tuple", data := .seq #[a, b] } }) hr (alikeAll2 ha hp hq) (by show A.units + 1 + _ < _; omega)
  refine ⟨_, _, _, _, _, _, _, _, _, rfl, W, st, hfp, (Nat.zero_lt_succ 1), hw, hk, hc, fun v s' hP m => ?_⟩
  subst e
  obtain ⟨h', tk, rfl, hk'⟩ := old2 m
  rw [two_best hP]
  exact h h' tk hk'
theorem min_two_data {a b : Value} {p q : PyData} {as bs : List Addr} {n : Nat} {Q : Value → Shared → Prop} (hh : A.handled = none) (ra : Reads s.heap a p as) (rb : Reads s.heap b q bs) (ha : alike2 p q = true) (hp : p ≠ .none) (hq : q ≠ .none) (d1 : p.depth ≤ n) (d2 : q.depth ≤ n) (hu : A.units + 1 + n < cLine)
    (h : ∀ h' tk, (∀ b o, s.heap.get? b = some o → h'.get? b = some o) → Q (if dataLt q p then b else a) { s with heap := h', toks := tk }) :
    wpAny (model prog w) A (call (.builtin "min") [a, b]) Q E s := by
  have hT : (s.heap.push { cls := .type "tuple", data := .seq #[a, b] }).IsTuple s.heap.objs.size #[a, b] := ⟨_, Heap.get?_push_size _ rfl, rfl, 0, rfl⟩
  have hd := depth2 d1 d2
  refine call_min_twoH (iter_tupleW (A := A.in1) hh hT fun s₂ e W st hfp hw hk => ?_)
  have hr : ReadsAll (s.heap.push { cls := .type "tuple", data := .seq #[a, b] }) #[a, b].toList [p, q] (as ++ (bs ++ [])) := .cons (reads_keeps (fun b o e => Heap.get?_push_of_some _ e) ra) (.cons (reads_keeps (fun b o e => Heap.get?_push_of_some _ e) rb) .nil)
  have hc : CmpIn prog w A.in1 .Lt (s.heap.push { cls := .type "tuple", data := .seq #[a, b] }) (fun i v => #[a, b][i]? = some v) (fun i j => dataLt ([p, q].getD i .none) ([p, q].getD j .none)) :=
    cmpIn_lt (s := { s with heap := s.heap.push { cls := .type "tuple", data := .seq #[a, b] } }) hr (alikeAll2 ha hp hq) (by show A.units + 1 + _ < _; omega)
  refine ⟨_, _, _, _, _, _, _, _, _, rfl, W, st, hfp, (Nat.zero_lt_succ 1), hw, hk, hc, fun v s' hP m => ?_⟩
  subst e
  obtain ⟨h', tk, rfl, hk'⟩ := old2 m
  rw [two_best hP]
  exact h h' tk hk'
end

/-! ### max(a, b), min(a, b): numbers, tuples of numbers -/
def fMax2D : List D → Sto → Rt
  | [.int i, .int j], st => okD (if i < j then .int j else .int i) st
  | [.tup a, .tup b], st => match intsOf a, intsOf b with
    | some x, some y => okD (if HT.lexLt x y then .tup b else .tup a) st
    | _, _ => none
  | _, _ => none
def fMin2D : List D → Sto → Rt
  | [.int i, .int j], st => okD (if j < i then .int j else .int i) st
  | [.tup a, .tup b], st => match intsOf a, intsOf b with
    | some x, some y => okD (if HT.lexLt y x then .tup b else .tup a) st
    | _, _ => none
  | _, _ => none
theorem mono_fMax2D : MonoFA fMax2D := by
  intro d st r st' h
  unfold fMax2D at h
  repeat' (split at h)
  all_goals first | exact mono_ok h | cases h
theorem mono_fMin2D : MonoFA fMin2D := by
  intro d st r st' h
  unfold fMin2D at h
  repeat' (split at h)
  all_goals first | exact mono_ok h | cases h
/-- of two data the second, if k says so -/
def rBest (K : PySem.W.Frag) (k : PyData → PyData → Bool) : List V → Hp → VK → Prop := fun xs H Q => ∃ x y p q, xs = [x, y] ∧ Dp K H x p ∧ Dp K H y q ∧ alike2 p q = true ∧ p ≠ .none ∧ q ≠ .none ∧ p.depth ≤ 8 ∧ q.depth ≤ 8 ∧ Q (cond (k p q) y x) H
section
variable {X : Cx} {Γ : Gam}
theorem cr_max2D (hc : X.calm = true) (hu : X.A.units + 64 < cLine) : CallR X (.builtin "max") (rBest X.K fun p q => dataLt p q) := by
  intro pins s σ H xs us Q I r h
  obtain ⟨x, y, p, q, rfl, hx, hy, ha, hp, hq, d1, d2, h⟩ := h
  obtain ⟨u, w', rfl, r1, r2⟩ := vals2 r
  obtain ⟨as, k1⟩ := hx.reads I _ _ _ r1
  obtain ⟨bs, k2⟩ := hy.reads I _ _ _ r2
  refine max_two_data (I.ok.hd hc) k1 k2 ha hp hq d1 d2 (by omega) fun h' tk k => ⟨_, H, I.kept k, ?_, h⟩
  dsimp only
  cases dataLt p q with
  | true => exact r2
  | false => exact r1
theorem cr_min2D (hc : X.calm = true) (hu : X.A.units + 64 < cLine) : CallR X (.builtin "min") (rBest X.K fun p q => dataLt q p) := by
  intro pins s σ H xs us Q I r h
  obtain ⟨x, y, p, q, rfl, hx, hy, ha, hp, hq, d1, d2, h⟩ := h
  obtain ⟨u, w', rfl, r1, r2⟩ := vals2 r
  obtain ⟨as, k1⟩ := hx.reads I _ _ _ r1
  obtain ⟨bs, k2⟩ := hy.reads I _ _ _ r2
  refine min_two_data (I.ok.hd hc) k1 k2 ha hp hq d1 d2 (by omega) fun h' tk k => ⟨_, H, I.kept k, ?_, h⟩
  dsimp only
  cases dataLt q p with
  | true => exact r2
  | false => exact r1
theorem dpAll_ints {K : PySem.W.Frag} {H : Hp} : ∀ ns : List Int, DpAll K H (ns.map V.int) (ns.map PyData.int)
  | [] => .nil
  | n :: ns => .cons (.int n) (dpAll_ints ns)
theorem alike2_ints (xs ys : List Int) : alike2 (.tuple (xs.map .int)) (.tuple (ys.map .int)) = true := by
  unfold alike2
  simp only [alike, alike_ints]
  decide
theorem alike2_int (x y : Int) : alike2 (.int x) (.int y) = true := by
  simp [alike2, alike]
theorem depth_int (x : Int) : (PyData.int x).depth ≤ 8 := by
  simp only [PyData.depth]
  decide
theorem depth_tupInts (xs : List Int) : (PyData.tuple (xs.map .int)).depth ≤ 8 := by
  simp only [PyData.depth, depth_ints]
  decide
theorem cs_max2D : CallSim Γ (rBest Γ.K fun p q => dataLt p q) fMax2D := fun
  | m, st, H, _, [.int i, .int j], Q, E, s, .cons (.int _) (.cons (.int _) .nil), h => by
    refine ⟨_, _, .int i, .int j, rfl, .int i, .int j, alike2_int _ _, (fun z => by cases z), (fun z => by cases z), depth_int _, depth_int _, ?_⟩
    dsimp only [fMax2D] at h
    dsimp only
    rw [dataLt_int]
    by_cases hj : i < j
    · rw [if_pos hj] at h
      rw [decide_eq_true hj]
      exact h.ok s (.int _)
    · rw [if_neg hj] at h
      rw [decide_eq_false hj]
      exact h.ok s (.int _)
  | m, st, H, _, [.tup a, .tup b], Q, E, s, .cons (.tup (a := p) (vs := xs) h1 r1) (.cons (.tup (a := q) (vs := ys) h2 r2) .nil), h => by
    dsimp only [fMax2D] at h
    split at h
    · rename_i x y e1 e2
      have k1 := h1
      have k2 := h2
      rw [intsOf_vals r1 e1] at k1
      rw [intsOf_vals r2 e2] at k2
      refine ⟨_, _, .tuple (x.map .int), .tuple (y.map .int), rfl, .tup k1 (dpAll_ints _), .tup k2 (dpAll_ints _), alike2_ints _ _, (fun z => by cases z), (fun z => by cases z), depth_tupInts _, depth_tupInts _, ?_⟩
      dsimp only
      rw [dataLt_lex]
      by_cases hj : HT.lexLt x y = true
      · rw [if_pos hj] at h
        rw [hj]
        exact h.ok s (.tup h2 r2)
      · rw [if_neg hj] at h
        rw [Bool.not_eq_true] at hj
        rw [hj]
        exact h.ok s (.tup h1 r1)
    · exact h.elim
theorem cs_min2D : CallSim Γ (rBest Γ.K fun p q => dataLt q p) fMin2D := fun
  | m, st, H, _, [.int i, .int j], Q, E, s, .cons (.int _) (.cons (.int _) .nil), h => by
    refine ⟨_, _, .int i, .int j, rfl, .int i, .int j, alike2_int _ _, (fun z => by cases z), (fun z => by cases z), depth_int _, depth_int _, ?_⟩
    dsimp only [fMin2D] at h
    dsimp only
    rw [dataLt_int]
    by_cases hj : j < i
    · rw [if_pos hj] at h
      rw [decide_eq_true hj]
      exact h.ok s (.int _)
    · rw [if_neg hj] at h
      rw [decide_eq_false hj]
      exact h.ok s (.int _)
  | m, st, H, _, [.tup a, .tup b], Q, E, s, .cons (.tup (a := p) (vs := xs) h1 r1) (.cons (.tup (a := q) (vs := ys) h2 r2) .nil), h => by
    dsimp only [fMin2D] at h
    split at h
    · rename_i x y e1 e2
      have k1 := h1
      have k2 := h2
      rw [intsOf_vals r1 e1] at k1
      rw [intsOf_vals r2 e2] at k2
      refine ⟨_, _, .tuple (x.map .int), .tuple (y.map .int), rfl, .tup k1 (dpAll_ints _), .tup k2 (dpAll_ints _), alike2_ints _ _, (fun z => by cases z), (fun z => by cases z), depth_tupInts _, depth_tupInts _, ?_⟩
      dsimp only
      rw [dataLt_lex]
      by_cases hj : HT.lexLt y x = true
      · rw [if_pos hj] at h
        rw [hj]
        exact h.ok s (.tup h2 r2)
      · rw [if_neg hj] at h
        rw [Bool.not_eq_true] at hj
        rw [hj]
        exact h.ok s (.tup h1 r1)
    · exact h.elim
end
end MP
end
section
set_option maxRecDepth 100000
set_option maxHeartbeats 1000000
namespace MP
open PySem PySem.Spec PyProof.Rows L2
open Sem (wp)
/-! ### enumerate of a tuple -/
set_option maxHeartbeats 1000000 in
theorem meets_enumerate_newB1 {v : Value} {o : Obj} {H : Heap → Prop} (B : Begins v o H) :
    Meets (Builtin.«enumerate.__new__» ⟨[.type "enumerate", v], []⟩) (fun _ R s => H s.heap ∧
      R (.ok (.ret (.ref (s.heap.push o).objs.size))) { s with heap := (s.heap.push o).push { cls := .type "enumerate", data := .fields #[.none, .bool false, .ref s.heap.objs.size, rawInt 0, .none, .none] } }) :=
  .of_wp fun prog w A R s h => by
    obtain ⟨hp, g, d, tk, os⟩ := s; obtain ⟨h1, h⟩ := h
    have hsub := sub_enumerate
    have q1 : ∀ {A' : Around} {E : Value → Shared → Prop} {Q : Value → Shared → Prop}, Q (.ref hp.objs.size) ⟨hp.push o, g, d, tk, os⟩ → wpAny (model prog w) A' (pyIter v) Q E ⟨hp, g, d, tk, os⟩ :=
      fun q => B.iter prog w _ _ ⟨hp, g, d, tk, os⟩ _ h1 q
    wp_walk using q1
    refine wpAny_stack_any fun st => wpAny_pure ?_
    split
    · rename_i c _ _ _ _ _
      cases (c == Value.type "enumerate")
      · wp_walk using q1
        exact ⟨_, rfl, h⟩
      · wp_walk using q1
        exact ⟨_, rfl, h⟩
    · wp_walk using q1
      exact ⟨_, rfl, h⟩
section
variable {prog : Program} {w : World} {A : Around} {E : Value → Shared → Prop} {s : Shared}
theorem enum_begins1 {v : Value} {o : Obj} {H : Heap → Prop} {Q : Value → Shared → Prop} (B : Begins v o H) (h1 : H s.heap)
    (h : ∀ h', IsEnum h' (s.heap.objs.size + 1) s.heap.objs.size 0 .none → h'.get? s.heap.objs.size = some o → h'.objs.size = s.heap.objs.size + 2 →
      (∀ b o, s.heap.get? b = some o → h'.get? b = some o) → Q (.ref (s.heap.objs.size + 1)) { s with heap := h' }) :
    wpAny (model prog w) A (call (.type "enumerate") [v]) Q E s := by
  refine callType_new F.called_enumerate (by decide) (F.typeCall_enumerate_1 _) (F.newCall_enumerate_1 _) (fun obj => F.args_object_init_2 obj _) F.entry_enumerate_new
    (meets_enumerate_newB1 B) ⟨h1, ?_⟩
  have hz : (s.heap.push o).objs.size = s.heap.objs.size + 1 := Heap.size_push ..
  show _ ∧ _
  rw [hz]
  have he : IsEnum ((s.heap.push o).push { cls := .type "enumerate", data := .fields #[.none, .bool false, .ref s.heap.objs.size, rawInt 0, .none, .none] }) (s.heap.objs.size + 1) s.heap.objs.size 0 .none := by
    have := Heap.get?_push_size (s.heap.push o) (o := { cls := .type "enumerate", data := .fields #[.none, .bool false, .ref s.heap.objs.size, rawInt 0, .none, .none] }) rfl
    rw [hz] at this; exact this
  refine ⟨⟨_, he, rfl⟩, h _ he (Heap.get?_push_of_some _ (Heap.get?_push_size _ B.free)) (by rw [Heap.size_push, hz]) fun b o x => Heap.get?_push_of_some _ (Heap.get?_push_of_some _ x)⟩
end
/-- the tuple at a, each item in a new pair -/
def Itte (K : PySem.W.Frag) (a : Addr) : It :=
  ⟨fun i H => ∃ (xs : List V) (x : V), SqT K H a xs ∧ xs[i]? = some x, fun i H v H' => ∃ T x, v = .ref T ∧ H T = none ∧ H' = upd H T (.tup [.int (i : Nat), x]) ∧ ∀ xs, SqT K H a xs → xs[i]? = some x, fun i H => ∃ xs : List V, SqT K H a xs ∧ xs.length = i⟩
theorem turn_enumT {P : Program} {w : World} {K : PySem.W.Frag} {elts : List Expr} {kk : Nat} {tpos : Pos} (a e it : Addr) :
    Turn P w K (.Tuple elts kk tpos) (Itte K a) [e, it] e (fun i h => (∃ old, IsEnum h e it ((i : Nat) : Int) old) ∧ h.IsTupleIter it a i ∧ e ≠ it) where
  mem := by simp
  obj := fun i h st b hb => by
    obtain ⟨⟨old, he⟩, ⟨o, ho, hc, hd⟩, _⟩ := st
    have e' : b = e ∨ b = it := by simpa using hb
    rcases e' with z | z
    · rw [z]; exact ⟨_, he, fun v q => nomatch q⟩
    · rw [z]; exact ⟨o, ho, fun v q => by rw [hd] at q; cases q⟩
  keep := fun i h h' st k => let ⟨⟨old, he⟩, hi, hne⟩ := st; ⟨⟨old, k e (by simp) _ he⟩, hi.at fun o q => k it (by simp) o q, hne⟩
  item := by
    intro X hP hw hK hc i pins s σ H E I hf st hg
    subst hP hw hK
    obtain ⟨⟨old, he⟩, hit, hne⟩ := st
    obtain ⟨xs, x, hq, hx⟩ := hg
    obtain ⟨its, rv, p, hz⟩ := I.tuple hq
    obtain ⟨u, hu, ru⟩ := rv.get hx
    have p : s.heap.IsTuple a its.toArray := p
    have hel : e < s.heap.objs.size := Heap.lt_size he
    have hil : it < s.heap.objs.size := by obtain ⟨_, q, _⟩ := hit; exact Heap.lt_size q
    have hia : a ≠ it := fun z => by
      obtain ⟨o, q1, q2, _⟩ := hit
      obtain ⟨o', q1', q2', _⟩ := p
      rw [z, q1] at q1'
      cases q1'
      rw [q2] at q2'
      exact absurd q2' (by decide)
    have hea : e ≠ a := fun z => by
      obtain ⟨o', q1', q2', _⟩ := p
      rw [← z, he] at q1'
      cases q1'
      exact absurd (Value.type.inj q2') (by decide)
    have hlt : i < its.toArray.size := by
      by_cases hl : i < its.toArray.size
      · exact hl
      · rw [List.getElem?_eq_none (by simpa using hl)] at hu
        cases hu
    refine wpAny_pyNext_enum_itemC (Draws.tuple (A := X.A.in1) (I.ok.hd hc) it a hia its.toArray) he ⟨hit, p⟩ hlt hne (by simp only [List.mem_cons, List.not_mem_nil, or_false, not_or]; exact ⟨hne, hea⟩) fun x' h' tk hPx ho hst' hT hsz hk => ?_
    have hxu : x' = u := by
      have z : its.toArray[i]? = some x' := hPx
      rw [show its.toArray[i]? = some u by simpa using hu] at z
      exact (Option.some.inj z).symm
    subst hxu
    refine ⟨_, rfl, wpAny_letOwnedTupleGo_enum (s := { s with heap := h', toks := tk + 1 }) ho fun h'' he' sb => ?_⟩
    have hT2 : h''.get? s.heap.objs.size = some { cls := .type "tuple", data := .seq #[.int i tk, x'] } := (sb.2 _ (Nat.ne_of_gt hel)).trans hT
    have new : ObjOk X.prog X.w (upd H s.heap.objs.size (.tup [.int (i : Nat), x])) h'' s.heap.objs.size (.tup [.int (i : Nat), x]) :=
      ⟨by show 2 ≤ sizeLine; decide, [.int i tk, x'], .cons ⟨_, rfl⟩ (.cons ru .nil), ⟨_, hT2, rfl, _, rfl⟩⟩
    have I1 : Inv X pins σ (upd H s.heap.objs.size (.tup [.int (i : Nat), x])) { s with heap := h'', toks := tk + 1 } :=
      I.turnedNew (ch := [e, it]) (fun b ob hb q => (sb.2 b (fun z => hb (by simp [z]))).trans (hk b ob (fun z => hb (by simp [z])) (fun z => hb (by simp [z])) q)) hf (Nat.le_refl _) new
    refine ⟨.ref s.heap.objs.size, _, I1, rfl, ⟨_, x, rfl, I.hok.fresh (Nat.le_refl _), rfl, fun ys hy => by rw [I.tuple_inj hy hq]; exact hx⟩, ⟨⟨x', ?_⟩, hst'.1.at fun o q => (sb.2 it (Ne.symm hne)).trans q, hne⟩, fun b hb => ?_⟩
    · have e1 : ((i + 1 : Nat) : Int) = (i : Int) + 1 := by omega
      rw [e1]; exact he'
    · have hb' : b < s.heap.objs.size := by
        have e' : b = e ∨ b = it := by simpa using hb
        rcases e' with z | z
        · rw [z]; exact hel
        · rw [z]; exact hil
      rw [upd_ne (Nat.ne_of_lt hb')]
      exact (hf b hb).1
  done := by
    intro X hP hw hK hc i pins s σ H E I hf st hg
    subst hP hw hK
    obtain ⟨⟨old, he⟩, hit, hne⟩ := st
    obtain ⟨xs, hq, hx⟩ := hg
    obtain ⟨its, rv, p, hz⟩ := I.tuple hq
    have p : s.heap.IsTuple a its.toArray := p
    obtain ⟨f0, f1, f2, f3, f4, f5⟩ := hf it (by simp)
    have hl := rv.length
    have hia : a ≠ it := fun z => by
      obtain ⟨o, q1, q2, _⟩ := hit
      obtain ⟨o', q1', q2', _⟩ := p
      rw [z, q1] at q1'
      cases q1'
      rw [q2] at q2'
      exact absurd q2' (by decide)
    have hin : i = its.toArray.size := by rw [← hx, hl, List.size_toArray]
    subst hin
    exact wpAny_pyNext_enum_endD (Draws.tuple (A := X.A.in1) (I.ok.hd hc) it a hia its.toArray) he ⟨hit, p⟩ fun h' eb => ⟨rfl, I.turned (t' := s.toks) (fun b o hb q => eb b o hb q) f0 f1 f3 f4 f5⟩
  self := fun A i s Q E st h => let ⟨⟨_, he⟩, _⟩ := st; wpAny_pyIter_enum he h

section
variable {X : Cx} {Γ : Gam} {W : WX} {e a b c o tg : Expr} {da db dc : De} {pos p2 : Pos} {es rest : List Expr} {das : List De} {t : Tg} {ts : List Tg}
theorem pi_enumD {ta : TA} {p tpos : Pos} {elts : List Expr} {kk : Nat} (hg : Gl X "enumerate") (hm : X.mg "enumerate" = none) (ha : PA X [a] ta) (hs : starEach [a] X.env = [(false, eval a X.env)]) :
    PI X (.Tuple elts kk tpos) (.Call (.Name "enumerate" p) [a] [] pos) (fun σ H R => ta σ H fun vs H1 => ∃ q, vs = [.ref q] ∧ (((∃ xs, SqL X.K H1 q xs) ∧ R (Ite X.K q) H1) ∨ ((∃ xs, SqT X.K H1 q xs) ∧ R (Itte X.K q) H1))) := by
  refine ⟨fun pins s σ H R I h => ?_⟩
  refine Call_ (ld_blt I hg hm boot_enumerate (PyProof.Rows.callWith_type1 (thn (ha.run pos pins s σ H _ I h) fun us s1 ⟨vs, H1, I1, r1, q1⟩ => ?_) hs rfl))
  obtain ⟨q, ex, hq | hq⟩ := q1
  · obtain ⟨⟨xs, hq⟩, q1⟩ := hq
    subst ex
    cases r1 with
    | cons r rr =>
      cases rr
      cases r
      obtain ⟨its, rv, p', hz⟩ := I1.list hq
      refine call_enumerate_list p'.isList fun h' he hit hsz hk => wpAny_pyIter_enum he ?_
      have I2 : Inv X pins σ H1 { s1 with heap := h' } := I1.kept (t' := s1.toks) hk
      refine ⟨s1.heap.objs.size + 1, [s1.heap.objs.size + 1, s1.heap.objs.size], _, _, H1, rfl, I2, turn_enum q (s1.heap.objs.size + 1) s1.heap.objs.size, ⟨⟨.none, he⟩, hit, Nat.succ_ne_self _⟩, fun b hb => ?_, q1⟩
      have e' : b = s1.heap.objs.size + 1 ∨ b = s1.heap.objs.size := by simpa using hb
      have hle : s1.heap.objs.size ≤ b := by
        rcases e' with z | z
        · rw [z]; exact Nat.le_add_right _ _
        · rw [z]; exact Nat.le_refl _
      exact I1.fpOk hle (I1.hok.fresh hle)
  · obtain ⟨⟨xs, hq⟩, q1⟩ := hq
    subst ex
    cases r1 with
    | cons r rr =>
      cases rr
      cases r
      obtain ⟨its, rv, p', hz⟩ := I1.tuple hq
      refine enum_begins1 (begins_tuple q its.toArray) (show s1.heap.IsTuple q its.toArray from p') fun h' he hit hsz hk => wpAny_pyIter_enum he ?_
      have I2 : Inv X pins σ H1 { s1 with heap := h' } := I1.kept (t' := s1.toks) hk
      refine ⟨s1.heap.objs.size + 1, [s1.heap.objs.size + 1, s1.heap.objs.size], _, _, H1, rfl, I2, turn_enumT q (s1.heap.objs.size + 1) s1.heap.objs.size, ⟨⟨.none, he⟩, ⟨_, hit, rfl, rfl⟩, Nat.succ_ne_self _⟩, fun b hb => ?_, q1⟩
      have e' : b = s1.heap.objs.size + 1 ∨ b = s1.heap.objs.size := by simpa using hb
      have hle : s1.heap.objs.size ≤ b := by
        rcases e' with z | z
        · rw [z]; exact Nat.le_add_right _ _
        · rw [z]; exact Nat.le_refl _
      exact I1.fpOk hle (I1.hok.fresh hle)
def enumL (l : List D) : List D := (List.range l.length).map fun i => .tup [.int (i : Nat), l.getD i .non]
theorem enumL_len {l : List D} : (enumL l).length = l.length := by simp [enumL]
theorem enumL_get {l : List D} {i : Nat} {d : D} (h : l[i]? = some d) : (enumL l)[i]? = some (.tup [.int (i : Nat), d]) := by
  have hi := get_lt h
  have e : l.getD i .non = d := by rw [List.getD_eq_getElem?_getD, h]; rfl
  unfold enumL
  rw [List.getElem?_map, List.getElem?_range hi, Option.map_some, e]
def fEnum : List D → Sto → Option (RsI × Sto)
  | [.tup l], st => some (.it (enumL l) none, st)
  | [.obj n], st => match st[n]? with
    | some (.lst _ l) => some (.it (enumL l) (some (n, l)), st)
    | _ => none
  | _, _ => none
theorem mono_fEnum : ∀ ds st r st', fEnum ds st = some (r, st') → st.length ≤ st'.length := by
  intro d st r st' h
  unfold fEnum at h
  repeat' (split at h)
  all_goals first | (cases h; exact Nat.le_refl _) | cases h
theorem pair_new {m : Nat → Addr} {st : Sto} {H : Hp} {T : Addr} {i : Nat} {x : V} {d : D} (s : StR Γ m st H) (hT : H T = none) (rd : Rv Γ.K m st.length H d x) :
    Keep H (upd H T (.tup [.int (i : Nat), x])) ∧ StR Γ m st (upd H T (.tup [.int (i : Nat), x])) ∧ Rv Γ.K m st.length (upd H T (.tup [.int (i : Nat), x])) (.tup [.int (i : Nat), d]) (.ref T) := by
  have k : Keep H (upd H T (.tup [.int (i : Nat), x])) := .new hT
  refine ⟨k, ⟨fun j c hj => (s.cell j c hj).mono (Ext.refl _ _) (Nat.le_refl _) k fun o q => by rw [upd_ne (ne_of_none q hT)]; exact q, s.inj, tabs_new hT s.tabs⟩, ?_⟩
  exact Rv.tup (.inl (.inl upd_same)) (.cons (.int _) (.cons (rd.mono (Ext.refl _ _) (Nat.le_refl _) k) .nil))
theorem iterOk_enumL {m0 : Nat → Addr} {L0 : Nat} {H0 : Hp} {n : Nat} {l : List D} (hn : n < L0) : IterOk Γ (Ite Γ.K (m0 n)) (enumL l) (some (n, l)) m0 L0 H0 := by
  intro i m st H hi e hL k s hg
  rw [enumL_len] at hi ⊢
  obtain ⟨ro, hg⟩ := gdB_at hg
  obtain ⟨vs, a, r⟩ := s.list hg
  rw [e n hn] at a
  refine ⟨fun h => ⟨vs, a, by rw [h, r.length]; exact Nat.le_refl _⟩, fun h => ⟨?_, fun x H' y => ?_⟩⟩
  · have hv : i < vs.length := by rw [← r.length]; exact h
    exact ⟨vs, vs[i], a, by simp [hv]⟩
  · obtain ⟨T, w, rfl, hT, rfl, y⟩ := y
    obtain ⟨d, hd, rd⟩ := r.getV (y vs a)
    obtain ⟨k', s', r'⟩ := pair_new (i := i) s hT rd
    exact ⟨_, enumL_get hd, k', s', r'⟩
theorem iterOk_enumT {m0 : Nat → Addr} {L0 : Nat} {H0 : Hp} {a : Addr} {l : List D} {vs : List V} (ha : SqT Γ.K H0 a vs) (r : RvL Γ.K m0 L0 H0 l vs) : IterOk Γ (Itte Γ.K a) (enumL l) none m0 L0 H0 := by
  intro i m st H hi e hL k s _
  rw [enumL_len] at hi ⊢
  have a := k.sqT ha
  have r := r.mono e hL k
  refine ⟨fun h => ⟨vs, a, by rw [h, r.length]⟩, fun h => ⟨?_, fun x H' y => ?_⟩⟩
  · have hv : i < vs.length := by rw [← r.length]; exact h
    exact ⟨vs, vs[i], a, by simp [hv]⟩
  · obtain ⟨T, w, rfl, hT, rfl, y⟩ := y
    obtain ⟨d, hd, rd⟩ := r.getV (y vs a)
    obtain ⟨k', s', r'⟩ := pair_new (i := i) s hT rd
    exact ⟨_, enumL_get hd, k', s', r'⟩
theorem si_enum {p tpos : Pos} {elts : List Expr} {kk : Nat} (hK : X.K = Γ.K) (hg : Gl X "enumerate") (hm : X.mg "enumerate" = none) (ha : SimA X Γ W [a] das) (hs : starEach [a] X.env = [(false, eval a X.env)]) :
    SimI X Γ W (.Tuple elts kk tpos) (.Call (.Name "enumerate" p) [a] [] pos) (dAppI fEnum das) := by
  refine ⟨monoI_app ha.mono mono_fEnum, (pi_enumD hg hm ha.pa hs).imp fun σ H R ⟨m, ls, st, s, l, h⟩ => ?_⟩
  refine tA_bindI ha.mono s l mono_fEnum h fun m1 ds st1 vs H1 s1 l1 r1 q => ?_
  match ds, r1, q with
  | [.tup l], .cons (.tup (a := p) (vs := vs) h1 r1) .nil, q => exact ⟨p, rfl, .inr ⟨⟨vs, by rw [hK]; exact h1⟩, by rw [hK]; exact q.2 m1 H1 _ (Ext.refl _ _) (Keep.refl _) s1 (iterOk_enumT h1 r1)⟩⟩
  | [.obj n], .cons (.obj hn) .nil, q =>
    dsimp only [fEnum] at q
    split at q
    · rename_i ro l e
      obtain ⟨vs, a, r⟩ := s1.list e
      exact ⟨m1 n, rfl, .inl ⟨⟨vs, by rw [hK]; exact a⟩, by rw [hK]; exact q.2 m1 H1 _ (Ext.refl _ _) (Keep.refl _) s1 (iterOk_enumL hn)⟩⟩
    · exact q.elim
end
end MP
end
section
set_option maxRecDepth 100000
set_option maxHeartbeats 1000000
namespace MP
open PySem PySem.Spec PyProof.Rows L2

/-! ### sorted(set(xs)), xs a list of tuples of numbers -/
def insU (x : List Int) : List (List Int) → List (List Int)
  | [] => [x]
  | y :: r => if x = y then y :: r else if HT.lexLt x y then x :: y :: r else y :: insU x r
def sortU : List (List Int) → List (List Int)
  | [] => []
  | x :: r => insU x (sortU r)
theorem lex_total : ∀ x y : List Int, x ≠ y → HT.lexLt x y = false → HT.lexLt y x = true
  | [], [], h, _ => absurd rfl h
  | [], y :: ys, _, h => by rw [HT.lexLt_nil_cons] at h; cases h
  | x :: xs, [], _, _ => HT.lexLt_nil_cons x xs
  | x :: xs, y :: ys, hne, h => by
    rw [HT.lexLt_cons] at h ⊢
    by_cases e : x = y
    · subst e
      rw [if_pos rfl] at h ⊢
      exact lex_total xs ys (fun z => hne (by rw [z])) h
    · rw [if_neg e] at h
      rw [if_neg (Ne.symm e)]
      have := of_decide_eq_false h
      exact decide_eq_true (by omega)
theorem lex_irr (x : List Int) : HT.lexLt x x = false := by
  cases h : HT.lexLt x x with
  | false => rfl
  | true => rw [NtL.lex_asym x x h] at h; cases h
theorem lex_trans : ∀ x y z : List Int, HT.lexLt x y = true → HT.lexLt y z = true → HT.lexLt x z = true
  | [], [], _, h, _ => by rw [HT.lexLt_nil_nil] at h; cases h
  | [], _ :: _, [], _, h => by rw [HT.lexLt_cons_nil] at h; cases h
  | [], _ :: _, _ :: _, _, _ => HT.lexLt_nil_cons _ _
  | _ :: _, [], _, h, _ => by rw [HT.lexLt_cons_nil] at h; cases h
  | _ :: _, _ :: _, [], _, h => by rw [HT.lexLt_cons_nil] at h; cases h
  | x :: xs, y :: ys, z :: zs, h1, h2 => by
    rw [HT.lexLt_cons] at h1 h2 ⊢
    by_cases e1 : x = y
    · rw [if_pos e1] at h1
      subst e1
      by_cases e2 : x = z
      · rw [if_pos e2] at h2 ⊢
        exact lex_trans xs ys zs h1 h2
      · rw [if_neg e2] at h2 ⊢
        exact h2
    · rw [if_neg e1] at h1
      have a := of_decide_eq_true h1
      by_cases e2 : y = z
      · subst e2
        rw [if_neg e1]
        exact h1
      · rw [if_neg e2] at h2
        have b := of_decide_eq_true h2
        rw [if_neg (by omega)]
        exact decide_eq_true (by omega)
abbrev LtL (x y : List Int) : Prop := HT.lexLt x y = true
theorem insU_mem {x : List Int} : ∀ {l : List (List Int)} {a : List Int}, a ∈ insU x l ↔ a = x ∨ a ∈ l
  | [], a => by simp [insU]
  | y :: r, a => by
    unfold insU
    by_cases e : x = y
    · rw [if_pos e]
      subst e
      simp
    · rw [if_neg e]
      by_cases h : HT.lexLt x y = true
      · rw [if_pos h]
        simp
      · rw [if_neg h, List.mem_cons, insU_mem, List.mem_cons]
        constructor
        · rintro (h | h | h) <;> simp [h]
        · rintro (h | h | h) <;> simp [h]
theorem insU_sorted {x : List Int} : ∀ {l : List (List Int)}, l.Pairwise LtL → (insU x l).Pairwise LtL
  | [], _ => List.pairwise_singleton _ _
  | y :: r, h => by
    unfold insU
    obtain ⟨h1, h2⟩ := List.pairwise_cons.mp h
    by_cases e : x = y
    · rw [if_pos e]
      exact h
    · rw [if_neg e]
      by_cases q : HT.lexLt x y = true
      · rw [if_pos q]
        refine List.pairwise_cons.mpr ⟨fun a ha => ?_, h⟩
        rcases List.mem_cons.mp ha with rfl | ha
        · exact q
        · exact lex_trans _ _ _ q (h1 a ha)
      · rw [if_neg q]
        refine List.pairwise_cons.mpr ⟨fun a ha => ?_, insU_sorted h2⟩
        rcases insU_mem.mp ha with rfl | ha
        · exact lex_total _ _ e (by simpa using q)
        · exact h1 a ha
theorem sortU_mem : ∀ {l : List (List Int)} {a : List Int}, a ∈ sortU l ↔ a ∈ l
  | [], a => by simp [sortU]
  | y :: r, a => by unfold sortU; rw [insU_mem, sortU_mem, List.mem_cons]
theorem sortU_sorted : ∀ (l : List (List Int)), (sortU l).Pairwise LtL
  | [] => .nil
  | y :: r => insU_sorted (sortU_sorted r)
theorem sorted_uniq : ∀ {xs ys : List (List Int)}, xs.Pairwise LtL → ys.Pairwise LtL → (∀ a, a ∈ xs ↔ a ∈ ys) → xs = ys
  | [], [], _, _, _ => rfl
  | [], y :: ys, _, _, h => absurd ((h y).mpr (List.mem_cons_self ..)) (by simp)
  | x :: xs, [], _, _, h => absurd ((h x).mp (List.mem_cons_self ..)) (by simp)
  | x :: xs, y :: ys, h1, h2, h => by
    obtain ⟨a1, a2⟩ := List.pairwise_cons.mp h1
    obtain ⟨b1, b2⟩ := List.pairwise_cons.mp h2
    have e : x = y := by
      rcases List.mem_cons.mp ((h x).mp (List.mem_cons_self ..)) with e | m1
      · exact e
      · rcases List.mem_cons.mp ((h y).mpr (List.mem_cons_self ..)) with e | m2
        · exact e.symm
        · have z := NtL.lex_asym _ _ (a1 y m2)
          rw [b1 x m1] at z
          cases z
    subst e
    have ni : ∀ {l : List (List Int)}, (∀ a ∈ l, LtL x a) → x ∉ l := fun {l} q m => by
      have z := q x m
      rw [LtL, lex_irr] at z
      cases z
    rw [sorted_uniq a2 b2 fun a => ?_]
    constructor
    · intro m
      rcases List.mem_cons.mp ((h a).mp (List.mem_cons_of_mem _ m)) with e | q
      · subst e; exact absurd m (ni a1)
      · exact q
    · intro m
      rcases List.mem_cons.mp ((h a).mpr (List.mem_cons_of_mem _ m)) with e | q
      · subst e; exact absurd m (ni b1)
      · exact q
theorem code_lex {B : Int} : ∀ {a b : List Int}, a.length = b.length → TS.Bd B a → TS.Bd B b → a ≠ b → TS.code B a ≤ TS.code B b → HT.lexLt a b = true
  | [], [], _, _, _, h, _ => absurd rfl h
  | [], _ :: _, h, _, _, _, _ => by simp at h
  | _ :: _, [], h, _, _, _, _ => by simp at h
  | x :: xs, y :: ys, hl, h1, h2, hne, hle => by
    have hl' : xs.length = ys.length := by simpa using hl
    rw [HT.lexLt_cons]
    by_cases e : x = y
    · subst e
      rw [if_pos rfl]
      refine code_lex hl' h1.tail h2.tail (fun z => hne (by rw [z])) ?_
      exact Int.not_lt.mp fun z => Int.not_lt.mpr hle ((TS.code_same (B := B) (d := x) hl'.symm).mpr z)
    · rw [if_neg e]
      refine decide_eq_true ?_
      have q := fun z : y < x => Int.lt_irrefl _ (Int.lt_of_le_of_lt hle (TS.code_lt (B := B) hl'.symm h2.tail h1.tail z))
      have : ¬ y < x := q
      omega
/-- the data as rows of numbers -/
def rowsOf : List D → Option (List (List Int))
  | [] => some []
  | .tup l :: r => match intsOf l, rowsOf r with
    | some x, some t => some (x :: t)
    | _, _ => none
  | _ :: _ => none
def tupI (ns : List Int) : D := .tup (ns.map .int)
/-- alike, no number below 0, fewer than 64 -/
def rowsOk (rows : List (List Int)) : Bool := decide (rows.length < 64) && rows.all fun x => decide (x.length = (rows.headD [0]).length) && (decide (0 < x.length) && x.all fun i => decide (0 ≤ i))
def fSortSet : D → Sto → Rt
  | .obj n, st => match st[n]? with
    | some (.lst _ l) => match rowsOf l with
      | some rows => if rowsOk rows then okL ((sortU rows).map tupI) st else none
      | none => none
    | _ => none
  | _, _ => none
theorem mono_fSortSet : MonoF fSortSet := by
  intro d st r st' h
  unfold fSortSet at h
  repeat' (split at h)
  all_goals first | exact mono_okL h | cases h
def sumL (rows : List (List Int)) : Int := rows.foldr (fun x s => x.foldr (fun a t => a + t) s) 1
theorem sum1 : ∀ (x : List Int) (s : Int), (∀ i ∈ x, 0 ≤ i) → s ≤ x.foldr (fun a t => a + t) s ∧ ∀ i ∈ x, 0 < s → i < x.foldr (fun a t => a + t) s
  | [], s, _ => ⟨Int.le_refl _, fun i h => by simp at h⟩
  | a :: x, s, h => by
    obtain ⟨h1, h2⟩ := sum1 x s fun i hi => h i (List.mem_cons_of_mem _ hi)
    have h0 := h a (List.mem_cons_self ..)
    refine ⟨?_, fun i hi hs => ?_⟩
    · show s ≤ a + x.foldr (fun a t => a + t) s
      omega
    · show i < a + x.foldr (fun a t => a + t) s
      rcases List.mem_cons.mp hi with rfl | hi
      · omega
      · have := h2 i hi hs
        omega
theorem sum2 : ∀ (rows : List (List Int)), (∀ x ∈ rows, ∀ i ∈ x, 0 ≤ i) → 0 < sumL rows ∧ ∀ x ∈ rows, ∀ i ∈ x, i < sumL rows
  | [], _ => ⟨by decide, fun x h => by simp at h⟩
  | x :: rows, h => by
    obtain ⟨h1, h2⟩ := sum2 rows fun y hy => h y (List.mem_cons_of_mem _ hy)
    obtain ⟨k1, k2⟩ := sum1 x (sumL rows) (h x (List.mem_cons_self ..))
    refine ⟨Int.lt_of_lt_of_le h1 k1, fun y hy i hi => ?_⟩
    rcases List.mem_cons.mp hy with rfl | hy
    · exact k2 i hi h1
    · exact Int.lt_of_lt_of_le (h2 y hy i hi) k1
theorem rowsOf_vals {Γ : Gam} {m : Nat → Addr} {L : Nat} {H : Hp} : ∀ {ds : List D} {vs : List V} {rows : List (List Int)}, RvL Γ.K m L H ds vs → rowsOf ds = some rows →
    ∃ ks : List (Addr × List Int), vs = ks.map (fun p => V.ref p.1) ∧ ks.map (·.2) = rows ∧ ∀ p ∈ ks, SqT Γ.K H p.1 (p.2.map V.int)
  | [], _, _, .nil, h => by cases h; exact ⟨[], rfl, rfl, fun p hp => by simp at hp⟩
  | .tup l :: r, _, rows, .cons (.tup (a := a) (vs := vs) h1 r1) rs, h => by
    unfold rowsOf at h
    split at h
    · rename_i x t e1 e2
      cases h
      obtain ⟨ks, k1, k2, k3⟩ := rowsOf_vals rs e2
      rw [intsOf_vals r1 e1] at h1
      refine ⟨(a, x) :: ks, by rw [k1]; rfl, by rw [← k2]; rfl, fun p hp => ?_⟩
      rcases List.mem_cons.mp hp with rfl | hp
      · exact h1
      · exact k3 p hp
    · cases h
  | .non :: _, _, _, _, h => by cases h
  | .bl _ :: _, _, _, _, h => by cases h
  | .int _ :: _, _, _, _, h => by cases h
  | .str _ :: _, _, _, _, h => by cases h
  | .obj _ :: _, _, _, _, h => by cases h
theorem rvL_ints {K : PySem.W.Frag} {m : Nat → Addr} {L : Nat} {H : Hp} : ∀ ns : List Int, RvL K m L H (ns.map D.int) (ns.map V.int)
  | [] => .nil
  | n :: ns => .cons (.int n) (rvL_ints ns)
theorem rvL_rows {K : PySem.W.Frag} {m : Nat → Addr} {L : Nat} {H : Hp} : ∀ {ks : List (Addr × List Int)}, (∀ p ∈ ks, SqT K H p.1 (p.2.map V.int)) → RvL K m L H ((ks.map (·.2)).map tupI) (ks.map fun p => V.ref p.1)
  | [], _ => .nil
  | p :: ks, h => .cons (.tup (h p (List.mem_cons_self ..)) (rvL_ints _)) (rvL_rows fun q hq => h q (List.mem_cons_of_mem _ hq))
theorem StR.side {Γ : Gam} {m : Nat → Addr} {st : Sto} {H : Hp} {p : Addr} {o : HO} (s : StR Γ m st H) (hp : H p = none) : StR Γ m st (upd H p o) :=
  ⟨fun i c hi => (s.cell i c hi).mono (Ext.refl _ _) (Nat.le_refl _) (.new hp) fun o q => by rw [upd_ne (ne_of_none q hp)]; exact q, s.inj, tabs_new hp s.tabs⟩
section
variable {X : Cx} {Γ : Gam} {W : WX} {e a b c o : Expr} {da db dc : De} {pos pos' : Pos} {es rest : List Expr} {das : List De}
theorem sim_sortset {p p2 : Pos} (hK : X.K = Γ.K) (hc : X.calm = true) (hr : Room 0 X.A) (hg : Gl X "sorted") (hm : X.mg "sorted" = none) (hg2 : Gl X "set") (hm2 : X.mg "set" = none) (ha : Sim X Γ W a da)
    (he2 : starEach [a] X.env = (false, eval a X.env) :: starEach [] X.env) (he : starEach [.Call (.Name "set" p2) [a] [] pos'] X.env = (false, eval (.Call (.Name "set" p2) [a] [] pos') X.env) :: starEach [] X.env) :
    Sim X Γ W (.Call (.Name "sorted" p) [.Call (.Name "set" p2) [a] [] pos'] [] pos) (dUn fSortSet da) := by
  refine ⟨mono_un ha.mono mono_fSortSet, (pe_callB (cr_sortedT hc) hg hm boot_sorted (pa_cons (pe_callTy (cr_setOfT hc (by have := hr.units; omega)) hg2 hm2 boot_set (pa_cons ha.pe pa_nil he2) (by decide) (by decide) he2 rfl) pa_nil he) (by decide) (by decide) he rfl).imp fun σ H Q ⟨m, ls, st, s, l, h⟩ => ?_⟩
  obtain ⟨m0, ls0, st0, s0, l0, q0⟩ := tD_bind ha.mono s l mono_fSortSet h
  refine ⟨m0, ls0, st0, s0, l0, q0.imp fun v H1 ⟨m1, d, st1, s1, l1, r1, q1, _⟩ => ?_⟩
  match d, r1, q1 with
  | .obj n, .obj hn, q1 =>
    dsimp only [fSortSet] at q1
    split at q1
    · rename_i ro l0' e0
      split at q1
      · rename_i rows er
        split at q1
        · rename_i hok
          unfold rowsOk at hok
          obtain ⟨h64, hall⟩ := Bool.and_eq_true_iff.mp hok
          have h64 := of_decide_eq_true h64
          have hall : ∀ x ∈ rows, x.length = (rows.headD [0]).length ∧ 0 < x.length ∧ ∀ i ∈ x, 0 ≤ i := fun x hx => by
            have z := List.all_eq_true.mp hall x hx
            simpa using z
          obtain ⟨vs, hv, rv⟩ := s1.list e0
          obtain ⟨ks, k1, k2, k3⟩ := rowsOf_vals rv er
          rw [k1] at hv
          have hd : 1 ≤ (rows.headD [0]).length := by
            cases rows with
            | nil => decide
            | cons x r => exact (hall x (List.mem_cons_self ..)).2.1
          have hbd := (sum2 rows fun x hx => (hall x hx).2.2).2
          refine ⟨m1 n, ks, rfl, by rw [hK]; exact hv, by rw [hK]; exact k3, by rw [← List.length_map (f := (·.2)), k2]; exact h64, fun a0 L ha0 hsub hsup => ?_⟩
          have kA : Keep H1 (upd H1 a0 (SetTO X.prog X.w a0 L)) := .new ha0
          have hrow : ∀ p ∈ L, p.2 ∈ rows := fun p hp => by rw [← k2]; exact List.mem_map_of_mem (f := (·.2)) (hsub p hp)
          have hB : ∀ p ∈ L, p.2.length = (rows.headD [0]).length ∧ TS.Bd (sumL rows) p.2 := fun p hp => ⟨(hall _ (hrow p hp)).1, fun i hi => ⟨(hall _ (hrow p hp)).2.2 i hi, hbd _ (hrow p hp) i hi⟩⟩
          refine ⟨a0, L, (rows.headD [0]).length, sumL rows, rfl, upd_same, fun p hp => by rw [hK]; exact kA.sqT (k3 p (hsub p hp)), hd, hB, fun L' p0 hperm hnd _ hpw hp0 => ?_⟩
          have e : L'.map (·.2) = sortU rows := by
            refine sorted_uniq ?_ (sortU_sorted rows) fun x => ?_
            · rw [List.pairwise_map]
              have hne : L'.Pairwise fun q r => q.2 ≠ r.2 := List.pairwise_map.mp hnd
              refine List.Pairwise.imp_of_mem (fun {q r} hq hr hh => ?_) (hpw.and hne)
              have b1 := hB q (hperm.mem_iff.mp hq)
              have b2 := hB r (hperm.mem_iff.mp hr)
              exact code_lex (b1.1.trans b2.1.symm) b1.2 b2.2 hh.2 hh.1
            · rw [sortU_mem, List.mem_map]
              constructor
              · rintro ⟨q, hq, rfl⟩
                exact hrow q (hperm.mem_iff.mp hq)
              · intro hx
                rw [← k2] at hx
                obtain ⟨q, hq, rfl⟩ := List.mem_map.mp hx
                obtain ⟨r, hr, e⟩ := List.mem_map.mp (hsup q hq)
                exact ⟨r, hperm.mem_iff.mpr hr, e⟩
          have q2 : Res Γ m1 st1.length (upd H1 a0 (SetTO X.prog X.w a0 L)) (okL ((sortU rows).map tupI) st1) Q (fun c d H' => W c d σ H') :=
            q1.mono (Ext.refl _ _) kA (Nat.le_refl _) fun a st' z => mono_okL z
          rw [← e] at q2
          exact q2.lstN (s1.side ha0) (rvL_rows fun p hp => kA.sqT (k3 p (hsub p (hperm.mem_iff.mp hp)))) hp0
        · exact q1.elim
      · exact q1.elim
    · exact q1.elim
end
end MP
end
section
set_option maxRecDepth 100000
set_option maxHeartbeats 1000000
namespace MP
open PySem PySem.Spec PyProof.Rows L2

section
variable {X : Cx} {Γ : Gam} {W : WX} {e a b c o tg iter elt : Expr} {ifs : List Expr} {da db dc dt de : De} {pos p2 py spos : Pos} {es rest : List Expr} {das : List De} {t : Tg} {di : Di} {scope : Scope} {own : List (Str × Nat)}
/-- the block of a comprehension -/
abbrev InB (X : Cx) (scope : Scope) (φ : Cx → Prop) : Prop := ∀ (s : Shared) (H : Hp) (C : Addr) (cl : List (Str × Addr)) (fp : List Addr), φ (X.blk s H scope (compEnvC scope cl C X.env) fp)
theorem InB.one {φ : Cx → Prop} (h : InB X scope φ) : φ (X.blk {} (fun _ => none) scope (compEnvC scope [] 0 X.env) []) := h _ _ _ _ _
theorem sim_lc0 (hc : X.calm = true) (hN : X.N.Nodup) (hi : SimI X Γ W tg iter di) (ok : BlkOk X.N X.env.scope scope own) (hv : ∀ j ∈ tslots t, j ∈ own.map (·.2))
    (hg : InB X scope fun Y => PG Y tg (tG Γ t)) (he : InB X scope fun Y => Sim Y Γ WF elt de) (hs : ∀ x, foldedSetIterable iter X.env x = pure x) :
    Sim X Γ W (.ListComp elt [⟨tg, iter, [], 0⟩] scope pos) (dLc di t dYes de (own.map (·.2))) :=
  sim_lc hc hN hi ok mono_yes he.one.mono hv hg (fun _ _ _ _ _ => pts_yes) (fun s H C cl fp => (he s H C cl fp).pe) hs
theorem sim_lc1 (hc : X.calm = true) (hN : X.N.Nodup) (hi : SimI X Γ W tg iter di) (ok : BlkOk X.N X.env.scope scope own) (hv : ∀ j ∈ tslots t, j ∈ own.map (·.2))
    (hg : InB X scope fun Y => PG Y tg (tG Γ t)) (ht : InB X scope fun Y => SimT Y Γ WF c dc) (he : InB X scope fun Y => Sim Y Γ WF elt de) (hs : ∀ x, foldedSetIterable iter X.env x = pure x) :
    Sim X Γ W (.ListComp elt [⟨tg, iter, [c], 0⟩] scope pos) (dLc di t dc de (own.map (·.2))) :=
  sim_lc hc hN hi ok ht.one.mono he.one.mono hv hg (fun s H C cl fp => pts_one (ht s H C cl fp).pt) (fun s H C cl fp => (he s H C cl fp).pe) hs
theorem tAsg_lc {i : Nat} {vs : List Nat} (mi : MonoI di) (mt : Mono dt) (me : Mono de) (hv : ∀ j ∈ tslots t, j ∈ vs) {σ : L2.St} {H : Hp} {D : Ends} (h : tS Γ W (dAsg (dLc di t dt de vs) (.nm i)) D σ H) : tAsg (tLc (tI Γ W di) (tG Γ t) (tT Γ WF dt) (tD Γ WF de) vs) (gName i) D σ H :=
  tLc_of mi mt me hv (tAsg_name (tAsg_of (mono_lc mi mt me) h) fun _ _ _ _ q z => tD_mono q z)
theorem ss_setLc0 {i : Nat} {y : Str} (hc : X.calm = true) (hy : X.N[i]? = some y) (hyl : X.env.scope.names.lookup y = some .local) (hsw : swapsWith (.ListComp elt [⟨tg, iter, [], 0⟩] scope pos) (some (.Name y py)) spos.line X.env = pure true)
    (hN : X.N.Nodup) (hi : SimI X Γ W tg iter di) (ok : BlkOk X.N X.env.scope scope own) (hv : ∀ j ∈ tslots t, j ∈ own.map (·.2))
    (hg : InB X scope fun Y => PG Y tg (tG Γ t)) (he : InB X scope fun Y => Sim Y Γ WF elt de) (hs : ∀ x, foldedSetIterable iter X.env x = pure x) :
    SimS X Γ W (.Assign [.Name y py] (.ListComp elt [⟨tg, iter, [], 0⟩] scope pos) spos) (dAsg (dLc di t dYes de (own.map (·.2))) (.nm i)) :=
  ⟨mono_asg (mono_lc hi.mono mono_yes he.one.mono), (ps_setLc hc hN hy hyl hsw hi.pi ok hg (fun _ _ _ _ _ => pts_yes) (fun s H C cl fp => (he s H C cl fp).pe) hs).imp fun D σ H h => tAsg_lc hi.mono mono_yes he.one.mono hv h⟩
theorem ss_setLc1 {i : Nat} {y : Str} (hc : X.calm = true) (hy : X.N[i]? = some y) (hyl : X.env.scope.names.lookup y = some .local) (hsw : swapsWith (.ListComp elt [⟨tg, iter, [c], 0⟩] scope pos) (some (.Name y py)) spos.line X.env = pure true)
    (hN : X.N.Nodup) (hi : SimI X Γ W tg iter di) (ok : BlkOk X.N X.env.scope scope own) (hv : ∀ j ∈ tslots t, j ∈ own.map (·.2))
    (hg : InB X scope fun Y => PG Y tg (tG Γ t)) (ht : InB X scope fun Y => SimT Y Γ WF c dc) (he : InB X scope fun Y => Sim Y Γ WF elt de) (hs : ∀ x, foldedSetIterable iter X.env x = pure x) :
    SimS X Γ W (.Assign [.Name y py] (.ListComp elt [⟨tg, iter, [c], 0⟩] scope pos) spos) (dAsg (dLc di t dc de (own.map (·.2))) (.nm i)) :=
  ⟨mono_asg (mono_lc hi.mono ht.one.mono he.one.mono), (ps_setLc hc hN hy hyl hsw hi.pi ok hg (fun s H C cl fp => pts_one (ht s H C cl fp).pt) (fun s H C cl fp => (he s H C cl fp).pe) hs).imp fun D σ H h => tAsg_lc hi.mono ht.one.mono he.one.mono hv h⟩
end
/-! ### within a def -/
section
variable {P : Program} {w : World} {K : PySem.W.Frag} {mg : Str → Option Value} {base : Heap} {N : List Str} {qual : Str} {sc : Scope} {f : Addr} {cdv : Value} {A : Around} {outer : List Env} {s : Shared} {H : Hp} {E : XK}
abbrev CxD (P : Program) (w : World) (K : PySem.W.Frag) (mg : Str → Option Value) (base : Heap) (N : List Str) (qual : Str) (sc : Scope) (f : Addr) (cdv : Value) (A : Around) (outer : List Env) (s : Shared) (H : Hp) (E : XK) : Cx := cxOf (L2.CX P w) P w K mg base N qual sc f cdv A outer s H E
theorem hp_def : PassesOwn (model (CxD P w K mg base N qual sc f cdv A outer s H E).prog (CxD P w K mg base N qual sc f cdv A outer s H E).w) (CxD P w K mg base N qual sc f cdv A outer s H E).A (CxD P w K mg base N qual sc f cdv A outer s H E).env (CxD P w K mg base N qual sc f cdv A outer s H E).xe := passes_of rfl
theorem tk_def : Takes (CxD P w K mg base N qual sc f cdv A outer s H E) (fun c d _ H' => E c d H') := takes_of rfl rfl rfl rfl
end
end MP
end
section
set_option maxRecDepth 100000
set_option maxHeartbeats 1000000
namespace MP
open PySem PySem.Spec PyProof.Rows L2

/-! ### own errors -/
structure ExcF (Γ : Gam) (mg : Str → Option Value) (c : Str) : Prop where
  at_ : mg c = some (.ref (Γ.cl c))
  ex : ∃ bmB newId initId, ExcBaseFacts "ValueError" newId initId bmB ∧ PySem.W.excIn Γ.K (Γ.cl c) bmB newId = true
  kp : PySem.W.keepIn Γ.K (.ref (Γ.cl c)) = true
  sub : PySem.W.subIn Γ.K (.ref (Γ.cl c)) (.type "BaseException") = some true
  ty : PySem.W.typeIn Γ.K (.ref (Γ.cl c)) = some (.type "type")
/-- an own error whose __init__ sets the one field f -/
structure ExcI (Γ : Gam) (mg : Str → Option Value) (c f p : Str) (st : Stmt) : Prop where
  at_ : mg c = some (.ref (Γ.cl c))
  oex : OexC Γ.K (Γ.cl c)
  nf : PySem.W.findIn Γ.K (.ref (Γ.cl c)) f = some none
  ex : ∃ qual fI fd, Fun Γ.K "__init__" qual st fI fd ∧ PySem.W.findIn Γ.K (.ref (Γ.cl c)) "__init__" = some (some (.ref fI)) ∧ PySem.W.typeIn Γ.K (.ref fI) = some (.type "function") ∧ Binds Γ.K fd ["self", p] []
theorem init1_ok {P : Program} {w : World} {K : PySem.W.Frag} {mg : Str → Option Value} {base : Heap} {C fI : Addr} {f qual p : Str} {fd : FuncData} {st : Stmt} {p1 p2 p3 p4 : Pos} (F : Fun K "__init__" qual st fI fd) (S : FnScope ["self", p] ["self", p] (defScope st))
    (hb : defBody st = [.Assign [.Attribute (.Name "self" p1) f p2] (.Name p p3) p4]) (h0 : (defScope st).names.lookup ("self" : Str) = some .local) (h1 : (defScope st).names.lookup (p : Str) = some .local) (hp : (p == ("__debug__" : Str)) = false) (hp2 : (p == ("__classdict__" : Str)) = false) : FnOk P w K mg base CX0 1 fI fd ["self", p] (spX1 K C f) := by
  refine F.ok S (fun vs H Q E h => ?_) (fun cdv A outer s H vs Q E hr h => ?_)
  · obtain ⟨a, v, rfl, _⟩ := h
    rfl
  · obtain ⟨a, v, rfl, T, nf, ha, k⟩ := h
    rw [hb]
    refine ⟨_, pss_one (ps_ost (pv 0 rfl (.inl h0)) (pv 1 rfl (.inl h1) hp hp2) rfl), ?_⟩
    exact ⟨v, rfl, .ref a, rfl, a, C, rfl, T, nf, .inl ⟨ha, fun dx h1 h2 => k dx h1 h2⟩⟩
section
variable {X : Cx} {Γ : Gam} {W : WX} {e a b c o i tg iter : Expr} {da db dc de do_ di_ : De} {pos pos' tpos p2 : Pos} {es : List Expr} {das : List De} {t : Tg} {di : Di}
theorem ss_raise0D {c m : Str} {j : Nat} {p p3 : Pos} (F : ExcF Γ X.mg c) (hK : X.K = Γ.K) (hcalm : X.calm = true) (tk : Takes X W) (hg : Gl X c) (hdb : (c == ("__debug__" : Str)) = false) : SimS X Γ W (.Raise (some (.Call (.Name c p) [.Constant (.str m) j p2] [] p3)) none pos) (dRaise0 c) := by
  obtain ⟨bmB, newId, initId, F1, F2⟩ := F.ex
  exact ss_raise0 (c := c) hcalm tk F1 (by rw [hK]; exact F2) F.at_ (by rw [hK]; exact F.kp) (raises_own (by rw [hK]; exact F.sub) (by rw [hK]; exact F.ty)) hg hdb
theorem ss_raise1D {c f q : Str} {st : Stmt} {p p3 p1 p2' p3' p4 : Pos} (F : ExcI Γ X.mg c f q st) (S : FnScope ["self", q] ["self", q] (defScope st)) (hb : defBody st = [.Assign [.Attribute (.Name "self" p1) f p2'] (.Name q p3') p4]) (h0 : (defScope st).names.lookup ("self" : Str) = some .local) (h1 : (defScope st).names.lookup q = some .local)
    (hq1 : (q == ("__debug__" : Str)) = false) (hq2 : (q == ("__classdict__" : Str)) = false) (hK : X.K = Γ.K) (hcalm : X.calm = true) (tk : Takes X W) (hr : Room 2 X.A) (hg : Gl X c) (ha : Sim X Γ W a da) (hdb : (c == ("__debug__" : Str)) = false) (hst : starEach [a] X.env = (false, eval a X.env) :: starEach [] X.env) :
    SimS X Γ W (.Raise (some (.Call (.Name c p) [a] [] p3)) none pos) (dRaise1 c f da) := by
  obtain ⟨qual, fI, fd, Fn, e1, e2, e3⟩ := F.ex
  rw [← hK] at Fn e1 e2 e3
  exact ss_raise1 (c := c) hcalm tk (by rw [hK]; exact F.oex) (by rw [hK]; exact F.nf) e1 e2 (init1_ok Fn S hb h0 h1 hq1 hq2) hr e3 hg F.at_ ha hdb hst
end

/-! ### classes -/
structure MethX (Γ : Gam) (cls meth : Str) (st : Stmt) (ps : List Str) (qual : Str) : Prop where
  ex : ∃ f fd, Fun Γ.K meth qual st f fd ∧ PySem.W.findIn Γ.K (.ref (Γ.cl cls)) meth = some (some (.ref f)) ∧ PySem.W.isFn Γ.K (.ref f) = true ∧ Binds Γ.K fd ps []
structure MakeX (Γ : Gam) (mg : Str → Option Value) (cls : Str) : Prop where
  at_ : mg cls = some (.ref (Γ.cl cls))
  makes : PySem.W.makesIn Γ.K (Γ.cl cls) = true
  kp : PySem.W.keepIn Γ.K (.ref (Γ.cl cls)) = true
structure DenM (P : Program) (w : World) (Γ : Gam) (mg : Str → Option Value) (base : Heap) (k : Nat) (cls meth : Str) (n : Nat) (g : List D → Sto → Rt) : Prop where
  ex : ∃ f fd ps, FnOk P w Γ.K mg base (L2.CX P w) k f fd ps (spD Γ n g) ∧ PySem.W.findIn Γ.K (.ref (Γ.cl cls)) meth = some (some (.ref f)) ∧ PySem.W.isFn Γ.K (.ref f) = true ∧ Binds Γ.K fd ps []
  mono : MonoFA g
section
variable {P : Program} {w : World} {Γ : Gam} {mg : Str → Option Value} {base : Heap}
theorem denM_of {cls meth qual : Str} {st : Stmt} {N ps : List Str} {k : Nat} (F : MethX Γ cls meth st ps qual) (S : FnScope N ps (defScope st)) {db : Ds}
    (hbody : ∀ (f : Addr) (cdv : Value) (A : Around) (outer : List Env) (s : Shared) (H : Hp) (E : XK), Room k (A.deeper (envOfC qual (defScope st) s.heap.objs.size f cdv)) →
      SimB (cxOf (L2.CX P w) P w Γ.K mg base N qual (defScope st) f cdv A outer s H E) Γ (fun c d _ H' => E c d H') (defBody st) db) (hk : k ≤ 100 := by decide) : DenM P w Γ mg base (k + 1) cls meth ps.length (runD N.length db) := by
  obtain ⟨f, fd, F, h1, h2, b⟩ := F.ex
  have hm := (hbody 0 .none callerA [] {} (fun _ => none) (fun _ _ _ => False) (room_c hk _)).mono
  exact ⟨⟨f, fd, ps, fn_sim rfl F S rfl (hbody f), h1, h2, b⟩, mono_runD hm⟩
theorem sim_makeD {X : Cx} {W : WX} {e : Expr} {es : List Expr} {das : List De} {c : Str} {p pos : Pos} {k n : Nat} {g : List D → Sto → Rt} (G : DenM X.prog X.w Γ X.mg X.base k c "__init__" (n + 1) g) (M : MakeX Γ X.mg c) (hK : X.K = Γ.K) (hr : Room (k + 1) X.A) (hg : Gl X c)
    (hx : ∀ σ, PassesAt (L2.CX X.prog X.w) X σ (fun c d H' => W c d σ H')) (h : SimA X Γ W (e :: es) das) (hn : das.length = n) (hdb : (c == ("__debug__" : Str)) = false) (he : starEach (e :: es) X.env = (false, eval e X.env) :: starEach es X.env)
    (hpl : (backTo pos (starEach es X.env)).any (·.1) = false) : Sim X Γ W (.Call (.Name c p) (e :: es) [] pos) (dApp (fMake c g) das) := by
  obtain ⟨⟨f, fd, ps, F, h1, h2, hb⟩, mo⟩ := G
  rw [← hK] at F h1 h2 hb
  exact sim_make ⟨by rw [hK]; exact M.makes, h1, h2, by rw [hK]; exact M.kp⟩ F mo hr hg M.at_ hb hx h hn hdb he hpl
end
end MP
end
section
set_option maxRecDepth 100000
set_option maxHeartbeats 1000000
namespace MP
open PySem PySem.Spec PyProof.Rows L2 PySem.W

/-! ### isinstance of a caught error, with a dict or without -/
section
variable {prog : Program} {w : World} {A : Around} {E : Value → Shared → Prop} {s : Shared} {K : Frag} {x D : Addr} {ox : Obj} {od : Option Obj}
theorem findObj_dataO {C : Addr} {name : Str} {a g : Value} (hc : (clsIn K C).isSome = true) (ha : findIn K (.ref C) name = some (some a)) (hg : specialIn K a "__get__" = some (some g)) (ht : takesIn K a = some true) : findObj K C od name = some (.bind g a) := by
  cases od with
  | none => exact findObj_dataN hc ha hg ht
  | some o => exact findObj_data hc ha hg ht
theorem kin_classO {Q : Option Value → Shared → Prop} (hga : findIn K (.ref D) "__getattribute__" = some (some (.builtin "BaseException.__getattribute__"))) (hgt : findIn K (.ref D) "__getattr__" = some none) (hsub : subIn K (.ref D) (.type "BaseException") = some true)
    (hdct : hasDictIn K D = true) (ha : findIn K (.ref D) "__class__" = some (some (.builtin "object.__class__")))
    (hn : specialIn K (.builtin "object.__class__") "__get__" = some (some (.builtin "getset_descriptor.__get__"))) (htk : takesIn K (.builtin "object.__class__") = some true) (hm : mroIn K D (.type "object") = some true)
    (X : K.In s.heap) (I : InstAt s.heap x ox D od) (h : Q (some (.ref D)) { s with toks := s.toks + 1 }) : wpAny (model prog w) A (getAttr? (.ref x) "__class__") Q E s := by
  have hf : findObj K D od "__class__" = some (.bind (.builtin "getset_descriptor.__get__") (.builtin "object.__class__")) := findObj_dataO (by obtain ⟨cd, hc, _⟩ := any_some hdct; rw [hc]; rfl) ha hn htk
  obtain ⟨hp, g, d, t, os⟩ := s
  have L0 := I.type (M := model prog w)
  have L1 := looks_findIn (M := model prog w) X hga
  have L2 := looks_findIn (M := model prog w) X hgt
  have L3 := looks_find (M := model prog w) X I hf
  have sub : Looks (model prog w) hp (isInstance (.ref x) (.type "BaseException")) true := L0.andThen (looks_subIn X hsub)
  have hx0 : (false && onTheHeap (Value.builtin "BaseException.__getattribute__")) = false := rfl
  have hx2 : (Value.builtin "BaseException.__getattribute__" == Value.builtin "object.__getattribute__") = false := by decide +kernel
  have hx1 : (onTheHeap (Value.ref D) && Value.builtin "BaseException.__getattribute__" == Value.builtin "object.__getattribute__") = false := by rw [hx2]; rfl
  unfold getAttr? getAttrBy? getAttrBy
  refine wpAny_bind (wpAny_mkText (wpAny_bind (wpAny_attempt (wpAny_holding (wpAny_bind (L0.at (wpAny_bind (L1.at ?_))))))))
  show wpAny _ _ (if (onTheHeap (Value.ref D) && Value.builtin "BaseException.__getattribute__" == Value.builtin "object.__getattribute__") = true then _ else _) _ _ _
  rw [hx1, if_neg Bool.false_ne_true]
  unfold getAttrByItsOwn hookBefore
  refine wpAny_bind ?_
  rw [if_pos (show onTheHeap (Value.ref D) = true from rfl)]
  refine L2.at ?_
  refine wpAny_bind (wpAny_attempt (wpAny_holding ?_))
  unfold callGetattribute
  rw [hx0, if_neg Bool.false_ne_true]
  unfold boundAndCalled
  rw [PySem.F.excAttr_ValueError.ga.bind (.ref x)]
  refine wpAny_bind (wpAny_pure ?_)
  show wpAny _ _ (call (.builtin "BaseException.__getattribute__") [.ref x, .str "__class__" t]) _ _ _
  refine wpAny_call (codeAny_call_builtin PySem.F.excAttr_ValueError.ga.plain PySem.F.entry_bexc_ga ?_)
  refine @check_slot (model prog w) _ _ ⟨hp, g, d, t + 1, os⟩ "BaseException.__getattribute__" "BaseException" "__getattribute__" (.ref x) [.str "__class__" t] [] _ (by decide +kernel) (by decide +kernel) sub (PySem.F.args_bexc_ga (.ref x) (.str "__class__" t)) ?_
  unfold Builtin.«object.__getattribute__»
  refine wpAny_bind (wpAny_of_eq (a := ((Value.ref x : Value), [Value.str "__class__" t])) (by first | rfl | (simp only [slotArgs]; rfl)) ?_)
  refine wpAny_bind (wpAny_pure (wpAny_bind (L0.at (wpAny_bind (L3.at ?_)))))
  show wpAny _ _ (holding [Value.builtin "object.__class__"] (call (.builtin "getset_descriptor.__get__") [.builtin "object.__class__", .ref x, .ref D]) >>= ret) _ _ _
  refine wpAny_bind (wpAny_holding (wpAny_call (class_get (s := ⟨hp, g, d, t + 1, os⟩) (ox := ox) (od := od) X I hm ?_)))
  refine wpAny_pure ?_
  show wpAny _ _ (handedOut (.ref D)) _ _ _
  rw [handedOut_of (v := .ref D) rfl]
  first
    | exact wpAny_pure (wpAny_pure h)
    | exact wpAny_pure h
    | exact wpAny_pure (wpAny_bind (wpAny_pure (wpAny_pure h)))
theorem kitx_excO (C : ExcC K D) : KitX K (.ref x) (.ref D) (fun h => InstAt h x ox D od) where
  ty := fun _ _ _ I => I.type
  it := fun _ _ X _ => by
    obtain ⟨cdD, hcD, _⟩ := any_some C.hd
    unfold clsIn at hcD
    split at hcD
    · rename_i c' d' cd' sl' ho
      intro A' Q' E' s' k q
      unfold isType loadHead
      exact wpAny_bind (wpAny_loadPart (k _ _ (X _ _ ho)) (wpAny_pure q))
    · cases hcD
  ne := fun h tp dd its n sl X htp => by
    obtain ⟨cdD, hcD, _⟩ := any_some C.hd
    refine Bool.eq_false_iff.mpr fun q => ?_
    have e : D = tp := Value.ref.inj (beq_iff_eq.mp q)
    subst e
    unfold clsIn at hcD
    split at hcD
    · rename_i c' d' cd' sl' ho
      have z := (X _ _ ho).symm.trans htp
      cases z
    · cases hcD
  ca := fun X I k => kin_classO C.hg C.hk C.hs C.hd C.ha C.hn C.ht C.hm X I k
end

/-! ### the caught error in its suite -/
def rIsO (K : Frag) (a : Addr) (cls : Value) (d : Option Addr) : List V → Hp → VK → Prop := fun xs H Q => ∃ (D : Addr) (c : V) (cv : Value) (b : Bool), cls = .ref D ∧ ExcC K D ∧ xs = [.ref a, c] ∧ (∀ u, RelV c u → u = cv) ∧ (d = none ∨ ∃ dd fs, d = some dd ∧ H dd = some (.xd fs)) ∧ kitOne K (.ref D) cv = some b ∧ Q (.bl b) H
theorem call_isO {X : Cx} {a : Addr} {cls : Value} {d : Option Addr} {oe : Obj} {pn : List (Addr × Obj)} (hz : Zc cls d oe) (hf : ∃ vs, oe.data = .fields vs) : CallR (X.suite a ((a, oe) :: pn)) (.builtin "isinstance") (rIsO X.K a cls d) := by
  intro pins s σ H xs us Q I r h
  obtain ⟨D, c, cv, b, rfl, C, rfl, hcv, hd, e, q⟩ := h
  cases r with
  | cons rx rr =>
    cases rr with
    | cons rt rr =>
      cases rr
      cases rx
      have ec := hcv _ rt
      subst ec
      obtain ⟨hget, _⟩ := I.pin (a, oe) (List.mem_append.mpr (.inl List.mem_cons_self))
      obtain ⟨vs, hv⟩ := hf
      have J : ∃ od, InstAt s.heap a oe D od := by
        have n1 : notCls oe := by unfold notCls; rw [hv] <;> rfl
        rcases hd with hd | ⟨dd, fs, hd, hx⟩
        · subst hd
          exact ⟨none, hget, hz.1, n1, by rw [hz.2]; trivial⟩
        · subst hd
          have hx : ObjOk X.prog X.w H s.heap dd (.xd fs) := I.hok dd _ hx
          obtain ⟨mA, hns, hr⟩ := hx
          obtain ⟨od, ho, hl⟩ := lookIn_ns hns
          exact ⟨some od, hget, hz.1, n1, by rw [hz.2]; exact ho⟩
      obtain ⟨od, J⟩ := J
      exact kia_one (kitx_excO (od := od) C) I.kIn J e (fun z => nomatch z) fun tk => ⟨.bl b, H, I.kept (t' := tk) fun _ _ z => z, rfl, q⟩
/-- a the caught exception, cls its class, d its dict -/
def tXfO (K : Frag) (a : Addr) (cls : Value) (d : Option Addr) (f : Str) (te : TE) : TE := fun σ H Q => te σ H fun x H1 => x = .ref a ∧ ∃ C, cls = .ref C ∧ XfC K C ∧ findIn K (.ref C) f = some none ∧ ∃ (dd : Addr) (fs : List (Str × V)) (v : V), d = some dd ∧ H1 dd = some (.xd fs) ∧ fs.lookup f = some v ∧ Q v H1
theorem pe_xfO {X : Cx} {a : Addr} {oe : Obj} {cls : Value} {d : Option Addr} {pn : List (Addr × Obj)} {e : Expr} {te : TE} {pos : Pos} {n : Str} (hz : Zc cls d oe) (hf : ∃ vs, oe.data = .fields vs) (he : PE (X.suite a ((a, oe) :: pn)) e te) (hb : attributeBase e n X.env (eval e X.env) = eval e X.env) :
    PE (X.suite a ((a, oe) :: pn)) (.Attribute e n pos) (tXfO X.K a cls d n te) := by
  refine ⟨fun pins s σ H Q I h => ?_⟩
  refine attr_of hb (thn (he.run pins s σ H _ I h) fun u s1 hh => ?_)
  obtain ⟨x, H1, I1, rx, ex, C, ec, T, hno, dd, fs, v, ed, ea, l, q⟩ := hh
  subst ex
  obtain rfl : u = Value.ref a := rx
  subst ec
  subst ed
  obtain ⟨ha, _⟩ := I1.pin (a, oe) (List.mem_append_left _ List.mem_cons_self)
  obtain ⟨vs, hd⟩ := hf
  have hx : ObjOk X.prog X.w H1 s1.heap dd (.xd fs) := I1.hok dd _ ea
  obtain ⟨mA, hns, hr⟩ := hx
  obtain ⟨od, ho, hl⟩ := lookIn_ns hns
  obtain ⟨u, hu, ru⟩ := RelO.some_of (v := v) (o := mA n) (by rw [← l]; exact hr n)
  have J : InstAt s1.heap a oe C (some od) := ⟨ha, hz.1, by unfold notCls; rw [hd] <;> rfl, by rw [hz.2]; exact ho⟩
  exact HandSPX.exc_get I1.kIn J T.ga T.gg T.exC (findObj_own T.hdC hno rfl (by rw [hl, hu])) (handed_of ru) ⟨v, H1, I1.tok _, ru, q⟩

/-- while the exception at a of the class c is held -/
abbrev Gam.hold (Γ : Gam) (a : Addr) (c : Str) (d : Option Addr) : Gam := { Γ with ex := [(a, c, d)] }
/-- what isinstance(e, T) says, by e's class -/
def IsEX (Γ : Gam) (tbl : List (Str × Bool)) (tv : Value) : Prop := ∀ c b, tbl.lookup c = some b → kitOne Γ.K (.ref (Γ.cl c)) tv = some b ∧ ExcC Γ.K (Γ.cl c)
def fIsE (tbl : List (Str × Bool)) : D → Sto → Rt
  | .obj n, st => match st[n]? with
    | some (.exc true c _) => match tbl.lookup c with
      | some b => okD (.bl b) st
      | none => none
    | _ => none
  | _, _ => none
theorem mono_fIsE {tbl : List (Str × Bool)} : MonoF (fIsE tbl) := by
  intro d st r st' h
  unfold fIsE at h
  repeat' (split at h)
  all_goals first | exact mono_ok h | cases h
def fXf (cs : List Str) (f : Str) : D → Sto → Rt
  | .obj n, st => match st[n]? with
    | some (.exc true c fs) => if cs.contains c then match fs.lookup f with | some d => okD d st | none => none else none
    | _ => none
  | _, _ => none
theorem mono_fXf {cs : List Str} {f : Str} : MonoF (fXf cs f) := by
  intro d st r st' h
  unfold fXf at h
  repeat' (split at h)
  all_goals first | exact mono_ok h | cases h
def XfX (Γ : Gam) (cs : List Str) (f : Str) : Prop := ∀ c, cs.contains c = true → XfC Γ.K (Γ.cl c) ∧ findIn Γ.K (.ref (Γ.cl c)) f = some none
section
variable {X : Cx} {Γ : Gam} {W : WX} {e a b o : Expr} {da db dc de : De} {pos pos' p p2 : Pos} {es rest : List Expr} {das : List De} {at_ : Addr} {c : Str} {d : Option Addr} {oe : Obj} {pn : List (Addr × Obj)}
theorem held {m : Nat → Addr} {st : Sto} {H : Hp} {n : Nat} {c' : Str} {fs : List (Str × D)} (s : StR (Γ.hold at_ c d) m st H) (h : st[n]? = some (.exc true c' fs)) : m n = at_ ∧ c' = c ∧ ExcR Γ m st.length H fs d := by
  obtain ⟨d', h1, h2⟩ := s.cell n _ h
  have e : (m n, c', d') = (at_, c, d) := by
    have z : (m n, c', d') ∈ [(at_, c, d)] := h1
    exact List.mem_singleton.mp z
  injection e with e1 e
  injection e with e2 e3
  subst e2 e3
  exact ⟨e1, rfl, h2⟩
theorem excR_d {m : Nat → Addr} {L : Nat} {H : Hp} {fs : List (Str × D)} (h : ExcR Γ m L H fs d) : d = none ∨ ∃ dd fs, d = some dd ∧ H dd = some (.xd fs) := by
  rcases h with ⟨_, h⟩ | ⟨_, a, vs, h1, h2, _⟩
  · exact .inl h
  · exact .inr ⟨a, vs, h1, h2⟩
theorem sim_isE {tbl : List (Str × Bool)} {T : Str} {cv : V} {tv : Value} (hz : Zc (.ref (Γ.cl c)) d oe) (hf : ∃ vs, oe.data = .fields vs) (hK : X.K = Γ.K) (hg : Gl X "isinstance") (hm : X.mg "isinstance" = none) (hT : PE (X.suite at_ ((at_, oe) :: pn)) (.Name T p2) (tC cv)) (hcv : ∀ u, RelV cv u → u = tv) (hx : IsEX Γ tbl tv)
    (ha : Sim (X.suite at_ ((at_, oe) :: pn)) (Γ.hold at_ c d) W a da) (he : starEach [a, .Name T p2] X.env = (false, eval a X.env) :: starEach [.Name T p2] X.env) (he2 : starEach [.Name T p2] X.env = (false, eval (.Name T p2) X.env) :: starEach [] X.env) (hpl : (backTo pos (starEach [.Name T p2] X.env)).any (·.1) = false) :
    Sim (X.suite at_ ((at_, oe) :: pn)) (Γ.hold at_ c d) W (.Call (.Name "isinstance" p) [a, .Name T p2] [] pos) (dUn (fIsE tbl) da) := by
  refine ⟨mono_un ha.mono mono_fIsE, (pe_callB (call_isO hz hf) hg hm boot_isinstance (pa_cons ha.pe (pa_cons hT pa_nil he2) he) (by decide) (by decide) he hpl).imp fun σ H Q ⟨m, ls, st, s, l, h⟩ => ?_⟩
  obtain ⟨m0, ls0, st0, s0, l0, q0⟩ := tD_bind ha.mono s l mono_fIsE h
  refine ⟨m0, ls0, st0, s0, l0, q0.imp fun v H1 ⟨m1, dd, st1, s1, l1, r1, q1, _⟩ => ?_⟩
  match dd, r1, q1 with
  | .obj n, .obj _, q1 =>
    dsimp only [fIsE] at q1
    split at q1
    · rename_i c' fs e
      split at q1
      · rename_i k ek
        obtain ⟨e1, e2, e3⟩ := held s1 e
        subst e2
        obtain ⟨h1, h2⟩ := hx _ _ ek
        exact ⟨_, cv, tv, k, rfl, by rw [hK]; exact h2, by rw [e1], hcv, excR_d e3, by rw [hK]; exact h1, q1.ok s1 (.bl k)⟩
      · exact q1.elim
    · exact q1.elim
theorem sim_xf {cs : List Str} {f : Str} (hz : Zc (.ref (Γ.cl c)) d oe) (hf : ∃ vs, oe.data = .fields vs) (hK : X.K = Γ.K) (hx : XfX Γ cs f) (ha : Sim (X.suite at_ ((at_, oe) :: pn)) (Γ.hold at_ c d) W a da) (hb : attributeBase a f X.env (eval a X.env) = eval a X.env) :
    Sim (X.suite at_ ((at_, oe) :: pn)) (Γ.hold at_ c d) W (.Attribute a f pos) (dUn (fXf cs f) da) := by
  refine ⟨mono_un ha.mono mono_fXf, (pe_xfO hz hf ha.pe hb).imp fun σ H Q ⟨m, ls, st, s, l, h⟩ => ?_⟩
  obtain ⟨m0, ls0, st0, s0, l0, q0⟩ := tD_bind ha.mono s l mono_fXf h
  refine ⟨m0, ls0, st0, s0, l0, q0.imp fun v H1 ⟨m1, dd, st1, s1, l1, r1, q1, _⟩ => ?_⟩
  match dd, r1, q1 with
  | .obj n, .obj _, q1 =>
    dsimp only [fXf] at q1
    split at q1
    · rename_i c' fs e
      split at q1
      · rename_i hcs
        split at q1
        · rename_i d' ed
          obtain ⟨e1, e2, e3⟩ := held s1 e
          subst e2
          obtain ⟨h1, h2⟩ := hx _ hcs
          rcases e3 with ⟨z, _⟩ | ⟨_, a0, vs, z1, z2, z3⟩
          · rw [z] at ed
            cases ed
          · obtain ⟨v, hv, rv⟩ := FsR.look (Γ := Γ) z3 ed
            exact ⟨by rw [e1], _, rfl, by rw [hK]; exact h1, by rw [hK]; exact h2, a0, vs, v, z1, z2, hv, q1.ok s1 rv⟩
        · exact q1.elim
      · exact q1.elim
    · exact q1.elim
end

/-! ### try: .. except T as e: .. -/
def Cell.dead : Cell → Cell
  | .exc _ c fs => .exc false c fs
  | c => c
/-- behind the suite: slot i is free again, the exception is held no more -/
def endTry (i : Nat) : Rss → Rss
  | some (.next, ls, st) => some (.next, ls.set i none, st.map Cell.dead)
  | some (.brk, ls, st) => some (.brk, ls.set i none, st.map Cell.dead)
  | some (.cont, ls, st) => some (.cont, ls.set i none, st.map Cell.dead)
  | some (.ret d, ls, st) => some (.ret d, ls, st.map Cell.dead)
  | _ => none
def dTryAs (tbl : List (Str × Bool)) (i : Nat) (db dsu : Ds) : Ds := fun ls st => match db ls st with
  | some (.exc c fs, ls1, st1) => match tbl.lookup c with
    | some true => endTry i (dsu (ls1.set i (some (.obj st1.length))) (st1 ++ [.exc true c fs]))
    | some false => some (.exc c fs, ls1, st1)
    | none => none
  | r => r
theorem endTry_mono {i : Nat} {r : Rss} {n : Nat} (h : ∀ a l st', r = some (a, l, st') → n ≤ st'.length) : ∀ a l st', endTry i r = some (a, l, st') → n ≤ st'.length := fun a l st' q => by
  match r, h, q with
  | some (.next, l, st), h, q => cases q; rw [List.length_map]; exact h _ _ _ rfl
  | some (.brk, l, st), h, q => cases q; rw [List.length_map]; exact h _ _ _ rfl
  | some (.cont, l, st), h, q => cases q; rw [List.length_map]; exact h _ _ _ rfl
  | some (.ret d, l, st), h, q => cases q; rw [List.length_map]; exact h _ _ _ rfl
  | some (.exc c fs, l, st), h, q => cases q
  | none, h, q => cases q
theorem mono_tryAs {tbl : List (Str × Bool)} {i : Nat} {db dsu : Ds} (hb : MonoS db) (hs : MonoS dsu) : MonoS (dTryAs tbl i db dsu) := fun ls st a l st' h => by
  unfold dTryAs at h
  split at h
  · rename_i c fs ls1 st1 e
    have h1 := hb _ _ _ _ _ e
    split at h
    · have z := endTry_mono (fun a l st' q => hs _ _ a l st' q) _ _ _ h
      rw [List.length_append] at z
      exact Nat.le_trans h1 (Nat.le_trans (Nat.le_add_right _ _) z)
    · cases h
      exact h1
    · cases h
  · exact hb _ _ _ _ _ h
section
variable {Γ : Gam} {m : Nat → Addr} {st : Sto} {H : Hp} {at_ : Addr} {c : Str} {d : Option Addr}
theorem StR.dead (s : StR (Γ.hold at_ c d) m st H) : StR Γ m (st.map Cell.dead) H := by
  have old : ∀ {n : Nat} {k : Cell}, (st.map Cell.dead)[n]? = some k → ∃ k', st[n]? = some k' ∧ k = k'.dead := fun {n k} h => by
    rw [List.getElem?_map] at h
    cases e : st[n]? with
    | none => rw [e] at h; cases h
    | some k' => rw [e] at h; exact ⟨k', rfl, (Option.some.inj h).symm⟩
  have mt : ∀ {k : Cell}, k.dead.mut = true → k.mut = true := fun {k} h => by
    cases k <;> first | exact h | cases h
  refine ⟨fun n k h => ?_, fun i j k k' hi hj h1 h2 q => ?_, s.tabs⟩
  · obtain ⟨k', e, rfl⟩ := old h
    have z := s.cell n k' e
    rw [List.length_map]
    match k', z with
    | .lst true l, z => exact z
    | .lst false l, z => exact z
    | .ins c fs, z => exact z
    | .exc _ c fs, _ => exact trivial
  · obtain ⟨k1, e1, rfl⟩ := old hi
    obtain ⟨k2, e2, rfl⟩ := old hj
    exact s.inj i j k1 k2 e1 e2 (mt h1) (mt h2) q
theorem StR.hold_ex (hex : Γ.ex = []) (s : StR Γ m st H) {fs : List (Str × D)} (hx : ExcR Γ m st.length H fs d) : StR (Γ.hold at_ c d) (extM m st.length at_) (st ++ [.exc true c fs]) H := by
  have hl : (st ++ [Cell.exc true c fs]).length = st.length + 1 := by rw [List.length_append, List.length_singleton]
  have e : Ext m st.length (extM m st.length at_) := extM_ext
  refine ⟨fun n k h => ?_, fun i j k k' hi hj h1 h2 q => ?_, s.tabs⟩
  · rw [hl]
    rcases get_snoc h with ⟨hn, h'⟩ | ⟨hn, h'⟩
    · rw [extM_old (Nat.ne_of_lt hn)]
      have z := (s.cell n k h').mono (L' := st.length + 1) e (Nat.le_succ _) (Keep.refl H) fun o q => q
      match k, z with
      | .lst true l, z => exact z
      | .lst false l, z => exact z
      | .ins c fs, z => exact z
      | .exc false c fs, _ => exact trivial
      | .exc true c fs, ⟨d', z, _⟩ =>
        rw [hex] at z
        cases z
    · rw [hn, h', extM_new]
      exact ⟨d, List.mem_singleton.mpr rfl, hx.mono e (Nat.le_succ _) (Keep.refl H)⟩
  · rcases get_snoc hi with ⟨a1, b1⟩ | ⟨a1, b1⟩
    · rcases get_snoc hj with ⟨a2, b2⟩ | ⟨a2, b2⟩
      · rw [extM_old (Nat.ne_of_lt a1), extM_old (Nat.ne_of_lt a2)] at q
        exact s.inj i j k k' b1 b2 h1 h2 q
      · subst b2; cases h2
    · subst b1; cases h1
theorem LsR.setN {L : Nat} {ls : Ls} {σ : L2.St} (h : LsR Γ m L H ls σ) (i : Nat) (o : Option V) : LsR Γ m L H (ls.set i none) (σ.set i o) := by
  refine ⟨by rw [List.length_set, List.length_set, h.len], fun j e q => ?_⟩
  by_cases hj : i = j
  · subst hj
    have hi : i < ls.length := by
      by_cases c : i < ls.length
      · exact c
      · rw [List.getElem?_eq_none (by simpa using c)] at q
        cases q
    rw [List.getElem?_set_self hi] at q
    cases q
  · rw [List.getElem?_set_ne hj] at q
    obtain ⟨w, a, b⟩ := h.at_ j e q
    exact ⟨w, by rw [List.getElem?_set_ne hj]; exact a, b⟩
end

def ExmX (Γ : Gam) (tbl : List (Str × Bool)) (tv : Value) : Prop := ∀ c b, tbl.lookup c = some b → exmOne Γ.K (.ref (Γ.cl c)) tv = some b
section
variable {X : Cx} {Γ : Gam} {W : WX} {x n : Str} {tv : Value} {i : Nat} {body suite : List Stmt} {b₀ : Stmt} {np pos pos' : Pos} {db dsu : Ds} {tbl : List (Str × Bool)}
theorem tS_try (hex : Γ.ex = []) (hx : ExmX Γ tbl tv) (hK : X.K = Γ.K) (mb : MonoS db) (ms : MonoS dsu) {D : Ends} {σ : L2.St} {H : Hp} (h : tS Γ W (dTryAs tbl i db dsu) D σ H) :
    tS Γ (wAs X.K tv i (fun a cls d D σ H => ∃ c, cls = .ref (Γ.cl c) ∧ tS (Γ.hold a c d) WF dsu D σ H) W D) db D σ H := by
  obtain ⟨m, ls, st, s, l, h⟩ := h
  refine ⟨m, ls, st, s, l, ?_⟩
  unfold dTryAs at h
  have mb := fun a l st' q => mb ls st a l st' q
  match db ls st, h, mb with
  | some (.next, l1, st1), h, _ => exact h
  | some (.brk, l1, st1), h, _ => exact h
  | some (.cont, l1, st1), h, _ => exact h
  | some (.ret d, l1, st1), h, _ => exact h
  | some (.exc c fs, l1, st1), h, mb =>
    have hl := mb _ _ _ rfl
    refine ⟨hl, fun m1 H1 σ1 dd e1 k1 s1 ls1 x1 => ?_⟩
    dsimp only at h
    split at h
    · rename_i et
      refine ⟨true, by rw [hK]; exact hx _ _ et, fun _ a ha => ⟨c, rfl, ?_⟩, fun q => Bool.noConfusion q⟩
      have hl2 : (st1 ++ [Cell.exc true c fs]).length = st1.length + 1 := by rw [List.length_append, List.length_singleton]
      have e2 : Ext m1 st1.length (extM m1 st1.length a) := extM_ext
      have rv : Rv Γ.K (extM m1 st1.length a) (st1 ++ [Cell.exc true c fs]).length H1 (.obj st1.length) (.ref a) := by
        have z := Rv.obj (K := Γ.K) (m := extM m1 st1.length a) (H := H1) (n := st1.length) (L := (st1 ++ [Cell.exc true c fs]).length) (by rw [hl2]; exact Nat.lt_succ_self _)
        rw [extM_new] at z
        exact z
      refine ⟨extM m1 st1.length a, l1.set i (some (.obj st1.length)), st1 ++ [.exc true c fs], s1.hold_ex hex x1, ?_, ?_⟩
      · have z : LsR Γ (extM m1 st1.length a) (st1 ++ [Cell.exc true c fs]).length H1 l1 σ1 := ls1.mono e2 (by rw [hl2]; exact Nat.le_succ _) (Keep.refl _)
        have z := z.set i rv
        exact ⟨z.len, z.at_⟩
      · have ms := fun a l st' q => ms (l1.set i (some (.obj st1.length))) (st1 ++ [.exc true c fs]) a l st' q
        have ee : ∀ {m2 : Nat → Addr}, Ext (extM m1 st1.length a) (st1 ++ [Cell.exc true c fs]).length m2 → Ext m st.length m2 := fun {m2} q => (e1.trans e2 hl).trans q (by rw [hl2]; exact Nat.le_trans hl (Nat.le_succ _))
        show ResS (Γ.hold a c dd) (extM m1 st1.length a) (st1 ++ [Cell.exc true c fs]).length H1 (dsu (l1.set i (some (.obj st1.length))) (st1 ++ [.exc true c fs])) _ WF
        revert h ms
        generalize dsu (l1.set i (some (.obj st1.length))) (st1 ++ [Cell.exc true c fs]) = r3
        intro h ms
        match r3, h, ms with
        | some (.next, l3, st3), h, ms =>
          have h : ResS Γ m st.length H (some (.next, l3.set i none, st3.map Cell.dead)) D W := h
          exact ⟨ms _ _ _ rfl, fun m2 H2 σ2 q2 k2 s2 l2 => h.2 m2 H2 (σ2.set i none) (ee q2) (k1.trans k2) s2.dead (by rw [List.length_map]; exact LsR.setN (Γ := Γ) ⟨l2.len, l2.at_⟩ i none)⟩
        | some (.brk, l3, st3), h, ms =>
          have h : ResS Γ m st.length H (some (.brk, l3.set i none, st3.map Cell.dead)) D W := h
          exact ⟨ms _ _ _ rfl, fun m2 H2 σ2 q2 k2 s2 l2 => h.2 m2 H2 (σ2.set i none) (ee q2) (k1.trans k2) s2.dead (by rw [List.length_map]; exact LsR.setN (Γ := Γ) ⟨l2.len, l2.at_⟩ i none)⟩
        | some (.cont, l3, st3), h, ms =>
          have h : ResS Γ m st.length H (some (.cont, l3.set i none, st3.map Cell.dead)) D W := h
          exact ⟨ms _ _ _ rfl, fun m2 H2 σ2 q2 k2 s2 l2 => h.2 m2 H2 (σ2.set i none) (ee q2) (k1.trans k2) s2.dead (by rw [List.length_map]; exact LsR.setN (Γ := Γ) ⟨l2.len, l2.at_⟩ i none)⟩
        | some (.ret v, l3, st3), h, ms =>
          have h : ResS Γ m st.length H (some (.ret v, l3, st3.map Cell.dead)) D W := h
          exact ⟨ms _ _ _ rfl, fun m2 H2 v q2 k2 s2 r2 => h.2 m2 H2 v (ee q2) (k1.trans k2) s2.dead (by rw [List.length_map]; exact r2)⟩
        | some (.exc _ _, l3, st3), h, ms => exact h.elim
        | none, h, ms => exact h.elim
    · rename_i et
      exact ⟨false, by rw [hK]; exact hx _ _ et, fun q => Bool.noConfusion q, fun _ => h.2 m1 H1 σ1 dd e1 k1 s1 ls1 x1⟩
    · exact h.elim
theorem ss_tryAs (hs : X.stack = X.env :: X.outer) (hf : X.env.frame = some X.env.locals) (hex : Γ.ex = []) (hx : ExmX Γ tbl tv) (hK : X.K = Γ.K) (hN : X.N.Nodup) (hi : X.N[i]? = some n) (hln : X.env.kindOf n = some .local) (hc : Names X x tv) (tk : Takes X W) (hp : PassesOwn (model X.prog X.w) X.A X.env X.xe)
    (hb : ∀ (W : WX) (pn : List (Addr × Obj)) (xe : Value → Shared → Prop), Takes (X.tr pn xe) W → PassesOwn (model X.prog X.w) X.A X.env xe → SimB (X.tr pn xe) Γ W body db)
    (hsu : ∀ (a : Addr) (oe : Obj) (c : Str) (d : Option Addr) (pn : List (Addr × Obj)), Zc (.ref (Γ.cl c)) d oe → (∃ vs, oe.data = .fields vs) → SimB (X.suite a ((a, oe) :: pn)) (Γ.hold a c d) WF (b₀ :: suite) dsu) :
    SimS X Γ W (.Try body [.ExceptHandler (some (.Name x np)) (some n) (b₀ :: suite) pos'] [] [] pos) (dTryAs tbl i db dsu) := by
  have mb : MonoS db := (hb W X.pn X.xe tk hp).mono
  have ms : MonoS dsu := (hsu 0 { cls := .ref (Γ.cl Str.empty), dict := none, data := .fields #[] } Str.empty none [] ⟨rfl, rfl⟩ ⟨_, rfl⟩).mono
  refine ⟨mono_tryAs mb ms, (ps_try_as hs hf hN hi hln hc tk (tb := fun W => tS Γ W db) (ts := fun a cls d D σ H => ∃ c, cls = .ref (Γ.cl c) ∧ tS (Γ.hold a c d) WF dsu D σ H) (fun W pn xe t p => (hb W pn xe t p).ps) fun a oe cls d pn hz hv => ?_).imp fun D σ H h => tS_try hex hx hK mb ms h⟩
  refine ⟨fun pins s σ H D I ⟨c, ec, w⟩ => ?_⟩
  subst ec
  exact (hsu a oe c d pn hz hv).ps.run pins s σ H D I w
end
end MP
end
section
set_option maxRecDepth 100000
set_option maxHeartbeats 1000000
namespace MP
open PySem PySem.Spec PyProof.Rows L2 LamX

/-! ### a lambda handed to a def that calls it in a try -/
/-- def x(a): try: a() except e as n: suite; return None -- asked with a lambda that does r -/
def raisedD (tbl : List (Str × Bool)) (N i : Nat) (dsu : Ds) (r : Rt) : Rt := match r with
  | some (.ok _, st1) => okD .non st1
  | some (.exc c fs, st1) => match tbl.lookup c with
    | some true => match endTry i (dsu ((List.replicate N none).set i (some (.obj st1.length))) (st1 ++ [.exc true c fs])) with
      | some (.next, _, st2) => okD .non st2
      | some (.ret d, _, st2) => okD d st2
      | _ => none
    | _ => none
  | none => none
theorem raisedD_mono {tbl : List (Str × Bool)} {N i : Nat} {dsu : Ds} (ms : MonoS dsu) {r : Rt} {n : Nat} (h : ∀ a st', r = some (a, st') → n ≤ st'.length) : ∀ a st', raisedD tbl N i dsu r = some (a, st') → n ≤ st'.length := fun a st' q => by
  match r, h, q with
  | some (.ok _, st1), h, q =>
    cases q
    exact h _ _ rfl
  | some (.exc c fs, st1), h, q =>
    have h1 := h _ _ rfl
    unfold raisedD at q
    dsimp only at q
    split at q
    · have z := endTry_mono (i := i) (fun a l st' q => ms ((List.replicate N none).set i (some (.obj st1.length))) (st1 ++ [.exc true c fs]) a l st' q)
      rw [List.length_append] at z
      split at q
      · rename_i e
        cases q
        exact Nat.le_trans h1 (Nat.le_trans (Nat.le_add_right _ _) (z _ _ _ e))
      · rename_i e
        cases q
        exact Nat.le_trans h1 (Nat.le_trans (Nat.le_add_right _ _) (z _ _ _ e))
      · cases q
    · cases q
  | none, h, q => cases q
def TTr (Γ : Gam) (tbl : List (Str × Bool)) (N i : Nat) (dsu : Ds) (dbody : De) : (XK → Hp → VK → Prop) → Hp → VK → Prop := fun tl H Q =>
  ∃ m ls st σ0 E0, StR Γ m st H ∧ LsR Γ m st.length H ls σ0 ∧ (∀ E H' Q', tD Γ (fun c d _ H => E c d H) dbody σ0 H' Q' → tl E H' Q') ∧ Res Γ m st.length H (raisedD tbl N i dsu (dbody ls st)) Q E0
theorem LsR.blank {Γ : Gam} {m : Nat → Addr} {L : Nat} {H : Hp} {σ : L2.St} {N : Nat} (h : σ.length = N) : LsR Γ m L H (List.replicate N none) σ := ⟨by rw [List.length_replicate, h], fun i d q => by
  rw [List.getElem?_replicate] at q
  split at q <;> cases q⟩
section
variable {X : Cx} {Γ : Gam} {Ng : List Str} {x a e n q : Str} {sg : Scope} {g : Addr} {cdg tv : Value} {j i : Nat} {p1 p2 p3 p4 p5 p6 p7 p8 : Pos} {b₀ : Stmt} {suite : List Stmt} {tbl : List (Str × Bool)} {dsu : Ds} {dbody : De}
theorem raised_gives (hex : Γ.ex = []) (hx : ExmX Γ tbl tv) (hK : X.K = Γ.K) (ms : MonoS dsu) (mb : Mono dbody) (hN : Ng.Nodup) (hi : Ng[i]? = some n) (hln : sg.names.lookup n = some .local)
    (hc : sg.names.lookup e = some .globalImplicit) (hme : X.mg e = some tv) (hde : (e == ("__debug__" : Str)) = false) (h0 : ∀ f : Addr, (L2.start Ng [V.ref f])[0]? = some (some (V.ref f))) (hlen : ∀ f : Addr, (L2.start Ng [V.ref f]).length = Ng.length)
    (hsu : ∀ (s : Shared) (H : Hp) (a : Addr) (oe : Obj) (c : Str) (d : Option Addr) (pn : List (Addr × Obj)), Zc (.ref (Γ.cl c)) d oe → (∃ vs, oe.data = .fields vs) →
      SimB ((cxOf C8.CX0 X.prog X.w X.K X.mg X.base Ng x sg g cdg X.A X.stack s H C8.E0).nox.suite a ((a, oe) :: pn)) (Γ.hold a c d) WF (b₀ :: suite) dsu) :
    GivesTo X Ng x sg g cdg [.Try [.Expr (.Call (.Name a p1) [] [] p2) p3] [.ExceptHandler (some (.Name e p4)) (some n) (b₀ :: suite) p5] [] [] p6, .Return (some (.Constant .none j p7)) p8] a q (TTr Γ tbl Ng.length i dsu dbody) := by
  intro f c' s H Q tl act hco h
  have hgl : Gl (cxOf C8.CX0 X.prog X.w X.K X.mg X.base Ng x sg g cdg X.A X.stack s H C8.E0).nox e := hc
  refine ⟨_, pss_cons (ps_try_as (i := i) (X := (cxOf C8.CX0 X.prog X.w X.K X.mg X.base Ng x sg g cdg X.A X.stack s H C8.E0).nox) (c := tv)
      (tb := fun W D σ H => ∃ Ech : XK, (∀ cls d σ' H', Ech cls d H' → W cls d σ' H') ∧ σ[0]? = some (some (.ref f)) ∧ H c' = some (CodeO c' q) ∧ tl Ech H (fun _ H' => D.nx σ H'))
      (ts := fun a cls d D σ H => σ.length = Ng.length → ∃ c, cls = .ref (Γ.cl c) ∧ tS (Γ.hold a c d) WF dsu D σ H)
      rfl rfl hN hi hln ⟨hgl, hde, .inl hme⟩ LamX.takes0 (fun W pn xe tk _ => ?_) (fun a oe cls d pn hz hv => ?_)) (pss_one (ps_ret pe_non)), ?_⟩
  · refine ⟨fun pins s' σ H' D I h' => ?_⟩
    obtain ⟨Ech, hW, h1, h2, h3⟩ := h'
    have hp := act W pn xe Ech p1 p2 tk hW
    have hq := pss_one (ps_expr (pos := p3) hp rfl)
    exact hq.run pins s' σ H' D I ⟨h1, h2, h3⟩
  · refine ⟨fun pins s σ H D I w => ?_⟩
    obtain ⟨c, ec, w2⟩ := w I.len
    subst ec
    exact (hsu _ _ a oe c d pn hz hv).ps.run pins s σ H D I w2
  · obtain ⟨m, ls, st, σ0, E0, sr, lr, htl, h⟩ := h
    refine ⟨fun cls d H' => ∃ b, PySem.W.exmOne X.K cls tv = some b ∧ (b = true → ∀ a, H' a = none → ∀ σ' : L2.St, σ'.length = Ng.length → ∃ c, cls = .ref (Γ.cl c) ∧
        tS (Γ.hold a c d) WF dsu { nx := fun _ H' => Q .non H', rt := Q, bk := fun _ _ => False, ct := fun _ _ => False } (σ'.set i (some (.ref a))) H') ∧ (b = false → False), fun cls d σ' H' ⟨b, e1, e2, e3⟩ => ⟨b, e1, fun hb a ha hl => ?_, fun hb => e3 hb⟩, h0 f, hco, ?_⟩
    · rw [List.length_set] at hl
      exact e2 hb a ha σ' hl
    · refine htl _ _ _ ⟨m, ls, st, sr, lr, ?_⟩
      have mb := fun a st' q => mb ls st a st' q
      match dbody ls st, h, mb with
      | some (.ok d, st1), h, mb => exact ⟨mb _ _ rfl, fun m1 H1 v e1 k1 s1 r1 => h.2 m1 H1 .non e1 k1 s1 .non⟩
      | some (.exc c fs, st1), h, mb =>
        have hl := mb _ _ rfl
        refine ⟨hl, fun m1 H1 dd e1 k1 s1 x1 => ?_⟩
        unfold raisedD at h
        dsimp only at h
        split at h
        · rename_i et
          refine ⟨true, by rw [hK]; exact hx _ _ et, fun _ a ha σ' hl' => ⟨c, rfl, ?_⟩, fun q => Bool.noConfusion q⟩
          have hl2 : (st1 ++ [Cell.exc true c fs]).length = st1.length + 1 := by rw [List.length_append, List.length_singleton]
          have e2 : Ext m1 st1.length (extM m1 st1.length a) := extM_ext
          have rv : Rv Γ.K (extM m1 st1.length a) (st1 ++ [Cell.exc true c fs]).length H1 (.obj st1.length) (.ref a) := by
            have z := Rv.obj (K := Γ.K) (m := extM m1 st1.length a) (H := H1) (n := st1.length) (L := (st1 ++ [Cell.exc true c fs]).length) (by rw [hl2]; exact Nat.lt_succ_self _)
            rw [extM_new] at z
            exact z
          refine ⟨extM m1 st1.length a, (List.replicate Ng.length none).set i (some (.obj st1.length)), st1 ++ [.exc true c fs], s1.hold_ex hex x1, ?_, ?_⟩
          · have z : LsR Γ (extM m1 st1.length a) (st1 ++ [Cell.exc true c fs]).length H1 (List.replicate Ng.length none) σ' := .blank hl'
            have z := z.set i rv
            exact ⟨z.len, z.at_⟩
          · have ms := fun a l st' q => ms ((List.replicate Ng.length none).set i (some (.obj st1.length))) (st1 ++ [.exc true c fs]) a l st' q
            have ee : ∀ {m2 : Nat → Addr}, Ext (extM m1 st1.length a) (st1 ++ [Cell.exc true c fs]).length m2 → Ext m st.length m2 := fun {m2} q => (e1.trans e2 hl).trans q (by rw [hl2]; exact Nat.le_trans hl (Nat.le_succ _))
            show ResS (Γ.hold a c dd) (extM m1 st1.length a) (st1 ++ [Cell.exc true c fs]).length H1 (dsu ((List.replicate Ng.length none).set i (some (.obj st1.length))) (st1 ++ [.exc true c fs])) _ WF
            revert h ms
            generalize dsu ((List.replicate Ng.length none).set i (some (.obj st1.length))) (st1 ++ [Cell.exc true c fs]) = r3
            intro h ms
            match r3, h, ms with
            | some (.next, l3, st3), h, ms =>
              have h : Res Γ m st.length H (okD .non (st3.map Cell.dead)) Q E0 := h
              exact ⟨ms _ _ _ rfl, fun m2 H2 σ2 q2 k2 s2 l2 => h.2 m2 H2 .non (ee q2) (k1.trans k2) s2.dead .non⟩
            | some (.brk, l3, st3), h, ms => exact h.elim
            | some (.cont, l3, st3), h, ms => exact h.elim
            | some (.ret v, l3, st3), h, ms =>
              have h : Res Γ m st.length H (okD v (st3.map Cell.dead)) Q E0 := h
              exact ⟨ms _ _ _ rfl, fun m2 H2 v q2 k2 s2 r2 => h.2 m2 H2 v (ee q2) (k1.trans k2) s2.dead (by rw [List.length_map]; exact r2)⟩
            | some (.exc _ _, l3, st3), h, ms => exact h.elim
            | none, h, ms => exact h.elim
        · exact h.elim
end

theorem StR.extN {Γ : Gam} {m : Nat → Addr} {st : Sto} {H H1 : Hp} (s : StR Γ m st H) (e : ExtN H H1) (t : Tabs Γ.T H1) : Keep H H1 ∧ StR Γ m st H1 := by
  have k : Keep H H1 := ⟨fun b xs h => e b _ h (fun ps z => by cases z), fun b o u h => e b _ h (fun ps z => by cases z), fun b vs h => e b _ h (fun ps z => by cases z)⟩
  refine ⟨k, ⟨fun n c h => ?_, s.inj, t⟩⟩
  have z := s.cell n c h
  match c, z with
  | .lst true l, ⟨vs, h, r⟩ => exact ⟨vs, k.roL h, r.mono (Ext.refl _ _) (Nat.le_refl _) k⟩
  | .lst false l, ⟨vs, h, r⟩ => exact ⟨vs, e _ _ h (fun ps z => by cases z), r.mono (Ext.refl _ _) (Nat.le_refl _) k⟩
  | .ins c fs, ⟨dx, vs, h, r⟩ => exact ⟨dx, vs, e _ _ h (fun ps z => by cases z), FsR.mono (Γ := Γ) (Ext.refl _ _) (Nat.le_refl _) k r⟩
  | .exc true c fs, ⟨d, h, r⟩ => exact ⟨d, h, r.mono (Ext.refl _ _) (Nat.le_refl _) k⟩
  | .exc false _ _, _ => exact trivial
/-- x(lambda: body), x such a def -/
def dRaised (tbl : List (Str × Bool)) (N i : Nat) (dsu : Ds) (dbody : De) : De := fun ls st => raisedD tbl N i dsu (dbody ls st)
theorem mono_raised {tbl : List (Str × Bool)} {N i : Nat} {dsu : Ds} {dbody : De} (ms : MonoS dsu) (mb : Mono dbody) : Mono (dRaised tbl N i dsu dbody) := fun ls st r st' h => raisedD_mono ms (fun a s z => mb ls st a s z) r st' h
section
variable {X : Cx} {Γ : Gam} {W : WX} {Ng : List Str} {x a e n : Str} {st : Stmt} {tv : Value} {c P : Addr} {j i k : Nat} {p1 p2 p3 p4 p5 p6 p7 p8 p lpos pos : Pos} {b₀ : Stmt} {suite : List Stmt} {tbl : List (Str × Bool)} {dsu : Ds} {dbody : De} {params : Arguments} {body : Expr} {scope : Scope}
theorem sim_raised (F : FunX Γ.K X.mg x st [a]) (Sg : FnScope Ng [a] (defScope st)) (hbg : defBody st = [.Try [.Expr (.Call (.Name a p1) [] [] p2) p3] [.ExceptHandler (some (.Name e p4)) (some n) (b₀ :: suite) p5] [] [] p6, .Return (some (.Constant .none j p7)) p8])
    (hex : Γ.ex = []) (hx : ExmX Γ tbl tv) (hK : X.K = Γ.K) (hN0 : Ng[0]? = some a) (hva : Vis (defScope st) a) (hi : Ng[i]? = some n) (hln : (defScope st).names.lookup n = some .local) (hc : (defScope st).names.lookup e = some .globalImplicit) (hme : X.mg e = some tv)
    (hde : (e == ("__debug__" : Str)) = false) (hda : (a == ("__debug__" : Str)) = false) (hca : (a == ("__classdict__" : Str)) = false) (h0 : ∀ f : Addr, (L2.start Ng [V.ref f])[0]? = some (some (V.ref f))) (hlen : ∀ f : Addr, (L2.start Ng [V.ref f]).length = Ng.length)
    (ms : MonoS dsu)
    (hsu : ∀ (g : Addr) (cdg : Value) (A : Around) (outer : List Env) (s : Shared) (H : Hp) (a : Addr) (oe : Obj) (c : Str) (d : Option Addr) (pn : List (Addr × Obj)), Room 1 (A.deeper (envOfC x (defScope st) s.heap.objs.size g cdg)) → Zc (.ref (Γ.cl c)) d oe → (∃ vs, oe.data = .fields vs) →
      SimB ((cxOf C8.CX0 X.prog X.w X.K X.mg X.base Ng x (defScope st) g cdg A outer s H C8.E0).nox.suite a ((a, oe) :: pn)) (Γ.hold a c d) WF (b₀ :: suite) dsu)
    (hg : Gl X x) (hdx : (x == ("__debug__" : Str)) = false) (TB : TabB X.base X.mg c P) (hcode : X.env.code = .ref c) (hmT : (P, X.env.qual ++ "<lambda>") ∈ Γ.T) (hu : ∀ p ∈ Γ.T, p.1 = P → p.2 = X.env.qual ++ "<lambda>") (hr : Room (k + 2) X.A) (L : LamS X.env.scope scope) (hdef : defaultsOf params X.env = ([], []))
    (hbind : ∀ (q : Str) (cl : List (Str × Addr)) (pm cv ctv : Value), bindArgs (PySem.W.kla_fn "<lambda>" q params body scope cl pm cv ctv) ⟨[], []⟩ = pure [])
    (hbody : ∀ (A : Around) (outer : List Env) (s : Shared) (H : Hp) (E : XK) (f c' : Addr), Room k (A.deeper (lamEnv X scope s.heap.objs.size f c')) → Sim (lamCx X A outer s H E scope f c') Γ (fun c d _ H' => E c d H') body dbody) (hk : k ≤ 100 := by decide) :
    Sim X Γ W (.Call (.Name x p) [.Lambda params body scope lpos] [] pos) (dRaised tbl Ng.length i dsu dbody) := by
  have mb : Mono dbody := (hbody callerA [] {} (fun _ => none) (fun _ _ _ => False) 0 0 (room_c hk _)).mono
  obtain ⟨g, fd, F, hm, b⟩ := F.ex
  have kp := F.kp
  obtain ⟨oc, od, kV, doc, pm, an, cdv, ct, osl, rfl, lk, hcd⟩ := F.ex
  rw [← hK] at kp lk hcd b
  rw [hbg] at lk b
  refine ⟨mono_raised ms mb, (pe_lamcall (T := Γ.T) (t := fun E => tD Γ (fun c d _ H => E c d H) dbody) (TT := TTr Γ tbl Ng.length i dsu dbody) hg hm kp lk hcd b Sg hN0 hva
    (raised_gives hex hx hK ms mb Sg.nd hi hln hc hme hde h0 hlen fun s H a oe c d pn hz hv => hsu g cdv X.A X.stack s H a oe c d pn ((hr.deeper _).mono (Nat.succ_le_succ (Nat.zero_le _))) hz hv) TB hcode hmT hu hr L hdef hbind (fun A outer s H E f c' h => (hbody A outer s H E f c' h).pe) hdx hda hca).imp fun σ H Q ⟨m, ls, st, s, l, h⟩ => ?_⟩
  refine ⟨s.tabs, fun H1 e T1 => ?_⟩
  obtain ⟨k1, s1⟩ := s.extN e T1
  exact ⟨m, ls, st, σ, _, s1, l.mono (Ext.refl _ _) (Nat.le_refl _) k1, fun E H' Q' z => z, Res.mono (r := raisedD tbl Ng.length i dsu (dbody ls st)) h (Ext.refl _ _) k1 (Nat.le_refl _) fun a st' q => mono_raised ms mb ls st a st' q⟩
end

theorem hx_lam {X : Cx} {A : Around} {outer : List Env} {s : Shared} {H : Hp} {E : XK} {scope : Scope} {f c' : Addr} :
    ∀ σ, PassesAt (L2.CX (lamCx X A outer s H E scope f c').prog (lamCx X A outer s H E scope f c').w) (lamCx X A outer s H E scope f c') σ (fun c d H' => (fun c d (_ : L2.St) H' => E c d H') c d σ H') := fun σ =>
  passAt (X := lamCx X A outer s H E scope f c') (W := fun c d _ H' => E c d H') (takes_of rfl rfl rfl rfl) σ
/-- the suite of the one except clause of the def's first statement -/
def suiteOf : List Stmt → List Stmt
  | .Try _ [.ExceptHandler _ _ b _] _ _ _ :: _ => b
  | _ => []
theorem type_list_count : typeOf (.builtin "list.count") = pure (.type "method_descriptor") := by kernel_rfl
theorem type_list_index : typeOf (.builtin "list.index") = pure (.type "method_descriptor") := by kernel_rfl
end MP
end
section
set_option maxRecDepth 100000
set_option maxHeartbeats 1000000
namespace PySem.W
open PySem PySem.Spec PySem.Calls PyProof.Rows
/-! ### x != y by an own __eq__; len(x) by an own __len__ -/
section
variable {prog : Program} {w : World} {A : Around} {E : Value → Shared → Prop} {s : Shared} {K : Frag} {x C f L : Addr} {h₀ : Heap} {m : Str → Option Value} {ox : Obj} {od : Option Obj} {b tb : Value}
theorem one_bind (self : Value) : bindSpecial (.builtin "object.__ne__") self = pure (.builtin "object.__ne__", [self]) := PySem.F.cmp_object.ne.bind self
theorem ifBound_B {M : Model} {args : List Value} {name : Str} {id : String} {Q : Option Value → Shared → Prop} (X : K.In s.heap) (I : InstAt s.heap x ox C od) (hs : findIn K (.ref C) name = some (some (.builtin id))) (hb : ∀ self, bindSpecial (.builtin id) self = pure (.builtin id, [self]))
    (h : wpAny M A (call (.builtin id) (.ref x :: args)) (fun v => Q (some v)) E s) : wpAny M A (callSpecialIfBound? (.ref x) name args) Q E s := by
  simp only [callSpecialIfBound?, bindSpecialIfBound?]
  refine wpAny_holding (wpAny_bind (wpAny_bind (wpAny_bind (I.type.here ((looks_findIn X hs).here ?_)))))
  simp only [hb]
  refine wpAny_bind (wpAny_askSetting (wpAny_ite ?_))
  have fin : wpAny M A (call (.builtin id) ([.ref x] ++ args) >>= fun v => pure (some v)) Q E s := wpAny_bind (wpAny_mono h (fun v s' h' => wpAny_pure h') fun _ _ h' => h')
  split
  · exact wpAny_bind (wpAny_pure (wpAny_pure (by exact fin)))
  · exact wpAny_tryCatch (wpAny_bind (wpAny_pure (wpAny_pure (by exact fin))))
theorem objNe_own {y : Value} {Q : Fin → Shared → Prop} (X : K.In s.heap) (I : InstAt s.heap x ox C od) (hu : A.units < cLine) (hs : findIn K (.ref C) "__eq__" = some (some (.ref f))) (hf : isFn K (.ref f) = true)
    (hcall : wpAny (model prog w) A (call (.ref f) [.ref x, y]) (fun v s' => ∃ b, v = .bool b ∧ Q (.done (.ret (.bool (!b)))) s') E s) :
    wpAny (model prog w) A (Builtin.«object.__ne__» ⟨[.ref x, y], []⟩) Q E s := by
  unfold Builtin.«object.__ne__»
  repeat (first
    | with_reducible refine wpAny_cRoomFor hu ?_
    | (refine wpAny_bind (m := callSpecialIfBound? (.ref x) (Str.ofString "__eq__") [y])
        (ifBound_K X I hs hf (wpAny_mono hcall (fun r s' hr => by
          obtain ⟨b, rfl, hq⟩ := hr
          repeat (first | exact hq | exact wpAny_pure hq | exact wpAny_truthy_bool hq | (refine wpAny_bind (m := truthy (.bool _)) (wpAny_truthy_bool ?_)) | wp_step)) fun _ _ e => e)))
    | wp_step)
theorem tryNe_own {y : Value} {Q : Option Value → Shared → Prop} (X : K.In s.heap) (I : InstAt s.heap x ox C od) (hu : A.units + 1 < cLine) (hn : findIn K (.ref C) "__ne__" = some (some (.builtin "object.__ne__"))) (ho : subIn K (.ref C) (.type "object") = some true)
    (hs : findIn K (.ref C) "__eq__" = some (some (.ref f))) (hf : isFn K (.ref f) = true)
    (hcall : wpAny (model prog w) A.in1 (call (.ref f) [.ref x, y]) (fun v s' => ∃ b, v = .bool b ∧ Q (some (.bool (!b))) s') E s) :
    wpAny (model prog w) A (tryCompare (.ref x) "__ne__" y) Q E s := by
  have sub : Looks (model prog w) s.heap (isInstance (.ref x) (.type "object")) true := (I.type (M := model prog w)).andThen (looks_subIn X ho)
  unfold tryCompare
  refine wpAny_bind (ifBound_B X I hn one_bind (wpAny_call (codeAny_call_builtin PySem.F.cmp_object.ne.plain PySem.F.cmpEntry_ne
    (check_slot PySem.F.cmpKind_ne PySem.F.cmpSplit_ne sub (PySem.F.cmpArgs_ne _ _) (objNe_own (A := A.in1) X I hu hs hf (wpAny_mono hcall (fun v s' hv => ?_) fun _ _ e => e))))))
  obtain ⟨b, rfl, hq⟩ := hv
  first | exact ⟨b, rfl, wpAny_pure hq⟩ | exact ⟨b, rfl, wpAny_pure (wpAny_pure hq)⟩ | exact ⟨b, rfl, hq⟩
theorem ne_K {Q : Value → Shared → Prop} (hu : A.units + 1 < cLine) (F : Fr h₀ L s.heap m) (X₀ : K.In h₀) (I : InstAt s.heap x ox C od) (hb : Looks (model prog w) s.heap (typeOf b) tb) (hn : notFirst K C tb = true)
    (hne : findIn K (.ref C) "__ne__" = some (some (.builtin "object.__ne__"))) (ho : subIn K (.ref C) (.type "object") = some true)
    (hs : findIn K (.ref C) "__eq__" = some (some (.ref f))) (hf : isFn K (.ref f) = true)
    (h : wpAny (model prog w) A.in1 (call (.ref f) [.ref x, b]) (fun v s' => ∃ k, v = .bool k ∧ Q (.bool (!k)) s') E s) : wpAny (model prog w) A (richCompare .NotEq (.ref x) b) Q E s := by
  have X := X₀.keeps F.keep
  have one : wpAny (model prog w) A (tryCompare (.ref x) (cmpInfo .NotEq).2.1 b) (fun r s' => ∃ k, r = some (.bool k) ∧ Q (.bool k) s') E s := by
    refine tryNe_own X I hu hne ho hs hf (wpAny_mono h (fun v s' ⟨k, ek, q⟩ => ⟨k, ek, !k, rfl, q⟩) fun _ _ e => e)
  unfold richCompare
  simp only [oneThing_ref]
  refine wpAny_holding (wpAny_bind (wpAny_cRoomFor (Nat.lt_of_succ_lt hu) ?_))
  refine wpAny_bind (I.type.here (wpAny_bind (hb.here ?_)))
  split
  · rename_i q
    have e : subIn K tb (.ref C) = some false := by
      rcases Bool.or_eq_true_iff.mp hn with e | e
      · rw [beq_iff_eq.mp e] at q; simp at q
      · exact beq_iff_eq.mp e
    refine wpAny_bind ((looks_subIn X e).here ?_)
    simp only [Bool.false_eq_true, if_false]
    refine wpAny_bind (wpAny_mono one (fun r s' z => ?_) fun _ _ e => e)
    obtain ⟨v, rfl, hq⟩ := z
    exact wpAny_pure hq
  · refine wpAny_bind (wpAny_pure ?_)
    simp only [Bool.false_eq_true, if_false]
    refine wpAny_bind (wpAny_mono one (fun r s' z => ?_) fun _ _ e => e)
    obtain ⟨v, rfl, hq⟩ := z
    exact wpAny_pure hq
/-- an own special method, asked by a builtin -/
theorem special_K {M : Model} {args : List Value} {name : Str} {Q : Option Value → Shared → Prop} (X : K.In s.heap) (I : InstAt s.heap x ox C od) (hs : findIn K (.ref C) name = some (some (.ref f))) (hf : isFn K (.ref f) = true)
    (h : wpAny M A (call (.ref f) (.ref x :: args)) (fun v => Q (some v)) E s) : wpAny M A (callSpecial? (.ref x) name args) Q E s := by
  unfold callSpecial?
  refine wpAny_bind (wpAny_bind (I.type.here ((looks_findIn X hs).here ?_)))
  refine wpAny_holding (wpAny_bind ((bind_fn X _ (beq_iff_eq.mp hf)).here ?_))
  show wpAny M A (call (.ref f) ([.ref x] ++ args) [] >>= fun v => pure (some v)) Q E s
  exact wpAny_bind (wpAny_mono h (fun v s' h' => wpAny_pure h') fun _ _ h' => h')
theorem len_own {Q : Value → Shared → Prop} (X : K.In s.heap) (I : InstAt s.heap x ox C od) (hs : findIn K (.ref C) "__len__" = some (some (.ref f))) (hf : isFn K (.ref f) = true)
    (h : wpAny (model prog w) A.in1 (call (.ref f) [.ref x]) (fun v s' => ∃ (n : Nat) (t : Tok), v = .int n t ∧ (n : Int) < 2 ^ 63 ∧ Q (.int n s'.toks) { s' with toks := s'.toks + 1 }) E s) : wpAny (model prog w) A (call (.builtin "len") [.ref x]) Q E s := by
  refine Calls.call_function_entry kind_len plain_len entry_len (args_len1 _) ?_
  unfold Builtin.«len»
  refine wpAny_bind (m := oneArg "len" _) (wpAny_pure ?_)
  refine wpAny_bind (m := callSpecial? (.ref x) (Str.ofString "__len__")) (special_K (A := A.in1) X I hs hf (wpAny_mono h (fun v s' hv => ?_) fun _ _ e => e))
  obtain ⟨n, t, rfl, hl, q⟩ := hv
  refine wpAny_bind (wpAny_holding (wpAny_pure ?_))
  refine wpAny_bind (wpAny_letGo ?_)
  show wpAny _ _ (if ((n : Nat) : Int) < 0 then _ else _) _ _ _
  rw [if_neg (by omega)]
  show wpAny _ _ (if ((n : Nat) : Int) ≥ 2 ^ 63 then _ else _) _ _ _
  rw [if_neg (by omega)]
  exact wpAny_bind (wpAny_mkInt (wpAny_pure ⟨_, rfl, q⟩))
end
end PySem.W
end
section
set_option maxRecDepth 100000
set_option maxHeartbeats 1000000
namespace MP
open PySem PySem.Spec PyProof.Rows L2

/-! ### instances: ==, !=, len, isinstance -/
theorem run_at {X : Cx} {A : Around} {n : Nat} {CX : CXT} {f : Addr} {fd : FuncData} {ps : List Str} {sp : Sp} {E : XK} {pins : List (Addr × Obj)} {σ : L2.St} {H : Hp} {s : Shared} {Q : VK} {us : List Value} {vs : List V} (sb : Sub X n A) (F : FnOk X.prog X.w X.K X.mg X.base CX n f fd ps sp) (hb : Binds X.K fd ps [])
    (hx : ∀ s', ∀ e, CX X.stack H s E e s' → X.xe e s') (I : Inv X pins σ H s) (r : Vals vs us) (h : sp vs H Q E) : wpAny (model X.prog X.w) A (call (.ref f) us) (EP X pins σ Q) X.xe s := by
  have e0 : Env0 X.prog X.w X.K X.mg X.base A X.stack s H := by
    have e := I.env0
    exact ⟨by rw [sb.fr]; exact e.frames, e.mod, e.bs, e.bsz, e.funs, e.frf, e.hok, e.bare⟩
  have hl : us.length = ps.length := by rw [← r.length]; exact F.len _ _ _ _ h
  refine wpAny_call (codeAny_mono (F.run A X.stack s H ⟨us, []⟩ us vs _ E sb.room e0 (by
    have := hb s us I.kIn (by simpa using hl)
    simpa using this) r h) fun r s' hq => ?_)
  cases r with
  | error e => exact hx s' e hq
  | ok fl =>
    cases fl with
    | ret w => exact I.after hq
    | next => exact False.elim hq
    | brk => exact False.elim hq
    | cont => exact False.elim hq
theorem no_exc {X : Cx} {H : Hp} {s : Shared} : ∀ s' e, L2.CX X.prog X.w X.stack H s EF e s' → X.xe e s' := fun s' e h => by
  obtain ⟨_, _, _, _, _, _, _, _, _, _, _, _, z⟩ := h
  exact z.elim
def rEqI (Γ : Gam) (C : Addr) (g : List D → Sto → Rt) (k : Bool → Bool) : R2 := fun x y H Q => ∃ a b dx dy fs gs, x = .ref a ∧ y = .ref b ∧ H a = some (.ins C dx fs) ∧ H b = some (.ins C dy gs) ∧ spD Γ 2 g [x, y] H (fun v H' => ∃ b, v = .bl b ∧ Q (.bl (k b)) H') EF
structure OwnEqX (Γ : Gam) (cls : Str) : Prop where
  ne : PySem.W.findIn Γ.K (.ref (Γ.cl cls)) "__ne__" = some (some (.builtin "object.__ne__"))
  ob : PySem.W.subIn Γ.K (.ref (Γ.cl cls)) (.type "object") = some true
section
variable {X : Cx} {Γ : Gam} {W : WX} {cls : Str} {k : Nat} {g : List D → Sto → Rt}
theorem op_eqI (G : DenM X.prog X.w Γ X.mg X.base k cls "__eq__" 2 g) (hK : X.K = Γ.K) (hr : Room k X.A) : OpR X (compareOp .Eq) (rEqI Γ (Γ.cl cls) g id) := by
  intro pins s σ H x y v u Q I rx ry h
  obtain ⟨⟨f, fd, ps, F, h1, h2, hb⟩, mo⟩ := G
  rw [← hK] at F h1 h2 hb
  obtain ⟨a, b, dx, dy, fs, gs, rfl, rfl, ha, hb', hsp⟩ := h
  cases rx
  cases ry
  obtain ⟨mA, J, _⟩ := ins_get I.hok ha
  obtain ⟨mB, J', _⟩ := ins_get I.hok hb'
  obtain ⟨od, J, _⟩ := J.look
  obtain ⟨od', J', _⟩ := J'.look
  obtain ⟨m, hF⟩ := I.fr
  show wpAny (model X.prog X.w) X.A (richCompare .Eq _ _) (EP X pins σ Q) X.xe s
  refine PySem.W.cmp_K (op := .Eq) (tb := .ref (Γ.cl cls)) hr.units0 hF I.ok.mod.kin J J'.type (by simp [PySem.W.notFirst]) h1 h2 ?_
  refine wpAny_mono (run_at ⟨hr, rfl⟩ F hb (no_exc (X := X)) I (show Vals [V.ref a, V.ref b] [Value.ref a, Value.ref b] from .cons rfl (.cons rfl .nil)) hsp) (fun v s' hq => ?_) fun _ _ e => e
  obtain ⟨v', H', I', rv, b, ev, q⟩ := hq
  subst ev
  cases rv
  exact ⟨.bl b, H', I', rfl, q⟩
theorem op_neI (G : DenM X.prog X.w Γ X.mg X.base k cls "__eq__" 2 g) (N : OwnEqX Γ cls) (hK : X.K = Γ.K) (hr : Room (k + 1) X.A) : OpR X (compareOp .NotEq) (rEqI Γ (Γ.cl cls) g (!·)) := by
  intro pins s σ H x y v u Q I rx ry h
  obtain ⟨⟨f, fd, ps, F, h1, h2, hb⟩, mo⟩ := G
  have n1 := N.ne
  have n2 := N.ob
  rw [← hK] at F h1 h2 hb n1 n2
  obtain ⟨a, b, dx, dy, fs, gs, rfl, rfl, ha, hb', hsp⟩ := h
  cases rx
  cases ry
  obtain ⟨mA, J, _⟩ := ins_get I.hok ha
  obtain ⟨mB, J', _⟩ := ins_get I.hok hb'
  obtain ⟨od, J, _⟩ := J.look
  obtain ⟨od', J', _⟩ := J'.look
  obtain ⟨m, hF⟩ := I.fr
  show wpAny (model X.prog X.w) X.A (richCompare .NotEq _ _) (EP X pins σ Q) X.xe s
  refine PySem.W.ne_K (tb := .ref (Γ.cl cls)) (by have := hr.units; omega) hF I.ok.mod.kin J J'.type (by simp [PySem.W.notFirst]) n1 n2 h1 h2 ?_
  refine wpAny_mono (run_at (Sub.in1 ⟨hr, rfl⟩) F hb (no_exc (X := X)) I (show Vals [V.ref a, V.ref b] [Value.ref a, Value.ref b] from .cons rfl (.cons rfl .nil)) hsp) (fun v s' hq => ?_) fun _ _ e => e
  obtain ⟨v', H', I', rv, b, ev, q⟩ := hq
  subst ev
  cases rv
  exact ⟨b, rfl, .bl (!b), H', I', rfl, q⟩
end
def isIns (cls : Str) (d : D) (st : Sto) : Bool := match d with
  | .obj n => match st[n]? with
    | some (.ins c _) => c == cls
    | _ => false
  | _ => false
def blK (k : Bool → Bool) : D → Sto → Rt
  | .bl b, st => okD (.bl (k b)) st
  | _, _ => none
theorem mono_blK {k : Bool → Bool} : MonoF (blK k) := by
  intro d st r st' h
  unfold blK at h
  split at h
  · exact mono_ok h
  · cases h
/-- == where the left side may be an instance of cls -/
def fEqO (cls : Str) (g : List D → Sto → Rt) (d e : D) (st : Sto) : Rt := if isIns cls d st then (if isIns cls e st then bindO (g [d, e] st) (blK id) else none) else fEq d e st
def fNeO (cls : Str) (g : List D → Sto → Rt) (d e : D) (st : Sto) : Rt := if isIns cls d st then (if isIns cls e st then bindO (g [d, e] st) (blK (!·)) else none) else fNe d e st
theorem mono_fEqO {cls : Str} {g : List D → Sto → Rt} (mg : MonoFA g) : MonoF2 (fEqO cls g) := by
  intro d e st r st' h
  unfold fEqO at h
  repeat' (split at h)
  · exact bindO_mono (fun a s z => mg _ _ a s z) mono_blK _ _ h
  · cases h
  · exact mono_fEq _ _ _ _ _ h
theorem mono_fNeO {cls : Str} {g : List D → Sto → Rt} (mg : MonoFA g) : MonoF2 (fNeO cls g) := by
  intro d e st r st' h
  unfold fNeO at h
  repeat' (split at h)
  · exact bindO_mono (fun a s z => mg _ _ a s z) mono_blK _ _ h
  · cases h
  · exact mono_fNe _ _ _ _ _ h
section
variable {Γ : Gam} {cls : Str} {g : List D → Sto → Rt}
theorem isIns_at {m : Nat → Addr} {st : Sto} {H : Hp} {d : D} {v : V} (s : StR Γ m st H) (h : isIns cls d st = true) (r : Rv Γ.K m st.length H d v) : ∃ a dx fs, v = .ref a ∧ H a = some (.ins (Γ.cl cls) dx fs) := by
  unfold isIns at h
  split at h
  · rename_i n
    split at h
    · rename_i c fs e
      have ec : c = cls := beq_iff_eq.mp h
      subst ec
      cases r
      obtain ⟨dx, vs, h1, h2⟩ := s.cell n _ e
      exact ⟨_, dx, vs, rfl, h1⟩
    · cases h
  · cases h
theorem eqI_of {k : Bool → Bool} {m : Nat → Addr} {st : Sto} {H : Hp} {d e : D} {x y : V} {Q : VK} {E : XK} (mg : MonoFA g) (s : StR Γ m st H) (rx : Rv Γ.K m st.length H d x) (ry : Rv Γ.K m st.length H e y) (h1 : isIns cls d st = true) (h2 : isIns cls e st = true)
    (h : Res Γ m st.length H (bindO (g [d, e] st) (blK k)) Q E) : rEqI Γ (Γ.cl cls) g k x y H Q := by
  obtain ⟨a, dx, fs, rfl, ha⟩ := isIns_at s h1 rx
  obtain ⟨b, dy, gs, rfl, hb⟩ := isIns_at s h2 ry
  refine ⟨a, b, dx, dy, fs, gs, rfl, rfl, ha, hb, rfl, m, [d, e], st, s, .cons rx (.cons ry .nil), ?_⟩
  refine (Res.bindO h (fun a st' q => mg _ _ a st' q) mono_blK).imp fun v H1 ⟨m1, d1, st1, e1, k1, hl, s1, r1, q⟩ => ?_
  unfold blK at q
  split at q
  · rename_i b
    cases r1
    exact ⟨b, rfl, q.ok s1 (.bl _)⟩
  · exact q.elim
theorem os_eqO (mg : MonoFA g) : OpSim Γ (fun x y H Q => rEqI Γ (Γ.cl cls) g id x y H Q ∨ rEqD Γ.K x y H Q) (fEqO cls g) := fun m st H x y d e Q E s rx ry h => by
  unfold fEqO at h
  split at h
  · rename_i h1
    split at h
    · rename_i h2
      exact .inl (eqI_of mg s rx ry h1 h2 h)
    · exact h.elim
  · exact .inr (os_eq m st H x y d e Q E s rx ry h)
theorem os_neO (mg : MonoFA g) : OpSim Γ (fun x y H Q => rEqI Γ (Γ.cl cls) g (!·) x y H Q ∨ rNeD Γ.K x y H Q) (fNeO cls g) := fun m st H x y d e Q E s rx ry h => by
  unfold fNeO at h
  split at h
  · rename_i h1
    split at h
    · rename_i h2
      exact .inl (eqI_of mg s rx ry h1 h2 h)
    · exact h.elim
  · exact .inr (os_ne m st H x y d e Q E s rx ry h)
end
section
variable {X : Cx} {Γ : Gam} {W : WX} {cls : Str} {k : Nat} {g : List D → Sto → Rt} {e a b : Expr} {da db : De} {pos p p2 : Pos} {es : List Expr} {das : List De}
theorem sim_eqO (G : DenM X.prog X.w Γ X.mg X.base k cls "__eq__" 2 g) (hK : X.K = Γ.K) (hr : Room k X.A) (ha : Sim X Γ W a da) (hb : Sim X Γ W b db) (hm : behindInMarks .Eq b = false) : Sim X Γ W (.Compare a [.Eq] [b] pos) (dBin (fEqO cls g) da db) :=
  sim_cmp ((op_eqI G hK hr).or (op_eqD hr.units)) (by rw [hK]; exact os_eqO G.mono) (mono_fEqO G.mono) ha hb hm
theorem simT_eqO (G : DenM X.prog X.w Γ X.mg X.base k cls "__eq__" 2 g) (hK : X.K = Γ.K) (hr : Room k X.A) (ha : Sim X Γ W a da) (hb : Sim X Γ W b db) (hm : behindInMarks .Eq b = false) : SimT X Γ W (.Compare a [.Eq] [b] pos) (dBin (fEqO cls g) da db) :=
  simT_cmp ((op_eqI G hK hr).or (op_eqD hr.units)) (by rw [hK]; exact os_eqO G.mono) (mono_fEqO G.mono) ha hb hm
theorem sim_neO (G : DenM X.prog X.w Γ X.mg X.base k cls "__eq__" 2 g) (N : OwnEqX Γ cls) (hK : X.K = Γ.K) (hr : Room (k + 1) X.A) (ha : Sim X Γ W a da) (hb : Sim X Γ W b db) (hm : behindInMarks .NotEq b = false) : Sim X Γ W (.Compare a [.NotEq] [b] pos) (dBin (fNeO cls g) da db) :=
  sim_cmp ((op_neI G N hK hr).or (op_neD hr.units)) (by rw [hK]; exact os_neO G.mono) (mono_fNeO G.mono) ha hb hm
theorem simT_neO (G : DenM X.prog X.w Γ X.mg X.base k cls "__eq__" 2 g) (N : OwnEqX Γ cls) (hK : X.K = Γ.K) (hr : Room (k + 1) X.A) (ha : Sim X Γ W a da) (hb : Sim X Γ W b db) (hm : behindInMarks .NotEq b = false) : SimT X Γ W (.Compare a [.NotEq] [b] pos) (dBin (fNeO cls g) da db) :=
  simT_cmp ((op_neI G N hK hr).or (op_neD hr.units)) (by rw [hK]; exact os_neO G.mono) (mono_fNeO G.mono) ha hb hm

/-! len of an instance -/
def rLenI (Γ : Gam) (C : Addr) (g : List D → Sto → Rt) : List V → Hp → VK → Prop := fun xs H Q => ∃ a dx fs, xs = [.ref a] ∧ H a = some (.ins C dx fs) ∧ spD Γ 1 g xs H (fun v H' => ∃ n : Nat, v = .int n ∧ (n : Int) < 2 ^ 63 ∧ Q (.int n) H') EF
theorem call_lenI (G : DenM X.prog X.w Γ X.mg X.base k cls "__len__" 1 g) (hK : X.K = Γ.K) (hr : Room (k + 1) X.A) : CallR X (.builtin "len") (rLenI Γ (Γ.cl cls) g) := by
  intro pins s σ H xs us Q I r h
  obtain ⟨⟨f, fd, ps, F, h1, h2, hb⟩, mo⟩ := G
  rw [← hK] at F h1 h2 hb
  obtain ⟨a, dx, fs, rfl, ha, hsp⟩ := h
  obtain ⟨u, rfl, rx⟩ := vals1 r
  cases rx
  obtain ⟨mA, J, _⟩ := ins_get I.hok ha
  obtain ⟨od, J, _⟩ := J.look
  refine PySem.W.len_own I.kIn J h1 h2 (wpAny_mono (run_at (Sub.in1 ⟨hr, rfl⟩) F hb (no_exc (X := X)) I (show Vals [V.ref a] [Value.ref a] from .cons rfl .nil) hsp) (fun v s' hq => ?_) fun _ _ e => e)
  obtain ⟨v', H', I', rv, n, ev, hn, q⟩ := hq
  subst ev
  obtain ⟨t, rfl⟩ := rv
  exact ⟨n, t, rfl, hn, .int n, H', I'.tok _, ⟨_, rfl⟩, q⟩
def natK : D → Sto → Rt
  | .int i, st => if 0 ≤ i ∧ i < 2 ^ 63 then okD (.int i) st else none
  | _, _ => none
theorem mono_natK : MonoF natK := by
  intro d st r st' h
  unfold natK at h
  repeat' (split at h)
  all_goals first | exact mono_ok h | cases h
def fLenO (cls : Str) (g : List D → Sto → Rt) : List D → Sto → Rt
  | [d], st => if isIns cls d st then bindO (g [d] st) natK else fLen [d] st
  | _, _ => none
theorem mono_fLenO (mg : MonoFA g) : MonoFA (fLenO cls g) := by
  intro ds st r st' h
  unfold fLenO at h
  split at h
  · split at h
    · exact bindO_mono (fun a s z => mg _ _ a s z) mono_natK _ _ h
    · exact mono_fLen _ _ _ _ h
  · cases h
theorem cs_lenO (mg : MonoFA g) : CallSim Γ (fun xs H Q => rLenI Γ (Γ.cl cls) g xs H Q ∨ rLenD Γ.K xs H Q) (fLenO cls g) := fun m st H vs ds Q E s r h => by
  unfold fLenO at h
  split at h
  · rename_i d
    split at h
    · rename_i h1
      cases r with
      | cons r0 rr =>
        cases rr
        obtain ⟨a, dx, fs, rfl, ha⟩ := isIns_at s h1 r0
        refine .inl ⟨a, dx, fs, rfl, ha, rfl, m, [d], st, s, .cons r0 .nil, ?_⟩
        refine (Res.bindO h (fun a st' q => mg _ _ a st' q) mono_natK).imp fun v H1 ⟨m1, d1, st1, e1, k1, hl, s1, r1, q⟩ => ?_
        unfold natK at q
        split at q
        · rename_i i
          split at q
          · rename_i hi
            cases r1
            refine ⟨i.toNat, by rw [Int.toNat_of_nonneg hi.1], by rw [Int.toNat_of_nonneg hi.1]; exact hi.2, ?_⟩
            rw [Int.toNat_of_nonneg hi.1]
            exact q.ok s1 (.int _)
          · exact q.elim
        · exact q.elim
    · exact .inr (cs_len m st H vs [d] Q E s r h)
  · exact h.elim
theorem sim_lenO (G : DenM X.prog X.w Γ X.mg X.base k cls "__len__" 1 g) (hK : X.K = Γ.K) (hr : Room (k + 1) X.A) (hg : Gl X "len") (hm : X.mg "len" = none) (h : SimA X Γ W (e :: es) das)
    (he : starEach (e :: es) X.env = (false, eval e X.env) :: starEach es X.env) (hpl : (backTo pos (starEach es X.env)).any (·.1) = false) : Sim X Γ W (.Call (.Name "len" p) (e :: es) [] pos) (dApp (fLenO cls g) das) :=
  sim_callB ((call_lenI G hK hr).or cr_len) (by rw [hK]; exact cs_lenO G.mono) (mono_fLenO G.mono) hg hm (by decide +kernel) h (by decide) (by decide) he hpl

/-! isinstance of an instance -/
structure IsIX (Γ : Gam) (tbl : List (Str × Bool)) (T : Str) : Prop where
  ok : ∀ c b, tbl.lookup c = some b → Cls Γ.K (Γ.cl c) ∧ PySem.W.findIn Γ.K (.ref (Γ.cl c)) "__class__" = some (some (.builtin "object.__class__")) ∧ PySem.W.mroIn Γ.K (Γ.cl c) (.type "object") = some true ∧ PySem.W.kitOne Γ.K (.ref (Γ.cl c)) (.ref (Γ.cl T)) = some b
  hn : PySem.W.specialIn Γ.K (.builtin "object.__class__") "__get__" = some (some (.builtin "getset_descriptor.__get__"))
  ht : PySem.W.takesIn Γ.K (.builtin "object.__class__") = some true
def fIsI (tbl : List (Str × Bool)) : D → Sto → Rt
  | .obj n, st => match st[n]? with
    | some (.ins c _) => match tbl.lookup c with
      | some b => okD (.bl b) st
      | none => none
    | _ => none
  | _, _ => none
theorem mono_fIsI {tbl : List (Str × Bool)} : MonoF (fIsI tbl) := by
  intro d st r st' h
  unfold fIsI at h
  repeat' (split at h)
  all_goals first | exact mono_ok h | cases h
theorem sim_isI {tbl : List (Str × Bool)} {T : Str} (hx : IsIX Γ tbl T) (hT : X.mg T = some (.ref (Γ.cl T))) (hK : X.K = Γ.K) (hg : Gl X "isinstance") (hm : X.mg "isinstance" = none) (hg2 : Gl X T) (hd2 : (T == ("__debug__" : Str)) = false) (ha : Sim X Γ W a da)
    (he : starEach [a, .Name T p2] X.env = (false, eval a X.env) :: starEach [.Name T p2] X.env) (he2 : starEach [.Name T p2] X.env = (false, eval (.Name T p2) X.env) :: starEach [] X.env) (hpl : (backTo pos (starEach [.Name T p2] X.env)).any (·.1) = false) :
    Sim X Γ W (.Call (.Name "isinstance" p) [a, .Name T p2] [] pos) (dUn (fIsI tbl) da) := by
  refine ⟨mono_un ha.mono mono_fIsI, (pe_callB call_isi hg hm boot_isinstance (pa_cons ha.pe (pa_cons (pe_glob (v := .ref (Γ.cl T)) hg2 hT rfl hd2) pa_nil he2) he) (by decide) (by decide) he hpl).imp fun σ H Q ⟨m, ls, st, s, l, h⟩ => ?_⟩
  obtain ⟨m0, ls0, st0, s0, l0, q0⟩ := tD_bind ha.mono s l mono_fIsI h
  refine ⟨m0, ls0, st0, s0, l0, q0.imp fun v H1 ⟨m1, dd, st1, s1, l1, r1, q1, _⟩ => ?_⟩
  match dd, r1, q1 with
  | .obj n, .obj _, q1 =>
    dsimp only [fIsI] at q1
    split at q1
    · rename_i c fs e
      split at q1
      · rename_i k ek
        obtain ⟨h1, h2, h3, h4⟩ := hx.ok _ _ ek
        obtain ⟨dx, vs, z1, z2⟩ := s1.cell n _ e
        rw [← hK] at h1 h2 h3 h4
        have n1 := hx.hn
        have n2 := hx.ht
        rw [← hK] at n1 n2
        exact ⟨_, .ref (Γ.cl T), _, _, k, rfl, .own _, .base (.ins z1 h1 h2 n1 n2 h3), h4, q1.ok s1 (.bl k)⟩
      · exact q1.elim
    · exact q1.elim
end
end MP
end
section
set_option maxRecDepth 100000
set_option maxHeartbeats 1000000
namespace MP
open PySem PySem.Spec PyProof.Rows L2

/-! ### list.count, list.index of plain values -/
def rCntF (K : PySem.W.Frag) : V → List V → Hp → VK → Prop := fun x xs H Q => ∃ (p : Addr) (ys : List V) (y : V), x = .ref p ∧ xs = [y] ∧ SqL K H p ys ∧ flatV y = true ∧ ys.all flatV = true ∧ Q (.int (ys.countP fun z => eqV z y : Nat)) H
theorem eqU_count {y : V} : ∀ {ys : List V} {us : List Value}, Vals ys us → ys.all flatV = true → us.countP (eqU y) = ys.countP fun z => eqV z y
  | _, _, .nil, _ => rfl
  | z :: ys, _, .cons r t, h => by
    rw [List.all_cons, Bool.and_eq_true] at h
    rw [List.countP_cons, List.countP_cons, eqU_count t h.2, eqU_of r h.1]
theorem mt_countF {X : Cx} : MtR X "list.count" (rCntF X.K) := by
  intro pins s σ H x xs v us Q I rx rxs h
  obtain ⟨p, ys, y, rfl, rfl, hs, fy, fys, q⟩ := h
  cases rx
  obtain ⟨u, rfl, ru⟩ := rxs.one
  obtain ⟨its, rv, ⟨⟨cls, dd, data, sl⟩, n, ho, hc, hdn, hd⟩, hlen⟩ := I.list hs
  simp only at hc hd
  subst hc hd
  refine call_meets PySem.F.slot_list_count ⟨_, ho, rfl⟩ PySem.F.entry_list_count (PySem.F.args_list_count_2 _ _)
    (SeqAt.list_countAt p its.toArray n dd sl u (eqU y)) ⟨ho, fun u' hu' => mem_eqAt ru fy rv fys u' (by simpa using hu'), ?_⟩
  have ec : its.toArray.toList.countP (eqU y) = ys.countP fun z => eqV z y := eqU_count rv fys
  refine ⟨.int (ys.countP fun z => eqV z y : Nat), H, I.tok _, ⟨s.toks, ?_⟩, q⟩
  show Value.int ((its.toArray.toList.countP (eqU y) : Nat) : Int) s.toks = _
  rw [ec]
def flD : D → Option V
  | .non => some .non
  | .bl b => some (.bl b)
  | .int i => some (.int i)
  | .str s => some (.str s)
  | _ => none
theorem flD_v {K : PySem.W.Frag} {m : Nat → Addr} {L : Nat} {H : Hp} : ∀ {d : D} {v w : V}, Rv K m L H d v → flD d = some w → v = w ∧ flatV v = true
  | .non, _, _, .non, h => by cases h; exact ⟨rfl, rfl⟩
  | .bl _, _, _, .bl _, h => by cases h; exact ⟨rfl, rfl⟩
  | .int _, _, _, .int _, h => by cases h; exact ⟨rfl, rfl⟩
  | .str _, _, _, .str _, h => by cases h; exact ⟨rfl, rfl⟩
theorem flDs_v {K : PySem.W.Frag} {m : Nat → Addr} {L : Nat} {H : Hp} : ∀ {ds : List D} {vs ws : List V}, RvL K m L H ds vs → mapO flD ds = some ws → vs = ws ∧ vs.all flatV = true
  | [], _, _, .nil, h => by cases h; exact ⟨rfl, rfl⟩
  | d :: ds, _, _, .cons r rs, h => by
    obtain ⟨b, t, e1, e2, rfl⟩ := mapO_cons h
    obtain ⟨h1, h2⟩ := flD_v r e1
    obtain ⟨h3, h4⟩ := flDs_v rs e2
    refine ⟨by rw [h1, h3], ?_⟩
    rw [List.all_cons, h2, h4]
    rfl
def fCount : D → List D → Sto → Rt
  | .obj n, [d], st => match st[n]? with
    | some (.lst _ l) => match mapO flD l, flD d with
      | some ys, some y => okD (.int (ys.countP fun z => eqV z y : Nat)) st
      | _, _ => none
    | _ => none
  | _, _, _ => none
def fIndex : D → List D → Sto → Rt
  | .obj n, [d], st => match st[n]? with
    | some (.lst _ l) => match mapO flD l, flD d with
      | some ys, some y => match ys.findIdx? fun z => eqV z y with
        | some j => okD (.int (j : Nat)) st
        | none => none
      | _, _ => none
    | _ => none
  | _, _, _ => none
theorem mono_fCount : MonoM fCount := by
  intro x ds st r st' h
  unfold fCount at h
  repeat' (split at h)
  all_goals first | exact mono_ok h | cases h
theorem mono_fIndex : MonoM fIndex := by
  intro x ds st r st' h
  unfold fIndex at h
  repeat' (split at h)
  all_goals first | exact mono_ok h | cases h
theorem ms_count {Γ : Gam} : MtSim Γ (rCntF Γ.K) fCount := fun
  | m, st, H, _, _, .obj n, [d], Q, E, s, .obj _, .cons rd .nil, h => by
    dsimp only [fCount] at h
    split at h
    · rename_i ro l e
      split at h
      · rename_i ys y e1 e2
        obtain ⟨vs, a, r⟩ := s.list e
        obtain ⟨h1, h2⟩ := flDs_v r e1
        obtain ⟨h3, h4⟩ := flD_v rd e2
        subst h1 h3
        exact ⟨m n, _, _, rfl, rfl, a, h4, h2, h.ok s (.int _)⟩
      · exact h.elim
    · exact h.elim
theorem ms_index {Γ : Gam} : MtSim Γ (rIndex Γ.K) fIndex := fun
  | m, st, H, _, _, .obj n, [d], Q, E, s, .obj _, .cons rd .nil, h => by
    dsimp only [fIndex] at h
    split at h
    · rename_i ro l e
      split at h
      · rename_i ys y e1 e2
        split at h
        · rename_i j ej
          obtain ⟨vs, a, r⟩ := s.list e
          obtain ⟨h1, h2⟩ := flDs_v r e1
          obtain ⟨h3, h4⟩ := flD_v rd e2
          subst h1 h3
          obtain ⟨hj, p1, p2⟩ := List.findIdx?_eq_some_iff_getElem.mp ej
          refine ⟨m n, _, _, j, _, rfl, rfl, a, h4, h2, List.getElem?_eq_getElem hj, p1, fun k z' hk hz => ?_, h.ok s (.int _)⟩
          obtain ⟨hk', e3⟩ := List.getElem?_eq_some_iff.mp hz
          have := p2 k hk
          rw [e3] at this
          simpa using this
        · exact h.elim
      · exact h.elim
    · exact h.elim

/-! ### a def whose own code object is known -/
structure FunC (K : PySem.W.Frag) (mg : Str → Option Value) (x : Str) (st : Stmt) (ps : List Str) (c : Addr) : Prop where
  ex : ∃ (f : Addr) (oc : Value) (od : Option Addr) (kV doc pm : Value) (an : Option Addr) (ct : Value) (osl : Array (Option Value)),
    K.lookup f = some ⟨oc, od, .func (PySem.W.fnOf x x (defArgs st) (defBody st) (defScope st) .none kV doc pm an (.ref c) ct), osl⟩ ∧ PySem.W.codeIn K (.ref c) x = true ∧ mg x = some (.ref f) ∧ Binds K (PySem.W.fnOf x x (defArgs st) (defBody st) (defScope st) .none kV doc pm an (.ref c) ct) ps []
section
variable {P : Program} {w : World} {Γ : Gam} {mg : Str → Option Value} {base : Heap}
theorem den_ofC {x : Str} {st : Stmt} {N ps : List Str} {k : Nat} {c : Addr} (F : FunC Γ.K mg x st ps c) (S : FnScope N ps (defScope st)) {db : Ds}
    (hbody : ∀ (f : Addr) (A : Around) (outer : List Env) (s : Shared) (H : Hp) (E : XK), Room k (A.deeper (envOfC x (defScope st) s.heap.objs.size f (.ref c))) →
      SimB (cxOf (L2.CX P w) P w Γ.K mg base N x (defScope st) f (.ref c) A outer s H E) Γ (fun c d _ H' => E c d H') (defBody st) db) (hk : k ≤ 100 := by decide) :
    ∃ f fd, FnOk P w Γ.K mg base (L2.CX P w) (k + 1) f fd ps (spD Γ ps.length (runD N.length db)) ∧ mg x = some (.ref f) ∧ Binds Γ.K fd ps [] := by
  obtain ⟨f, oc, od, kV, doc, pm, an, ct, osl, lk, hcd, hm, hb⟩ := F.ex
  refine ⟨f, _, fn_of lk hcd S (fun vs H Q E h => h.1) fun A outer s H vs Q E hr h => ?_, hm, hb⟩
  obtain ⟨_, m, ds, sto, sr, rv, h⟩ := h
  have B := hbody f A outer s H E hr
  refine ⟨_, B.ps, m, startL N.length ds, sto, sr, startL_rel rv, ?_⟩
  have mb := fun a l st' q => B.mono (startL N.length ds) sto a l st' q
  unfold runD at h
  match db (startL N.length ds) sto, h, mb with
  | some (.next, ls', st'), h, mb => exact ⟨h.1, fun m' H' σ' e k s l => h.2 m' H' .non e k s .non⟩
  | some (.ret d, ls', st'), h, mb => exact h
  | some (.exc c fs, ls', st'), h, mb => exact ⟨h.1, fun m' H' σ' dd e k s l x => h.2 m' H' dd e k s x⟩
  | some (.brk, ls', st'), h, mb => exact h.elim
  | some (.cont, ls', st'), h, mb => exact h.elim
/-- the law's own def -/
theorem den_ofL {x : Str} {st : Stmt} {N ps : List Str} {k : Nat} {f : Addr} {oc : Value} {od : Option Addr} {kV doc pm cdv : Value} {an : Option Addr} {ct : Value} {osl : Array (Option Value)} (lk : Γ.K.lookup f = some ⟨oc, od, .func (PySem.W.fnOf x x (defArgs st) (defBody st) (defScope st) .none kV doc pm an cdv ct), osl⟩)
    (hcd : PySem.W.codeIn Γ.K cdv x = true) (S : FnScope N ps (defScope st)) {db : Ds}
    (hbody : ∀ (A : Around) (outer : List Env) (s : Shared) (H : Hp) (E : XK), Room k (A.deeper (envOfC x (defScope st) s.heap.objs.size f cdv)) →
      SimB (cxOf (L2.CX P w) P w Γ.K mg base N x (defScope st) f cdv A outer s H E) Γ (fun c d _ H' => E c d H') (defBody st) db) (hk : k ≤ 100 := by decide) :
    FnOk P w Γ.K mg base (L2.CX P w) (k + 1) f (PySem.W.fnOf x x (defArgs st) (defBody st) (defScope st) .none kV doc pm an cdv ct) ps (spD Γ ps.length (runD N.length db)) := by
  refine fn_of lk hcd S (fun vs H Q E h => h.1) fun A outer s H vs Q E hr h => ?_
  obtain ⟨_, m, ds, sto, sr, rv, h⟩ := h
  have B := hbody A outer s H E hr
  refine ⟨_, B.ps, m, startL N.length ds, sto, sr, startL_rel rv, ?_⟩
  have mb := fun a l st' q => B.mono (startL N.length ds) sto a l st' q
  unfold runD at h
  match db (startL N.length ds) sto, h, mb with
  | some (.next, ls', st'), h, mb => exact ⟨h.1, fun m' H' σ' e k s l => h.2 m' H' .non e k s .non⟩
  | some (.ret d, ls', st'), h, mb => exact h
  | some (.exc c fs, ls', st'), h, mb => exact ⟨h.1, fun m' H' σ' dd e k s l x => h.2 m' H' dd e k s x⟩
  | some (.brk, ls', st'), h, mb => exact h.elim
  | some (.cont, ls', st'), h, mb => exact h.elim
end
end MP
end
section
set_option maxRecDepth 100000
set_option maxHeartbeats 1000000
namespace MP
open PySem PySem.Spec PyProof.Rows L2

/-! ### the facts of the written part, in bundles -/
def clM (l : List (Str × Addr)) (s : Str) : Addr := (l.lookup s).getD 0
def zB (K : PySem.W.Frag) (l : List Str) : Bool := l.all fun x => decide (PySem.W.nsIn K mainGlobals x = some none)
theorem zB_ok {K : PySem.W.Frag} {l : List Str} {h : Heap} {mg : Str → Option Value} (X : K.In h) (G : h.Ns mainGlobals mg) (b : zB K l = true) (x : Str) (hx : x ∈ l) : mg x = none :=
  PySem.W.mg_none_of X G (of_decide_eq_true (List.all_eq_true.mp b x hx))
def excCB (K : PySem.W.Frag) (D : Addr) : Bool := decide (PySem.W.findIn K (.ref D) "__getattribute__" = some (some (.builtin "BaseException.__getattribute__"))) && (decide (PySem.W.findIn K (.ref D) "__getattr__" = some none) && (decide (PySem.W.subIn K (.ref D) (.type "BaseException") = some true) &&
  (PySem.W.hasDictIn K D && (decide (PySem.W.findIn K (.ref D) "__class__" = some (some (.builtin "object.__class__"))) && (decide (PySem.W.specialIn K (.builtin "object.__class__") "__get__" = some (some (.builtin "getset_descriptor.__get__"))) &&
  (decide (PySem.W.takesIn K (.builtin "object.__class__") = some true) && decide (PySem.W.mroIn K D (.type "object") = some true)))))))
theorem excCB_ok {K : PySem.W.Frag} {D : Addr} (h : excCB K D = true) : ExcC K D := by
  unfold excCB at h
  simp only [Bool.and_eq_true, decide_eq_true_eq] at h
  obtain ⟨h1, h2, h3, h4, h5, h6, h7, h8⟩ := h
  exact ⟨h1, h2, h3, h4, h5, h6, h7, h8⟩
theorem lookup_mem {β : Type} {c : Str} {b : β} : ∀ {l : List (Str × β)}, l.lookup c = some b → (c, b) ∈ l
  | [], h => by cases h
  | (d, e) :: r, h => by
    rw [List.lookup_cons] at h
    cases q : c == d with
    | true => rw [q] at h; cases h; rw [eq_of_beq q]; exact List.mem_cons_self ..
    | false => rw [q] at h; exact List.mem_cons_of_mem _ (lookup_mem h)
/-- isinstance(e, T) for e of each class -/
def ieB (Γ : Gam) (tbl : List (Str × Bool)) (tv : Value) : Bool := tbl.all fun p => decide (PySem.W.kitOne Γ.K (.ref (Γ.cl p.1)) tv = some p.2) && excCB Γ.K (Γ.cl p.1)
theorem ieB_ok {Γ : Gam} {tbl : List (Str × Bool)} {tv : Value} (h : ieB Γ tbl tv = true) : IsEX Γ tbl tv := fun c b e => by
  obtain ⟨h1, h2⟩ := Bool.and_eq_true_iff.mp (List.all_eq_true.mp h _ (lookup_mem e))
  exact ⟨of_decide_eq_true h1, excCB_ok h2⟩
def emB (Γ : Gam) (tbl : List (Str × Bool)) (tv : Value) : Bool := tbl.all fun p => decide (PySem.W.exmOne Γ.K (.ref (Γ.cl p.1)) tv = some p.2)
theorem emB_ok {Γ : Gam} {tbl : List (Str × Bool)} {tv : Value} (h : emB Γ tbl tv = true) : ExmX Γ tbl tv := fun c b e => of_decide_eq_true (List.all_eq_true.mp h _ (lookup_mem e))
def xfBs (Γ : Gam) (cs : List Str) (f : Str) : Bool := cs.all fun c => xfB Γ.K (Γ.cl c) && decide (PySem.W.findIn Γ.K (.ref (Γ.cl c)) f = some none)
theorem xfBs_ok {Γ : Gam} {cs : List Str} {f : Str} (h : xfBs Γ cs f = true) : XfX Γ cs f := fun c e => by
  obtain ⟨h1, h2⟩ := Bool.and_eq_true_iff.mp (List.all_eq_true.mp h c (by simpa using e))
  exact ⟨xfB_ok h1, of_decide_eq_true h2⟩
def clsB (K : PySem.W.Frag) (C : Addr) : Bool := PySem.W.plainGet K C Str.empty && (PySem.W.hasDictIn K C && (PySem.W.plainOver K C && decide (PySem.W.findIn K (.ref C) "__setattr__" = some (some (.builtin "object.__setattr__")))))
theorem clsB_ok {K : PySem.W.Frag} {C : Addr} (h : clsB K C = true) : Cls K C := by
  unfold clsB at h
  simp only [Bool.and_eq_true, decide_eq_true_eq] at h
  obtain ⟨h1, h2, h3, h4⟩ := h
  exact ⟨h1, h2, h3, h4⟩
def fldB (Γ : Gam) (cs : List Str) (f : Str) : Bool := cs.all fun c => clsB Γ.K (Γ.cl c) && decide (PySem.W.findIn Γ.K (.ref (Γ.cl c)) f = some none)
theorem fldB_ok {Γ : Gam} {cs : List Str} {f : Str} (h : fldB Γ cs f = true) : FldOk Γ cs f := fun c e => by
  obtain ⟨h1, h2⟩ := Bool.and_eq_true_iff.mp (List.all_eq_true.mp h c (by simpa using e))
  exact ⟨clsB_ok h1, show PySem.W.findIn Γ.K (.ref (Γ.cl c)) f = some none from of_decide_eq_true h2⟩
def makeB (Γ : Gam) (c : Str) : Bool := PySem.W.makesIn Γ.K (Γ.cl c) && PySem.W.keepIn Γ.K (.ref (Γ.cl c))
theorem makeB_ok {Γ : Gam} {mg : Str → Option Value} {c : Str} (g : mg c = some (.ref (Γ.cl c))) (h : makeB Γ c = true) : MakeX Γ mg c := ⟨g, (Bool.and_eq_true_iff.mp h).1, (Bool.and_eq_true_iff.mp h).2⟩
def oeB (Γ : Gam) (c : Str) : Bool := decide (PySem.W.findIn Γ.K (.ref (Γ.cl c)) "__ne__" = some (some (.builtin "object.__ne__"))) && decide (PySem.W.subIn Γ.K (.ref (Γ.cl c)) (.type "object") = some true)
theorem oeB_ok {Γ : Gam} {c : Str} (h : oeB Γ c = true) : OwnEqX Γ c := ⟨of_decide_eq_true (Bool.and_eq_true_iff.mp h).1, of_decide_eq_true (Bool.and_eq_true_iff.mp h).2⟩
def iiB (Γ : Gam) (tbl : List (Str × Bool)) (T : Str) : Bool := (tbl.all fun p => clsB Γ.K (Γ.cl p.1) && (decide (PySem.W.findIn Γ.K (.ref (Γ.cl p.1)) "__class__" = some (some (.builtin "object.__class__"))) && (decide (PySem.W.mroIn Γ.K (Γ.cl p.1) (.type "object") = some true) &&
  decide (PySem.W.kitOne Γ.K (.ref (Γ.cl p.1)) (.ref (Γ.cl T)) = some p.2)))) && (decide (PySem.W.specialIn Γ.K (.builtin "object.__class__") "__get__" = some (some (.builtin "getset_descriptor.__get__"))) && decide (PySem.W.takesIn Γ.K (.builtin "object.__class__") = some true))
theorem iiB_ok {Γ : Gam} {tbl : List (Str × Bool)} {T : Str} (h : iiB Γ tbl T = true) : IsIX Γ tbl T := by
  unfold iiB at h
  obtain ⟨h1, h2⟩ := Bool.and_eq_true_iff.mp h
  obtain ⟨h2, h3⟩ := Bool.and_eq_true_iff.mp h2
  refine ⟨fun c b e => ?_, of_decide_eq_true h2, of_decide_eq_true h3⟩
  have z := List.all_eq_true.mp h1 _ (lookup_mem e)
  simp only [Bool.and_eq_true, decide_eq_true_eq] at z
  obtain ⟨z1, z2, z3, z4⟩ := z
  exact ⟨clsB_ok z1, z2, z3, z4⟩
def excFB (Γ : Gam) (c : Str) : Bool := PySem.W.excIn Γ.K (Γ.cl c) [.type "ValueError", .type "Exception", .type "BaseException", .type "object"] "ValueError.__new__" && (PySem.W.keepIn Γ.K (.ref (Γ.cl c)) && (decide (PySem.W.subIn Γ.K (.ref (Γ.cl c)) (.type "BaseException") = some true) && decide (PySem.W.typeIn Γ.K (.ref (Γ.cl c)) = some (.type "type"))))
theorem excFB_ok {Γ : Gam} {mg : Str → Option Value} {c : Str} (g : mg c = some (.ref (Γ.cl c))) (h : excFB Γ c = true) : ExcF Γ mg c := by
  unfold excFB at h
  simp only [Bool.and_eq_true, decide_eq_true_eq] at h
  obtain ⟨h1, h2, h3, h4⟩ := h
  exact ⟨g, ⟨_, _, _, PySem.F.excBase_ValueError, h1⟩, h2, h3, h4⟩
/-- an error with an own __init__, beside its class object and its __init__ -/
def excIB (K : PySem.W.Frag) (C : Addr) (f : Str) : Bool := decide (PySem.W.findIn K (.ref C) "__setattr__" = some (some (.builtin "object.__setattr__"))) && (decide (PySem.W.subIn K (.ref C) (.type "BaseException") = some true) && (decide (PySem.W.typeIn K (.ref C) = some (.type "type")) &&
  (PySem.W.keepIn K (.ref C) && decide (PySem.W.findIn K (.ref C) f = some none))))
theorem excIB_ok {Γ : Gam} {mg : Str → Option Value} {c f p qual : Str} {st : Stmt} {fI : Addr} {fd : FuncData} (g : mg c = some (.ref (Γ.cl c))) (h : excIB Γ.K (Γ.cl c) f = true)
    (hc : ∃ nm q N bs bm sn sub ab col dd k0 k1 k2 k3 k5, Γ.K.lookup (Γ.cl c) = some (excClassObj nm q (Γ.cl c) N bs bm true sn sub ab col dd k0 k1 k2 k3 k5 "ValueError.__new__") ∧ PySem.HandSPX.refsVE bm = true)
    (F : Fun Γ.K "__init__" qual st fI fd) (hi : PySem.W.findIn Γ.K (.ref (Γ.cl c)) "__init__" = some (some (.ref fI))) (ht : PySem.W.typeIn Γ.K (.ref fI) = some (.type "function")) (hb : Binds Γ.K fd ["self", p] []) : ExcI Γ mg c f p st := by
  unfold excIB at h
  simp only [Bool.and_eq_true, decide_eq_true_eq] at h
  obtain ⟨h1, h2, h3, h4, h5⟩ := h
  exact ⟨g, ⟨hc, h1, h2, h3, h4⟩, h5, qual, fI, fd, F, hi, ht, hb⟩
/-! ### the end of a law without a lambda, of a law with lambdas -/
/-- the law's plain statement: at every script, locked or not, it says True -/
def Says (g : List D → Sto → Rt) : Prop := ∀ (ro : Bool) (ns : List Int), ns.length ≤ 63 → ∃ st', 1 ≤ List.length st' ∧ g [.obj 0] [.lst ro (ns.map .int)] = some (.ok (.bl true), st')
theorem sq_cell {K : PySem.W.Frag} {H : Hp} {a : Addr} {xs : List V} (h : SqL K H a xs) : (H a = some (.lst xs)) ∨ RoL K H a xs := by
  rcases h with (h | h) | h
  · exact .inl h
  · exact .inr (.inl h)
  · exact .inr (.inr h)
theorem spD_start {Γ : Gam} {g : List D → Sto → Rt} (hg : Says g) {H : Hp} {a : Addr} {ns : List Int} (hn : ns.length ≤ 63) (hT : LamX.Tabs Γ.T H) (hs : SqL Γ.K H a (ns.map V.int)) : spD Γ 1 g [.ref a] H (fun v _ => v = .bl true) fun _ _ _ => False := by
  have key : ∀ ro : Bool, CellR Γ (fun _ => a) 1 H a (.lst ro (ns.map .int)) → spD Γ 1 g [.ref a] H (fun v _ => v = .bl true) fun _ _ _ => False := fun ro hc => by
    obtain ⟨st', hl, e⟩ := hg ro ns hn
    have s : StR Γ (fun _ => a) [.lst ro (ns.map .int)] H := by
      refine ⟨fun n c h => ?_, fun i j c d hi hj _ _ _ => ?_, hT⟩
      · have z := get_lt h
        have e0 : n = 0 := by simpa using z
        subst e0
        cases h
        exact hc
      · have z1 := get_lt hi
        have z2 := get_lt hj
        simp at z1 z2
        omega
    refine ⟨rfl, fun _ => a, [.obj 0], [.lst ro (ns.map .int)], s, .cons (.obj (m := fun _ => a) (n := 0) (Nat.zero_lt_succ 0)) .nil, ?_⟩
    rw [e]
    exact ⟨hl, fun m' H' v _ _ _ r => by cases r; rfl⟩
  rcases sq_cell hs with h | h
  · exact key false ⟨_, h, rvL_ints ns⟩
  · exact key true ⟨_, h, rvL_ints ns⟩
end MP
end
section
set_option maxRecDepth 100000
namespace MP
open PySem PySem.Spec PyProof.Rows L2 PySem.W
/-! ### gcd and lcm -/
def fGcd : List D → Sto → Rt
  | [.int a, .int b], st => okD (.int ((Nat.gcd a.natAbs b.natAbs : Nat) : Int)) st
  | _, _ => none
theorem mono_fGcd : MonoFA fGcd := by
  intro d st r st' h
  unfold fGcd at h
  repeat' (split at h)
  all_goals first | exact mono_ok h | cases h
theorem cs_gcd {Γ : Gam} : CallSim Γ rGcd fGcd := fun
  | m, st, H, _, [.int i, .int j], Q, E, s, .cons (.int _) (.cons (.int _) .nil), h => ⟨i, j, rfl, h.ok s (.int _)⟩
theorem args_lcm3 (a b c : Value) : argsOk "math.lcm" ⟨[a, b, c], []⟩ := by unfold argsOk; kernel_rfl
theorem run_lcm3 (a : Int) (t : Tok) (b : Int) (u : Tok) (c : Int) (v : Tok) (hc0 : ¬(max 1 a.natAbs).log2 / 30 + 1 > 450) (hc1 : ¬(max a.natAbs b.natAbs).log2 / 30 + 1 > 450) (hc2 : ¬(max ((Nat.lcm 1 a.natAbs).lcm b.natAbs) c.natAbs).log2 / 30 + 1 > 450)
    (hsz : (((((Nat.lcm 1 a.natAbs).lcm b.natAbs).lcm c.natAbs : Nat) : Int)).natAbs.log2 < bitsLine) :
    Gives (Builtin.«math.lcm» ⟨[.int a t, .int b u, .int c v], []⟩) (.int (((((Nat.lcm 1 a.natAbs).lcm b.natAbs).lcm c.natAbs : Nat) : Int))) :=
  .of_wp fun M A E s Q h => by
    obtain ⟨hp, g, d, tk, os⟩ := s
    wp_walk
    rw [if_neg hc2]
    wp_walk
    (try (refine wpAny_ite_false (decide_eq_false (Nat.not_le.mpr hsz)) ?_; wp_walk))
    exact ⟨_, rfl, h⟩
/-- so large may the numbers of lcm be -/
def lcmOk (a b c : Int) : Bool := decide (¬(max 1 a.natAbs).log2 / 30 + 1 > 450) && (decide (¬(max a.natAbs b.natAbs).log2 / 30 + 1 > 450) && (decide (¬(max ((Nat.lcm 1 a.natAbs).lcm b.natAbs) c.natAbs).log2 / 30 + 1 > 450) && decide (((Nat.lcm 1 a.natAbs).lcm b.natAbs).lcm c.natAbs < 2 ^ 13500)))
abbrev lcm3 (a b c : Int) : Int := ((((Nat.lcm 1 a.natAbs).lcm b.natAbs).lcm c.natAbs : Nat) : Int)
def rLcm3 : List V → Hp → VK → Prop := fun vs H Q => ∃ a b c : Int, vs = [.int a, .int b, .int c] ∧ lcmOk a b c = true ∧ Q (.int (lcm3 a b c)) H
theorem cr_lcm3 {X : Cx} : CallR X (.builtin "math.lcm") rLcm3 := by
  intro pins s σ H vs us Q I r h
  obtain ⟨a, b, c, rfl, hk, q⟩ := h
  obtain ⟨t, u, v, rfl⟩ : ∃ t u v, us = [.int a t, .int b u, .int c v] := by
    cases r with
    | cons p q =>
      cases q with
      | cons p' q' =>
        cases q' with
        | cons p'' q'' =>
          cases q''
          obtain ⟨t, rfl⟩ := p
          obtain ⟨u, rfl⟩ := p'
          obtain ⟨v, rfl⟩ := p''
          exact ⟨t, u, v, rfl⟩
  unfold lcmOk at hk
  simp only [Bool.and_eq_true, decide_eq_true_eq] at hk
  obtain ⟨h0, h1, h2, h3⟩ := hk
  have hsz : (((((Nat.lcm 1 a.natAbs).lcm b.natAbs).lcm c.natAbs : Nat) : Int)).natAbs.log2 < bitsLine := by
    rw [Int.natAbs_natCast]
    have := mg_log (k := 13499) h3
    have e : bitsLine = 134217728 := by decide +kernel
    omega
  exact call_function_meets MGF.kind_lcm MGF.plain_lcm MGF.entry_lcm (args_lcm3 _ _ _) (run_lcm3 a t b u c v h0 h1 h2 hsz).meets ⟨.int _, H, I.tok _, ⟨_, rfl⟩, q⟩
def fLcm3 : List D → Sto → Rt
  | [.int a, .int b, .int c], st => if lcmOk a b c then okD (.int (lcm3 a b c)) st else none
  | _, _ => none
theorem mono_fLcm3 : MonoFA fLcm3 := by
  intro d st r st' h
  unfold fLcm3 at h
  repeat' (split at h)
  all_goals first | exact mono_ok h | cases h
theorem cs_lcm3 {Γ : Gam} : CallSim Γ rLcm3 fLcm3 := fun
  | m, st, H, _, [.int i, .int j, .int k], Q, E, s, .cons (.int _) (.cons (.int _) (.cons (.int _) .nil)), h => by
    dsimp only [fLcm3] at h
    split at h
    · rename_i hk
      exact ⟨i, j, k, rfl, hk, h.ok s (.int _)⟩
    · exact h.elim
section
variable {X : Cx} {Γ : Gam} {W : WX} {e : Expr} {es : List Expr} {das : List De} {pos : Pos}
/-- f(..), f a module's name for a built-in function -/
theorem sim_callBM {f : List D → Sto → Rt} {r : List V → Hp → VK → Prop} {id : String} {x : Str} {p : Pos} (hr : CallR X (.builtin id) r) (hc : CallSim Γ r f) (hf : MonoFA f) (hg : Gl X x) (hm : X.mg x = some (.builtin id)) (h : SimA X Γ W (e :: es) das)
    (hdb : (x == ("__debug__" : Str)) = false) (he : starEach (e :: es) X.env = (false, eval e X.env) :: starEach es X.env) (hpl : (backTo pos (starEach es X.env)).any (·.1) = false) : Sim X Γ W (.Call (.Name x p) (e :: es) [] pos) (dApp f das) :=
  ⟨mono_app h.mono hf, (pe_callBfun hr hg hm h.pa hdb he hpl).imp fun σ H Q q => tD_app h.mono hf hc q⟩
theorem ss_par3 {a b c : Expr} {i j l : Nat} {x y z : Str} {px py pz pt : Pos} {kt k2 pt2} (hc : X.calm = true) (hN : X.N.Nodup) (hi : X.N[i]? = some x) (hj : X.N[j]? = some y) (hl : X.N[l]? = some z) (hij : i ≠ j) (hil : i ≠ l) (hjl : j ≠ l) (hx : X.env.scope.names.lookup x = some .local) (hy : X.env.scope.names.lookup y = some .local) (hz : X.env.scope.names.lookup z = some .local) (ha : SimA X Γ W [a, b, c] das) (hd : das.length = 3)
    (hw : swappedStores [.Tuple [.Name x px, .Name y py, .Name z pz] kt pt] (.Tuple [a, b, c] k2 pt2) X.env = pure (some [x, y, z])) (hs : swapsWithSole [.Tuple [.Name x px, .Name y py, .Name z pz] kt pt] (.Tuple [a, b, c] k2 pt2) pos.line X.env = pure false) :
    SimS X Γ W (.Assign [.Tuple [.Name x px, .Name y py, .Name z pz] kt pt] (.Tuple [a, b, c] k2 pt2) pos) (dAsg (dApp fTup das) (.tp [.nm i, .nm j, .nm l])) := by
  refine ⟨mono_asg (mono_app ha.mono mono_fTup), (ps_par3 hc hN hi hj hl hij hil hjl hx hy hz ha.pa hw hs).imp fun D σ H ⟨m, ls, st, s, l0, h⟩ => ?_⟩
  refine ⟨m, ls, st, s, l0, ?_⟩
  have ma := fun r st' q => ha.mono ls st r st' q
  have hlen := fun ds st' (q : evA das ls st = some (.ok ds, st')) => (evA_len q).trans hd
  unfold dAsg dApp at h
  match evA das ls st, h, ma, hlen with
  | some (.exc c fs, st1), h, ma, _ =>
    have hl := ma _ _ rfl
    exact ⟨hl, fun m1 H1 dd e1 k1 s1 x1 => h.2 m1 H1 σ dd e1 k1 s1 (l0.mono e1 hl k1) x1⟩
  | some (.ok ds, st1), h, ma, hlen =>
    have hl := ma _ _ rfl
    refine ⟨hl, fun m1 H1 vs e1 k1 s1 r1 => ?_⟩
    have hds := hlen _ _ rfl
    match ds, r1, hds, h with
    | [d, d', d''], .cons (v := v) ra (.cons (v := w) rb (.cons (v := w') rc .nil)), _, h =>
      have h : ResS Γ m st.length H (some (.next, ((ls.set i (some d)).set j (some d')).set l (some d''), st1)) D W := h
      exact ⟨v, w, w', rfl, h.2 m1 H1 _ e1 k1 s1 ((((l0.mono e1 hl k1).set i ra).set j rb).set l rc)⟩
end
end MP
end
section
set_option maxRecDepth 100000
set_option maxHeartbeats 1000000
namespace MP
open PySem PySem.Spec PyProof.Rows L2

/-! ### comprehensions of two clauses -/
def loopD (gd : Option (Nat × List D)) (t : Tg) (B : De) (lsw : Ls) : List D → Sto → Rt
  | [], st => if gdB gd st then okD .non st else none
  | d :: r, st => if gdB gd st then
      match asg t d lsw with
      | some ls1 => bindO (B ls1 st) fun _ st2 => loopD gd t B lsw r st2
      | none => none
    else none
theorem loopD_mono {gd : Option (Nat × List D)} {t : Tg} {B : De} {lsw : Ls} (mB : Mono B) : ∀ (items : List D) (st : Sto) (r : Rs) (st' : Sto), loopD gd t B lsw items st = some (r, st') → st.length ≤ st'.length
  | [], st, r, st', h => by
    unfold loopD at h
    split at h
    · exact mono_ok h
    · cases h
  | d :: items, st, r, st', h => by
    unfold loopD at h
    split at h
    · split at h
      · exact bindO_mono (fun a s z => mB _ st a s z) (fun b st2 r st' h => loopD_mono mB items _ _ _ h) r st' h
      · cases h
    · cases h
theorem loopD_cons {gd : Option (Nat × List D)} {t : Tg} {B : De} {lsw ls1 : Ls} {d : D} {r : List D} {st : Sto} (hg : gdB gd st = true) (ha : asg t d lsw = some ls1) : loopD gd t B lsw (d :: r) st = bindO (B ls1 st) fun _ st2 => loopD gd t B lsw r st2 := by
  rw [loopD, if_pos hg, ha]
def appD (k : Nat) : D → Sto → Rt := fun y st => match st[k]? with
  | some (.lst false acc) => if acc.length < LINE then some (.ok .non, st.set k (.lst false (acc ++ [y]))) else none
  | _ => none
theorem mono_appD {k : Nat} : MonoF (appD k) := fun y st r st' h => by
  unfold appD at h
  split at h
  · split at h
    · cases h
      rw [List.length_set]
      exact Nat.le_refl _
    · cases h
  · cases h
def ifJ (B : De) (ls : Ls) : D → Sto → Rt
  | .bl true, st2 => B ls st2
  | .bl false, st2 => okD .non st2
  | _, _ => none
def ifD (dt B : De) : De := fun ls st => bindO (dt ls st) (ifJ B ls)
theorem mono_ifJ {B : De} {ls : Ls} (mB : Mono B) : MonoF (ifJ B ls) := fun b st r st' h => by
  unfold ifJ at h
  split at h
  · exact mB _ _ _ _ h
  · exact mono_ok h
  · cases h
theorem mono_ifD {dt B : De} (mt : Mono dt) (mB : Mono B) : Mono (ifD dt B) := fun ls st r st' h => bindO_mono (fun a s z => mt ls st a s z) (mono_ifJ mB) r st' h
def inD (di1 : Di) (t1 : Tg) (vs1 : List Nat) (B1 : De) : De := fun ls st => match di1 ls st with
  | some (.it items gd, st1) => loopD gd t1 B1 (wipeL ls vs1) items st1
  | _ => none
theorem mono_inD {di1 : Di} {t1 : Tg} {vs1 : List Nat} {B1 : De} (mi : MonoI di1) (mB : Mono B1) : Mono (inD di1 t1 vs1 B1) := fun ls st r st' h => by
  unfold inD at h
  split at h
  · rename_i e
    exact Nat.le_trans (mi _ _ _ _ e) (loopD_mono mB _ _ _ _ h)
  · cases h
def endD (de : De) (k : Nat) : De := fun ls st => bindO (de ls st) (appD k)
theorem mono_endD {de : De} {k : Nat} (me : Mono de) : Mono (endD de k) := fun ls st r st' h => bindO_mono (fun a s z => me ls st a s z) mono_appD r st' h
abbrev bodyD (dt : De) (di1 : Di) (t1 : Tg) (dt1 de : De) (vs1 : List Nat) (k : Nat) : De := ifD dt (inD di1 t1 vs1 (ifD dt1 (endD de k)))
def giveD (k : Nat) : D → Sto → Rt := fun _ st => okD (.obj k) st
def dLc2 (di : Di) (t : Tg) (dt : De) (di1 : Di) (t1 : Tg) (dt1 de : De) (vs vs1 : List Nat) : De := fun ls st => match di ls st with
  | some (.it items gd, st1) => bindO (loopD gd t (bodyD dt di1 t1 dt1 de vs1 st1.length) (wipeL ls vs) items (st1 ++ [.lst false []])) (giveD st1.length)
  | some (.exc c fs, st1) => some (.exc c fs, st1)
  | none => none
theorem mono_give {k : Nat} : MonoF (giveD k) := fun _ _ _ _ h => mono_ok h
theorem mono_lc2 {di di1 : Di} {t t1 : Tg} {dt dt1 de : De} {vs vs1 : List Nat} (mi : MonoI di) (mt : Mono dt) (mi1 : MonoI di1) (mt1 : Mono dt1) (me : Mono de) : Mono (dLc2 di t dt di1 t1 dt1 de vs vs1) := fun ls st r st' h => by
  unfold dLc2 at h
  split at h
  · rename_i items gd st1 e
    have z := bindO_mono (fun a s z => loopD_mono (mono_ifD mt (mono_inD mi1 (mono_ifD mt1 (mono_endD me)))) _ _ a s z) mono_give r st' h
    rw [List.length_append] at z
    exact Nat.le_trans (mi _ _ _ _ e) (Nat.le_trans (Nat.le_add_right _ _) z)
  · rename_i c fs st1 e
    cases h
    exact mi _ _ _ _ e
  · cases h
section
variable {Γ : Gam}
theorem loop_turn {J : It} {items : List D} {gd : Option (Nat × List D)} {t : Tg} {B : De} {lsw : Ls} {σ : L2.St} {vs : List Nat} {mi mb m0 : Nat → Addr} {Li Lb : Nat} {Hi Hb H0 : Hp} {st0 : Sto} {F : Hp → Prop} {E : XK} (mB : Mono B) (hv : ∀ j ∈ tslots t, j ∈ vs)
    (hit : IterOk Γ J items gd mi Li Hi) (ei : Ext mi Li mb) (hi : Li ≤ Lb) (ki : Keep Hi Hb) (l : LsR Γ mb Lb Hb lsw (wipe σ vs))
    (e0 : Ext mb Lb m0) (hl0 : Lb ≤ st0.length) (k0 : Keep Hb H0) (s0 : StR Γ m0 st0 H0) (h : Res Γ m0 st0.length H0 (loopD gd t B lsw items st0) (fun _ H => F H) E) :
    ∃ W : Nat → Nat → Hp → Prop, (∃ n, W 0 n H0) ∧ ∀ i n H, W i n H → (J.stop i H ∧ F H) ∨ (J.go i H ∧ ∃ Nx : Hp → Prop, (∀ H', Nx H' → ∃ n', n' < n ∧ W (i + 1) n' H') ∧ ∀ x H', J.yld i H x H' → tG Γ t x (wipe σ vs) H' fun σ2 H2 => wipe σ2 vs = wipe σ vs ∧
      ∃ m ls1 st, Ext mb Lb m ∧ Lb ≤ st.length ∧ Keep Hb H2 ∧ StR Γ m st H2 ∧ LsR Γ m st.length H2 ls1 σ2 ∧ Res Γ m st.length H2 (B ls1 st) (fun _ H3 => Nx H3) EF) := by
  refine ⟨fun i n H => n = items.length - i ∧ i ≤ items.length ∧ ∃ m st, Ext mb Lb m ∧ Lb ≤ st.length ∧ Keep Hb H ∧ StR Γ m st H ∧ Res Γ m st.length H (loopD gd t B lsw (items.drop i) st) (fun _ H => F H) E,
    ⟨items.length, rfl, Nat.zero_le _, m0, st0, e0, hl0, k0, s0, h⟩, ?_⟩
  rintro i n H2 ⟨rfl, hil, m2, st2, e2, hl2, k2, s2, q2⟩
  have hguard : gdB gd st2 = true := by
    by_cases c : gdB gd st2 = true
    · exact c
    · cases e : items.drop i with
      | nil => rw [e, loopD, if_neg c] at q2; exact q2.elim
      | cons d r => rw [e, loopD, if_neg c] at q2; exact q2.elim
  obtain ⟨hstop, hgo⟩ := hit i m2 st2 H2 hil (ei.trans e2 hi) (Nat.le_trans hi hl2) (ki.trans k2) s2 hguard
  by_cases hlt : i < items.length
  · refine .inr ⟨(hgo hlt).1, fun H' => ∃ m st, Ext mb Lb m ∧ Lb ≤ st.length ∧ Keep Hb H' ∧ StR Γ m st H' ∧ Res Γ m st.length H' (loopD gd t B lsw (items.drop (i + 1)) st) (fun _ H => F H) E, fun H' n => ⟨_, by omega, rfl, hlt, n⟩, fun x H3 y => ?_⟩
    obtain ⟨d, hd, k3, s3, rd⟩ := (hgo hlt).2 x H3 y
    have hdrop : items.drop i = d :: items.drop (i + 1) := by
      rw [List.drop_eq_getElem_cons hlt]
      have : items[i] = d := by
        rw [List.getElem?_eq_getElem hlt] at hd
        exact Option.some.inj hd
      rw [this]
    rw [hdrop] at q2
    cases ea : asg t d lsw with
    | none =>
      rw [loopD, if_pos hguard, ea] at q2
      exact q2.elim
    | some ls1 =>
      rw [loopD_cons hguard ea] at q2
      have l3 := (l.mono e2 hl2 k2).mono (Ext.refl _ _) (Nat.le_refl _) k3
      refine ⟨m2, st2.length, lsw, d, ls1, l3, rd, ea, fun σ3 hl3 hk3 => ⟨wipe_same (by rw [← hl3.len, asg_len ea, l3.len]) fun j hj => hk3 j fun z => hj (hv j z), m2, ls1, st2, e2, hl2, k2.trans k3, s3, hl3, ?_⟩⟩
      have mL : MonoF fun (_ : D) st2 => loopD gd t B lsw (items.drop (i + 1)) st2 := fun _ st a st' q => loopD_mono mB _ st a st' q
      have q3 := q2.mono (Ext.refl _ _) k3 (Nat.le_refl _) fun a st' q => bindO_mono (fun a s z => mB ls1 st2 a s z) mL a st' q
      exact (Res.bindO q3 (fun a st' q => mB ls1 st2 a st' q) mL).imp fun v H4 ⟨m4, d4, st4, e4, k4, hl4, s4, r4, q4⟩ => ⟨m4, st4, e2.trans e4 hl2, Nat.le_trans hl2 hl4, (k2.trans k3).trans k4, s4, q4⟩
  · have e : i = items.length := by omega
    refine .inl ⟨hstop e, ?_⟩
    rw [e, List.drop_length, loopD, if_pos hguard] at q2
    exact q2.ok s2 .non
end
end MP
end
section
set_option maxRecDepth 100000
set_option maxHeartbeats 1000000
namespace MP
open PySem PySem.Spec PyProof.Rows L2
section
variable {X : Cx} {Γ : Gam} {W : WX} {e a b c o tg tg1 iter iter1 elt : Expr} {da db dc dt dt1 de : De} {pos p2 py spos : Pos} {t t1 : Tg} {di di1 : Di} {scope : Scope} {own : List (Str × Nat)}
theorem tLc2_of (mi : MonoI di) (mt : Mono dt) (mi1 : MonoI di1) (mt1 : Mono dt1) (me : Mono de) {vs vs1 : List Nat} (hv : ∀ j ∈ tslots t, j ∈ vs) (hv1 : ∀ j ∈ tslots t1, j ∈ vs1) {σ : L2.St} {H : Hp} {Q : VK} (h : tD Γ W (dLc2 di t dt di1 t1 dt1 de vs vs1) σ H Q) :
    tLc2 (tI Γ W di) (tG Γ t) (tT Γ WF dt) (tI Γ WF di1) (tG Γ t1) (tT Γ WF dt1) (tD Γ WF de) vs vs1 σ H Q := by
  obtain ⟨m, ls, st, s, l, h⟩ := h
  refine ⟨m, ls, st, s, l, ?_⟩
  unfold dLc2 at h
  have mi := fun r st' q => mi ls st r st' q
  match di ls st, h, mi with
  | some (.exc c fs, st1), h, _ => exact h
  | some (.it items gd, st1), h, mi =>
    have hl := mi _ _ rfl
    refine ⟨hl, fun m1 H1 J e1 k1 s1 hit D hD => ?_⟩
    have mE : Mono (ifD dt1 (endD de st1.length)) := mono_ifD mt1 (mono_endD me)
    have mB : Mono (bodyD dt di1 t1 dt1 de vs1 st1.length) := mono_ifD mt (mono_inD mi1 mE)
    have h : Res Γ m st.length H (bindO (loopD gd t (bodyD dt di1 t1 dt1 de vs1 st1.length) (wipeL ls vs) items (st1 ++ [.lst false []])) (giveD st1.length)) Q (fun c d H' => W c d σ H') := h
    have kD : Keep H1 (upd H1 D (.lst [])) := .new hD
    have eD : Ext m1 st1.length (extM m1 st1.length D) := extM_ext
    have sD := s1.push (p := D) (c := .lst false []) (o := .lst []) hD ⟨[], upd_same, .nil⟩
    have hlen : (st1 ++ [Cell.lst false []]).length = st1.length + 1 := by rw [List.length_append, List.length_singleton]
    have h' := h.mono (e1.trans eD hl) (k1.trans kD) (L' := (st1 ++ [Cell.lst false []]).length) (by rw [hlen]; exact Nat.le_trans hl (Nat.le_succ _)) fun a st' q => bindO_mono (fun a s z => loopD_mono mB _ _ a s z) mono_give a st' q
    have hL := (Res.bindO h' (fun a st' q => loopD_mono mB _ _ a st' q) mono_give).imp (Q' := fun _ H2 => Q (.ref D) H2) fun v H2 ⟨m2, d2, st2, e2, k2, hl2, s2, r2, q2⟩ => by
      have z : Rv Γ.K m2 st2.length H2 (.obj st1.length) (.ref D) := by
        have mD2 : m2 st1.length = D := by rw [e2 _ (by rw [hlen]; exact Nat.lt_succ_self _), extM_new]
        rw [← mD2]
        exact .obj (Nat.lt_of_lt_of_le (by rw [hlen]; exact Nat.lt_succ_self _) hl2)
      exact Res.ok q2 s2 z
    have l0 : LsR Γ (extM m1 st1.length D) (st1 ++ [Cell.lst false []]).length (upd H1 D (.lst [])) (wipeL ls vs) (wipe σ vs) := (((l.mono e1 hl k1).mono eD (by rw [hlen]; exact Nat.le_succ _) kD)).wipe vs
    obtain ⟨Wf, hW0, hW⟩ := loop_turn (Γ := Γ) mB hv hit eD (by rw [hlen]; exact Nat.le_succ _) kD l0 (Ext.refl _ _) (Nat.le_refl _) (Keep.refl _) sD hL
    refine ⟨Wf, hW0, fun i n H2 w => ?_⟩
    rcases hW i n H2 w with ⟨stop, fin⟩ | ⟨go, Nx, hNx, step⟩
    · exact .inl ⟨stop, fin⟩
    refine .inr ⟨go, Nx, hNx, fun x H3 y => ?_⟩
    obtain ⟨a1, a2, a3, a4, a5, l5, r5, as5, z⟩ := step x H3 y
    refine ⟨a1, a2, a3, a4, a5, l5, r5, as5, fun σ2 hl2 hk2 => ?_⟩
    obtain ⟨hw2, m2, ls2, st2, e2, hb2, k2, s2, ll2, q2⟩ := z σ2 hl2 hk2
    have mD2 : m2 st1.length = D := by rw [e2 _ (by rw [hlen]; exact Nat.lt_succ_self _), extM_new]
    have lt2 : st1.length < st2.length := Nat.lt_of_lt_of_le (by rw [hlen]; exact Nat.lt_succ_self _) hb2
    refine ⟨hw2, m2, ls2, st2, s2, ll2, (Res.bindO q2 (fun a st' q => mt ls2 st2 a st' q) (mono_ifJ (mono_inD mi1 mE))).imp fun v H4 ⟨m4, d4, st4, e4, k4, hl4, s4, r4, q4⟩ => ?_⟩
    unfold ifJ at q4
    split at q4
    · cases r4
      refine ⟨true, rfl, iteT ?_⟩
      have lt4 : st1.length < st4.length := Nat.lt_of_lt_of_le lt2 hl4
      have mD4 : m4 st1.length = D := by rw [e4 _ lt2, mD2]
      refine ⟨m4, ls2, st4, s4, ll2.mono e4 hl4 k4, ?_⟩
      unfold inD at q4
      have mi1' := fun r st' q => mi1 ls2 st4 r st' q
      match di1 ls2 st4, q4, mi1' with
      | some (.it items1 gd1, st5), q4, mi1' =>
        have hl5 := mi1' _ _ rfl
        refine ⟨hl5, fun m5 H5 J1 e5 k5 s5 hit1 => ?_⟩
        have q4 : Res Γ m4 st4.length H4 (loopD gd1 t1 (ifD dt1 (endD de st1.length)) (wipeL ls2 vs1) items1 st5) (fun _ H3 => Nx H3) EF := q4
        have q5 := q4.mono e5 k5 hl5 fun a st' q => loopD_mono mE _ _ a st' q
        have lt5 : st1.length < st5.length := Nat.lt_of_lt_of_le lt4 hl5
        have mD5 : m5 st1.length = D := by rw [e5 _ lt4, mD4]
        have l5' := (((ll2.mono e4 hl4 k4).mono e5 hl5 k5)).wipe vs1
        obtain ⟨W1, hW10, hW1⟩ := loop_turn (Γ := Γ) mE hv1 hit1 (Ext.refl _ _) (Nat.le_refl _) (Keep.refl _) l5' (Ext.refl _ _) (Nat.le_refl _) (Keep.refl _) s5 q5
        refine ⟨W1, hW10, fun j n1 H6 w1 => ?_⟩
        rcases hW1 j n1 H6 w1 with ⟨stop1, fin1⟩ | ⟨go1, Nx1, hNx1, step1⟩
        · exact .inl ⟨stop1, fin1⟩
        refine .inr ⟨go1, Nx1, hNx1, fun x1 H7 y1 => ?_⟩
        obtain ⟨b1, b2, b3, b4, b5, l7, r7, as7, z7⟩ := step1 x1 H7 y1
        refine ⟨b1, b2, b3, b4, b5, l7, r7, as7, fun σ3 hl3 hk3 => ?_⟩
        obtain ⟨hw3, m8, ls8, st8, e8, hb8, k8, s8, ll8, q8⟩ := z7 σ3 hl3 hk3
        have lt8 : st1.length < st8.length := Nat.lt_of_lt_of_le lt5 hb8
        have mD8 : m8 st1.length = D := by rw [e8 _ lt5, mD5]
        refine ⟨hw3, m8, ls8, st8, s8, ll8, (Res.bindO q8 (fun a st' q => mt1 ls8 st8 a st' q) (mono_ifJ (mono_endD me))).imp fun v H9 ⟨m9, d9, st9, e9, k9, hl9, s9, r9, q9⟩ => ?_⟩
        unfold ifJ at q9
        split at q9
        · cases r9
          refine ⟨true, rfl, iteT ?_⟩
          have lt9 : st1.length < st9.length := Nat.lt_of_lt_of_le lt8 hl9
          have mD9 : m9 st1.length = D := by rw [e9 _ lt8, mD8]
          refine ⟨m9, ls8, st9, s9, ll8.mono e9 hl9 k9, (Res.bindO q9 (fun a st' q => me ls8 st9 a st' q) mono_appD).imp fun v H10 ⟨m10, d10, st10, e10, k10, hl10, s10, r10, q10⟩ => ?_⟩
          unfold appD at q10
          split at q10
          · rename_i acc eacc
            split at q10
            · rename_i hacc
              obtain ⟨ws, hw, rw'⟩ := s10.lst eacc
              have mD10 : m10 st1.length = D := by rw [e10 _ lt9, mD9]
              have hwD := hw
              rw [mD10] at hwD
              refine ⟨ws, hwD, by rw [← rw'.length]; exact line_lt hacc, ?_⟩
              have := q10.putN (o := .lst (ws ++ [v])) s10 eacc rfl rfl (fun k => ⟨_, upd_same, (rw'.snoc r10).mono (Ext.refl _ _) (Nat.le_refl _) k⟩) .non
              rw [mD10] at this
              exact this
            · exact q10.elim
          · exact q10.elim
        · cases r9
          exact ⟨false, rfl, iteF (Res.ok q9 s9 .non)⟩
        · exact q9.elim
      | some (.exc c fs, st5), q4, _ => exact q4.elim
      | none, q4, _ => exact q4.elim
    · cases r4
      exact ⟨false, rfl, iteF (Res.ok q4 s4 .non)⟩
    · exact q4.elim
/-- [elt for tg in iter for tg1 in iter1] -/
theorem sim_lc2 {vs1 : List Nat} (hc : X.calm = true) (hN : X.N.Nodup) (hi : SimI X Γ W tg iter di) (ok : BlkOk X.N X.env.scope scope own) (hvs : ∀ i ∈ vs1, i ∈ own.map (·.2)) (hv : ∀ j ∈ tslots t, j ∈ own.map (·.2)) (hv1 : ∀ j ∈ tslots t1, j ∈ vs1)
    (hg : InB X scope fun Y => PG Y tg (tG Γ t)) (hi1 : InB X scope fun Y => SimI Y Γ WF tg1 iter1 di1) (hg1 : InB X scope fun Y => PG Y tg1 (tG Γ t1)) (he : InB X scope fun Y => Sim Y Γ WF elt de)
    (hs : ∀ x, foldedSetIterable iter X.env x = pure x) (hs1 : ∀ env x, foldedSetIterable iter1 env x = pure x) :
    Sim X Γ W (.ListComp elt [⟨tg, iter, [], 0⟩, ⟨tg1, iter1, [], 0⟩] scope pos) (dLc2 di t dYes di1 t1 dYes de (own.map (·.2)) vs1) :=
  ⟨mono_lc2 hi.mono mono_yes hi1.one.mono mono_yes he.one.mono, (pe_lc2 hc hN hi.pi ok hvs hg (fun _ _ _ _ _ => pts_yes) (fun s H C cl fp => (hi1 s H C cl fp).pi) hg1 (fun _ _ _ _ _ => pts_yes) (fun s H C cl fp => (he s H C cl fp).pe) hs hs1).imp fun σ H Q h => tLc2_of hi.mono mono_yes hi1.one.mono mono_yes he.one.mono hv hv1 h⟩
end
end MP
end
section
set_option maxRecDepth 100000
namespace MP
open PySem PySem.Spec PyProof.Rows L2
/-! ### in a list -/
theorem un65 {k : Nat} {A : Around} (r : Room k A) : A.units + 65 < cLine := by
  have := r.un
  omega
def inV (st : Sto) (d e : D) : Option Bool := match toP st DEEP d, toP st DEEP e with
  | some p, some (.list ds) => if SeqAt.shaped p && SeqAt.shaped (.list ds) then some (ds.any fun z => PyData.eqv z p) else none
  | _, _ => none
theorem inV_at {st : Sto} {d e : D} {b : Bool} (h : inV st d e = some b) : ∃ p ds, toP st DEEP d = some p ∧ toP st DEEP e = some (.list ds) ∧ SeqAt.shaped p = true ∧ SeqAt.shaped (.list ds) = true ∧ b = ds.any fun z => PyData.eqv z p := by
  unfold inV at h
  split at h
  · rename_i p ds e1 e2
    split at h
    · rename_i hs
      cases h
      obtain ⟨s1, s2⟩ := Bool.and_eq_true_iff.mp hs
      exact ⟨p, ds, e1, e2, s1, s2, rfl⟩
    · cases h
  · cases h
def fIn (d e : D) (st : Sto) : Rt := match inV st d e with | some b => okD (.bl b) st | none => none
def fNotIn (d e : D) (st : Sto) : Rt := match inV st d e with | some b => okD (.bl (!b)) st | none => none
theorem mono_fIn : MonoF2 fIn := by
  intro d e st r st' h
  unfold fIn at h
  split at h
  · exact mono_ok h
  · cases h
theorem mono_fNotIn : MonoF2 fNotIn := by
  intro d e st r st' h
  unfold fNotIn at h
  split at h
  · exact mono_ok h
  · cases h
variable {Γ : Gam}
theorem os_in : OpSim Γ (rInD Γ.K) fIn := fun m st H x y d e Q E s rx ry h => by
  unfold fIn at h
  split at h
  · rename_i b z
    obtain ⟨p, ds, e1, e2, s1, s2, rfl⟩ := inV_at z
    exact ⟨p, ds, rx.dp s DEEP e1, ry.dp s DEEP e2, s1, s2, h.ok s (.bl _)⟩
  · exact h.elim
theorem os_notIn : OpSim Γ (rNotInD Γ.K) fNotIn := fun m st H x y d e Q E s rx ry h => by
  unfold fNotIn at h
  split at h
  · rename_i b z
    obtain ⟨p, ds, e1, e2, s1, s2, rfl⟩ := inV_at z
    exact ⟨p, ds, rx.dp s DEEP e1, ry.dp s DEEP e2, s1, s2, h.ok s (.bl _)⟩
  · exact h.elim
end MP
end
section
set_option maxRecDepth 100000
set_option maxHeartbeats 1000000
namespace K01
open PySem PySem.Spec PyProof.Rows L2 MP LamX
def top (i : Nat) : Stmt := PySem.Challenge.pw_ledlines_k01_drawings_validated.main.body.getD i (.Pass ⟨0, 0, 0, 0⟩)
abbrev sInvalidDrawing___init__ : Stmt := inClass (top 2) 0
abbrev sDrawing___init__ : Stmt := inClass (top 13) 0
abbrev sDrawing___eq__ : Stmt := inClass (top 13) 1
abbrev sDrawing___len__ : Stmt := inClass (top 13) 2
abbrev sis_number : Stmt := top 14
abbrev sis_piece : Stmt := top 15
abbrev scross : Stmt := top 16
abbrev sway_of : Stmt := top 17
abbrev sway_between : Stmt := top 18
abbrev sshared_stretch : Stmt := top 19
abbrev slies_along : Stmt := top 20
abbrev slies_along_any : Stmt := top 21
abbrev s_law_taken : Stmt := top 23
abbrev s_law_pick : Stmt := top 24
abbrev s_law_number : Stmt := top 25
abbrev s_law_piece : Stmt := top 26
abbrev s_law_common : Stmt := top 27
abbrev s_law_is_on : Stmt := top 28
abbrev s_law_raised : Stmt := top 29
abbrev s_law_over : Stmt := top 30
abbrev slaw : Stmt := top 31
abbrev cs_pieces : List Str := ["Drawing"]
structure Txt (Γ : Gam) (mg : Str → Option Value) : Prop where
  F_way_of : FunX Γ.K mg "way_of" sway_of ["piece"]
  z_min : mg "min" = none
  z_max : mg "max" = none
  F_shared_stretch : FunX Γ.K mg "shared_stretch" sshared_stretch ["one", "other"]
  F_cross : FunX Γ.K mg "cross" scross ["one", "other"]
  F_way_between : FunX Γ.K mg "way_between" sway_between ["one", "other"]
  F_lies_along : FunX Γ.K mg "lies_along" slies_along ["one", "other"]
  z_any : mg "any" = none
  F_lies_along_any : FunX Γ.K mg "lies_along_any" slies_along_any ["piece", "others"]
  z_isinstance : mg "isinstance" = none
  z_int : mg "int" = none
  z_bool : mg "bool" = none
  F_is_number : FunX Γ.K mg "is_number" sis_number ["value", "low", "high"]
  z_len : mg "len" = none
  c_GREATEST_COORDINATE : ConstI mg "GREATEST_COORDINATE" 60
  z_all : mg "all" = none
  F_is_piece : FunX Γ.K mg "is_piece" sis_piece ["piece"]
  z_enumerate : mg "enumerate" = none
  c_MOST_PIECES : ConstI mg "MOST_PIECES" 6
  x_InvalidDrawing : ExcI Γ mg "InvalidDrawing" "index" "index" sInvalidDrawing___init__
  fld_pieces : FldOk Γ cs_pieces "pieces"
  M_Drawing___init__ : MethX Γ "Drawing" "__init__" sDrawing___init__ ["self", "pieces"] "Drawing.__init__"
  ii_Drawing : IsIX Γ [("Drawing", true)] "Drawing"
  g_Drawing : mg "Drawing" = some (.ref (Γ.cl "Drawing"))
  M_Drawing___eq__ : MethX Γ "Drawing" "__eq__" sDrawing___eq__ ["self", "other"] "Drawing.__eq__"
  M_Drawing___len__ : MethX Γ "Drawing" "__len__" sDrawing___len__ ["self"] "Drawing.__len__"
  F__law_taken : FunX Γ.K mg "_law_taken" s_law_taken ["_law_row", "_law_many"]
  F__law_pick : FunX Γ.K mg "_law_pick" s_law_pick ["_law_row", "_law_some"]
  F__law_number : FunX Γ.K mg "_law_number" s_law_number ["_law_row", "_law_far"]
  F__law_piece : FunX Γ.K mg "_law_piece" s_law_piece ["_law_row", "_law_far"]
  F__law_is_on : FunX Γ.K mg "_law_is_on" s_law_is_on ["_law_piece_here", "_law_point"]
  z_abs : mg "abs" = none
  z_sorted : mg "sorted" = none
  z_set : mg "set" = none
  F__law_common : FunX Γ.K mg "_law_common" s_law_common ["_law_one", "_law_other"]
  g_InvalidDrawing : mg "InvalidDrawing" = some (.ref (Γ.cl "InvalidDrawing"))
  ie_InvalidDrawing : IsEX Γ [("LineError", false), ("InvalidDrawing", true), ("UnknownPiece", false), ("SamePiece", false), ("InvalidHalf", false), ("InvalidNumber", false), ("InvalidPiece", false), ("UnlikeCounts", false), ("InvalidPoint", false)] (.ref (Γ.cl "InvalidDrawing"))
  g_UnknownPiece : mg "UnknownPiece" = some (.ref (Γ.cl "UnknownPiece"))
  ie_UnknownPiece : IsEX Γ [("LineError", false), ("InvalidDrawing", false), ("UnknownPiece", true), ("SamePiece", false), ("InvalidHalf", false), ("InvalidNumber", false), ("InvalidPiece", false), ("UnlikeCounts", false), ("InvalidPoint", false)] (.ref (Γ.cl "UnknownPiece"))
  g_SamePiece : mg "SamePiece" = some (.ref (Γ.cl "SamePiece"))
  ie_SamePiece : IsEX Γ [("LineError", false), ("InvalidDrawing", false), ("UnknownPiece", false), ("SamePiece", true), ("InvalidHalf", false), ("InvalidNumber", false), ("InvalidPiece", false), ("UnlikeCounts", false), ("InvalidPoint", false)] (.ref (Γ.cl "SamePiece"))
  g_InvalidHalf : mg "InvalidHalf" = some (.ref (Γ.cl "InvalidHalf"))
  ie_InvalidHalf : IsEX Γ [("LineError", false), ("InvalidDrawing", false), ("UnknownPiece", false), ("SamePiece", false), ("InvalidHalf", true), ("InvalidNumber", false), ("InvalidPiece", false), ("UnlikeCounts", false), ("InvalidPoint", false)] (.ref (Γ.cl "InvalidHalf"))
  g_InvalidNumber : mg "InvalidNumber" = some (.ref (Γ.cl "InvalidNumber"))
  ie_InvalidNumber : IsEX Γ [("LineError", false), ("InvalidDrawing", false), ("UnknownPiece", false), ("SamePiece", false), ("InvalidHalf", false), ("InvalidNumber", true), ("InvalidPiece", false), ("UnlikeCounts", false), ("InvalidPoint", false)] (.ref (Γ.cl "InvalidNumber"))
  g_InvalidPiece : mg "InvalidPiece" = some (.ref (Γ.cl "InvalidPiece"))
  ie_InvalidPiece : IsEX Γ [("LineError", false), ("InvalidDrawing", false), ("UnknownPiece", false), ("SamePiece", false), ("InvalidHalf", false), ("InvalidNumber", false), ("InvalidPiece", true), ("UnlikeCounts", false), ("InvalidPoint", false)] (.ref (Γ.cl "InvalidPiece"))
  g_UnlikeCounts : mg "UnlikeCounts" = some (.ref (Γ.cl "UnlikeCounts"))
  ie_UnlikeCounts : IsEX Γ [("LineError", false), ("InvalidDrawing", false), ("UnknownPiece", false), ("SamePiece", false), ("InvalidHalf", false), ("InvalidNumber", false), ("InvalidPiece", false), ("UnlikeCounts", true), ("InvalidPoint", false)] (.ref (Γ.cl "UnlikeCounts"))
  g_InvalidPoint : mg "InvalidPoint" = some (.ref (Γ.cl "InvalidPoint"))
  ie_InvalidPoint : IsEX Γ [("LineError", false), ("InvalidDrawing", false), ("UnknownPiece", false), ("SamePiece", false), ("InvalidHalf", false), ("InvalidNumber", false), ("InvalidPiece", false), ("UnlikeCounts", false), ("InvalidPoint", true)] (.ref (Γ.cl "InvalidPoint"))
  z_ValueError : mg "ValueError" = none
  ie_ValueError : IsEX Γ [("LineError", true), ("InvalidDrawing", true), ("UnknownPiece", true), ("SamePiece", true), ("InvalidHalf", true), ("InvalidNumber", true), ("InvalidPiece", true), ("UnlikeCounts", true), ("InvalidPoint", true)] (.type "ValueError")
  xf_index : XfX Γ ["InvalidDrawing"] "index"
  F__law_raised : FunX Γ.K mg "_law_raised" s_law_raised ["_law_work"]
  F__law_over : FunX Γ.K mg "_law_over" s_law_over ["_law_row", "_law_pieces"]
  z_range : mg "range" = none
  ex0 : Γ.ex = []
  z_tuple : mg "tuple" = none
  k_Drawing : MakeX Γ mg "Drawing"
  em_LineError : ExmX Γ [("LineError", true), ("InvalidDrawing", true), ("UnknownPiece", true), ("SamePiece", true), ("InvalidHalf", true), ("InvalidNumber", true), ("InvalidPiece", true), ("UnlikeCounts", true), ("InvalidPoint", true)] (.ref (Γ.cl "LineError"))
  g_LineError : mg "LineError" = some (.ref (Γ.cl "LineError"))
  oe_Drawing : OwnEqX Γ "Drawing"
theorem scInvalidDrawing___init__ : FnScope ["self", "index"] ["self", "index"] (defScope sInvalidDrawing___init__) := ⟨rfl, rfl, rfl, by decide +kernel, rfl, by decide +kernel, by decide +kernel⟩
abbrev Nway_of : List Str := ["piece"]
theorem scway_of : FnScope Nway_of ["piece"] (defScope sway_of) := ⟨rfl, rfl, rfl, by decide +kernel, rfl, by decide +kernel, by decide +kernel⟩
def bway_of : Ds := (dRet (dApp fTup [(dBin fSub (dBin fIx (dVar 0) (dC (.int 2))) (dBin fIx (dVar 0) (dC (.int 0)))), (dBin fSub (dBin fIx (dVar 0) (dC (.int 3))) (dBin fIx (dVar 0) (dC (.int 1))))]))
def gway_of : List D → Sto → Rt := runD 1 bway_of
theorem denway_of {P : Program} {w : World} {Γ : Gam} {mg : Str → Option Value} {base : Heap} (T : Txt Γ mg) : Den P w Γ mg base 1 "way_of" 1 gway_of :=
  den_of (k := 0) T.F_way_of scway_of (db := bway_of) (fun f cdv A outer s H E hr =>
    (sb_one (ss_ret (sim_tup (simA_cons (sim_op op_sub os_sub mono_fSub (sim_ix ix_seq os_ix mono_fIx (sim_var (i := 0) rfl (.inl rfl) (by decide) (by decide)) sim_int (fun _ _ => rfl)) (sim_ix ix_seq os_ix mono_fIx (sim_var (i := 0) rfl (.inl rfl) (by decide) (by decide)) sim_int (fun _ _ => rfl))) (simA_cons (sim_op op_sub os_sub mono_fSub (sim_ix ix_seq os_ix mono_fIx (sim_var (i := 0) rfl (.inl rfl) (by decide) (by decide)) sim_int (fun _ _ => rfl)) (sim_ix ix_seq os_ix mono_fIx (sim_var (i := 0) rfl (.inl rfl) (by decide) (by decide)) sim_int (fun _ _ => rfl))) simA_nil rfl) rfl)))))
abbrev Nshared_stretch : List Str := ["one", "other", "start", "stop"]
theorem scshared_stretch : FnScope Nshared_stretch ["one", "other"] (defScope sshared_stretch) := ⟨rfl, rfl, rfl, by decide +kernel, rfl, by decide +kernel, by decide +kernel⟩
def bshared_stretch : Ds := (dThen (dAsg (dApp fMax2D [(dApp fMin2D [(dSl (dVar 0) none (some (dC (.int 2)))), (dSl (dVar 0) (some (dC (.int 2))) none)]), (dApp fMin2D [(dSl (dVar 1) none (some (dC (.int 2)))), (dSl (dVar 1) (some (dC (.int 2))) none)])]) (.nm 2)) (dThen (dAsg (dApp fMin2D [(dApp fMax2D [(dSl (dVar 0) none (some (dC (.int 2)))), (dSl (dVar 0) (some (dC (.int 2))) none)]), (dApp fMax2D [(dSl (dVar 1) none (some (dC (.int 2)))), (dSl (dVar 1) (some (dC (.int 2))) none)])]) (.nm 3)) (dRet (dApp fTup [(dVar 2), (dVar 3)]))))
def gshared_stretch : List D → Sto → Rt := runD 4 bshared_stretch
theorem denshared_stretch {P : Program} {w : World} {Γ : Gam} {mg : Str → Option Value} {base : Heap} (T : Txt Γ mg) : Den P w Γ mg base 1 "shared_stretch" 2 gshared_stretch :=
  den_of (k := 0) T.F_shared_stretch scshared_stretch (db := bshared_stretch) (fun f cdv A outer s H E hr =>
    (sb_cons (ss_set (i := 2) scshared_stretch.nd rfl (.inl rfl) (sim_callB (cr_max2D rfl (hr.mono (by decide) : Room 0 _).units) cs_max2D mono_fMax2D rfl T.z_max (by decide +kernel) (simA_cons (sim_callB (cr_min2D rfl (hr.mono (by decide) : Room 0 _).units) cs_min2D mono_fMin2D rfl T.z_min (by decide +kernel) (simA_cons (sim_slice rfl (sim_var (i := 0) rfl (.inl rfl) (by decide) (by decide)) SimO.none (SimO.some sim_int)) (simA_cons (sim_slice rfl (sim_var (i := 0) rfl (.inl rfl) (by decide) (by decide)) (SimO.some sim_int) SimO.none) simA_nil rfl) rfl) (by decide) (by decide) rfl rfl) (simA_cons (sim_callB (cr_min2D rfl (hr.mono (by decide) : Room 0 _).units) cs_min2D mono_fMin2D rfl T.z_min (by decide +kernel) (simA_cons (sim_slice rfl (sim_var (i := 1) rfl (.inl rfl) (by decide) (by decide)) SimO.none (SimO.some sim_int)) (simA_cons (sim_slice rfl (sim_var (i := 1) rfl (.inl rfl) (by decide) (by decide)) (SimO.some sim_int) SimO.none) simA_nil rfl) rfl) (by decide) (by decide) rfl rfl) simA_nil rfl) rfl) (by decide) (by decide) rfl rfl) rfl (.inl rfl))
      (sb_cons (ss_set (i := 3) scshared_stretch.nd rfl (.inl rfl) (sim_callB (cr_min2D rfl (hr.mono (by decide) : Room 0 _).units) cs_min2D mono_fMin2D rfl T.z_min (by decide +kernel) (simA_cons (sim_callB (cr_max2D rfl (hr.mono (by decide) : Room 0 _).units) cs_max2D mono_fMax2D rfl T.z_max (by decide +kernel) (simA_cons (sim_slice rfl (sim_var (i := 0) rfl (.inl rfl) (by decide) (by decide)) SimO.none (SimO.some sim_int)) (simA_cons (sim_slice rfl (sim_var (i := 0) rfl (.inl rfl) (by decide) (by decide)) (SimO.some sim_int) SimO.none) simA_nil rfl) rfl) (by decide) (by decide) rfl rfl) (simA_cons (sim_callB (cr_max2D rfl (hr.mono (by decide) : Room 0 _).units) cs_max2D mono_fMax2D rfl T.z_max (by decide +kernel) (simA_cons (sim_slice rfl (sim_var (i := 1) rfl (.inl rfl) (by decide) (by decide)) SimO.none (SimO.some sim_int)) (simA_cons (sim_slice rfl (sim_var (i := 1) rfl (.inl rfl) (by decide) (by decide)) (SimO.some sim_int) SimO.none) simA_nil rfl) rfl) (by decide) (by decide) rfl rfl) simA_nil rfl) rfl) (by decide) (by decide) rfl rfl) rfl (.inl rfl))
      (sb_one (ss_ret (sim_tup (simA_cons (sim_var (i := 2) rfl (.inl rfl) (by decide) (by decide)) (simA_cons (sim_var (i := 3) rfl (.inl rfl) (by decide) (by decide)) simA_nil rfl) rfl)))))))
abbrev Ncross : List Str := ["one", "other"]
theorem sccross : FnScope Ncross ["one", "other"] (defScope scross) := ⟨rfl, rfl, rfl, by decide +kernel, rfl, by decide +kernel, by decide +kernel⟩
def bcross : Ds := (dRet (dBin fSub (dBin fMul (dBin fIx (dVar 0) (dC (.int 0))) (dBin fIx (dVar 1) (dC (.int 1)))) (dBin fMul (dBin fIx (dVar 0) (dC (.int 1))) (dBin fIx (dVar 1) (dC (.int 0))))))
def gcross : List D → Sto → Rt := runD 2 bcross
theorem dencross {P : Program} {w : World} {Γ : Gam} {mg : Str → Option Value} {base : Heap} (T : Txt Γ mg) : Den P w Γ mg base 1 "cross" 2 gcross :=
  den_of (k := 0) T.F_cross sccross (db := bcross) (fun f cdv A outer s H E hr =>
    (sb_one (ss_ret (sim_op op_sub os_sub mono_fSub (sim_op op_mul os_mul mono_fMul (sim_ix ix_seq os_ix mono_fIx (sim_var (i := 0) rfl (.inl rfl) (by decide) (by decide)) sim_int (fun _ _ => rfl)) (sim_ix ix_seq os_ix mono_fIx (sim_var (i := 1) rfl (.inl rfl) (by decide) (by decide)) sim_int (fun _ _ => rfl))) (sim_op op_mul os_mul mono_fMul (sim_ix ix_seq os_ix mono_fIx (sim_var (i := 0) rfl (.inl rfl) (by decide) (by decide)) sim_int (fun _ _ => rfl)) (sim_ix ix_seq os_ix mono_fIx (sim_var (i := 1) rfl (.inl rfl) (by decide) (by decide)) sim_int (fun _ _ => rfl)))))))
abbrev Nway_between : List Str := ["one", "other"]
theorem scway_between : FnScope Nway_between ["one", "other"] (defScope sway_between) := ⟨rfl, rfl, rfl, by decide +kernel, rfl, by decide +kernel, by decide +kernel⟩
def bway_between : Ds := (dRet (dApp fTup [(dBin fSub (dBin fIx (dVar 1) (dC (.int 0))) (dBin fIx (dVar 0) (dC (.int 0)))), (dBin fSub (dBin fIx (dVar 1) (dC (.int 1))) (dBin fIx (dVar 0) (dC (.int 1))))]))
def gway_between : List D → Sto → Rt := runD 2 bway_between
theorem denway_between {P : Program} {w : World} {Γ : Gam} {mg : Str → Option Value} {base : Heap} (T : Txt Γ mg) : Den P w Γ mg base 1 "way_between" 2 gway_between :=
  den_of (k := 0) T.F_way_between scway_between (db := bway_between) (fun f cdv A outer s H E hr =>
    (sb_one (ss_ret (sim_tup (simA_cons (sim_op op_sub os_sub mono_fSub (sim_ix ix_seq os_ix mono_fIx (sim_var (i := 1) rfl (.inl rfl) (by decide) (by decide)) sim_int (fun _ _ => rfl)) (sim_ix ix_seq os_ix mono_fIx (sim_var (i := 0) rfl (.inl rfl) (by decide) (by decide)) sim_int (fun _ _ => rfl))) (simA_cons (sim_op op_sub os_sub mono_fSub (sim_ix ix_seq os_ix mono_fIx (sim_var (i := 1) rfl (.inl rfl) (by decide) (by decide)) sim_int (fun _ _ => rfl)) (sim_ix ix_seq os_ix mono_fIx (sim_var (i := 0) rfl (.inl rfl) (by decide) (by decide)) sim_int (fun _ _ => rfl))) simA_nil rfl) rfl)))))
abbrev Nlies_along : List Str := ["one", "other", "way", "start", "stop"]
theorem sclies_along : FnScope Nlies_along ["one", "other"] (defScope slies_along) := ⟨rfl, rfl, rfl, by decide +kernel, rfl, by decide +kernel, by decide +kernel⟩
def blies_along : Ds := (dThen (dAsg (dApp gway_of [(dVar 0)]) (.nm 2)) (dThen (dIfS (dOr (dBin fNe (dApp gcross [(dVar 2), (dApp gway_of [(dVar 1)])]) (dC (.int 0))) (dBin fNe (dApp gcross [(dVar 2), (dApp gway_between [(dVar 0), (dVar 1)])]) (dC (.int 0)))) (dRet (dC (.bl false))) dNext) (dThen (dAsg (dApp gshared_stretch [(dVar 0), (dVar 1)]) (.tp [(.nm 3), (.nm 4)])) (dRet (dBin fLt (dVar 3) (dVar 4))))))
def glies_along : List D → Sto → Rt := runD 5 blies_along
theorem denlies_along {P : Program} {w : World} {Γ : Gam} {mg : Str → Option Value} {base : Heap} (T : Txt Γ mg) : Den P w Γ mg base 2 "lies_along" 2 glies_along :=
  den_of (k := 1) T.F_lies_along sclies_along (db := blies_along) (fun f cdv A outer s H E hr =>
    (sb_cons (ss_set (i := 2) sclies_along.nd rfl (.inl rfl) (sim_callD (denway_of T) rfl (hr.mono (by decide)) rfl hx_def (simA_cons (sim_var (i := 0) rfl (.inl rfl) (by decide) (by decide)) simA_nil rfl) rfl rfl (by decide) rfl rfl) rfl (.inl rfl))
      (sb_cons (ss_if (SimW.t (simW_or (simT_cmp (op_neD (hr.mono (by decide) : Room 0 _).units) os_ne mono_fNe (sim_callD (dencross T) rfl (hr.mono (by decide)) rfl hx_def (simA_cons (sim_var (i := 2) rfl (.inl rfl) (by decide) (by decide)) (simA_cons (sim_callD (denway_of T) rfl (hr.mono (by decide)) rfl hx_def (simA_cons (sim_var (i := 1) rfl (.inl rfl) (by decide) (by decide)) simA_nil rfl) rfl rfl (by decide) rfl rfl) simA_nil rfl) rfl) rfl rfl (by decide) rfl rfl) sim_int (nomark _)) (simW_or1 (simT_cmp (op_neD (hr.mono (by decide) : Room 0 _).units) os_ne mono_fNe (sim_callD (dencross T) rfl (hr.mono (by decide)) rfl hx_def (simA_cons (sim_var (i := 2) rfl (.inl rfl) (by decide) (by decide)) (simA_cons (sim_callD (denway_between T) rfl (hr.mono (by decide)) rfl hx_def (simA_cons (sim_var (i := 0) rfl (.inl rfl) (by decide) (by decide)) (simA_cons (sim_var (i := 1) rfl (.inl rfl) (by decide) (by decide)) simA_nil rfl) rfl) rfl rfl (by decide) rfl rfl) simA_nil rfl) rfl) rfl rfl (by decide) rfl rfl) sim_int (nomark _))))) (sb_one (ss_ret sim_bl)) sb_nil)
      (sb_cons (ss_asg (sim_callD (denshared_stretch T) rfl (hr.mono (by decide)) rfl hx_def (simA_cons (sim_var (i := 0) rfl (.inl rfl) (by decide) (by decide)) (simA_cons (sim_var (i := 1) rfl (.inl rfl) (by decide) (by decide)) simA_nil rfl) rfl) rfl rfl (by decide) rfl rfl) (sg_tup rfl rfl (sgs_cons (sg_name (i := 3) sclies_along.nd rfl (.inl rfl) (.inr rfl)) (sgs_cons (sg_name (i := 4) sclies_along.nd rfl (.inl rfl) (.inr rfl)) sgs_nil rfl) rfl) rfl rfl rfl) rfl rfl rfl)
      (sb_one (ss_ret (sim_cmp (op_ltD (hr.mono (by decide) : Room 0 _).units0) os_lt mono_fLt (sim_var (i := 3) rfl (.inl rfl) (by decide) (by decide)) (sim_var (i := 4) rfl (.inl rfl) (by decide) (by decide)) (nomark _))))))))
abbrev Nlies_along_any : List Str := ["piece", "others", "other"]
theorem sclies_along_any : FnScope Nlies_along_any ["piece", "others"] (defScope slies_along_any) := ⟨rfl, rfl, rfl, by decide +kernel, rfl, by decide +kernel, by decide +kernel⟩
def blies_along_any : Ds := (dRet (dApp fAny [(dLc (dSeq (dVar 1)) (.nm 2) dYes (dApp glies_along [(dVar 0), (dVar 2)]) [2])]))
def glies_along_any : List D → Sto → Rt := runD 3 blies_along_any
theorem denlies_along_any {P : Program} {w : World} {Γ : Gam} {mg : Str → Option Value} {base : Heap} (T : Txt Γ mg) : Den P w Γ mg base 3 "lies_along_any" 2 glies_along_any :=
  den_of (k := 2) T.F_lies_along_any sclies_along_any (db := blies_along_any) (fun f cdv A outer s H E hr =>
    (sb_one (ss_ret (sim_callB (cr_any rfl) cs_any mono_fAny rfl T.z_any (by decide +kernel) (simA_cons (sim_lc0 (own := [("other", 2)]) rfl sclies_along_any.nd (si_seq rfl (sim_var (i := 1) rfl (.inl rfl) (by decide) (by decide))) (blkOk_by (own := [("other", 2)]) (N := Nlies_along_any) (sc := defScope slies_along_any) (by decide +kernel)) (by decide) (fun _ _ _ _ _ => (sg_name (i := 2) sclies_along_any.nd rfl (.inl rfl) (.inr rfl))) (fun _ _ _ _ _ => (sim_callD (denlies_along T) rfl (hr.mono (by decide)) rfl hx_no (simA_cons (sim_var (i := 0) rfl (by first | exact .inr (.inl rfl) | exact .inr (.inr rfl) | exact .inl rfl) (by decide) (by decide)) (simA_cons (sim_var (i := 2) rfl (.inl rfl) (by decide) (by decide)) simA_nil rfl) rfl) rfl rfl (by decide) rfl rfl)) (fun _ => rfl)) simA_nil rfl) (by decide) (by decide) rfl rfl))))
abbrev Nis_number : List Str := ["value", "low", "high"]
theorem scis_number : FnScope Nis_number ["value", "low", "high"] (defScope sis_number) := ⟨rfl, rfl, rfl, by decide +kernel, rfl, by decide +kernel, by decide +kernel⟩
def bis_number : Ds := (dRet (dAnd (dUn (fIsi "int") (dVar 0)) (dAnd (dUn fNot (dUn (fIsi "bool") (dVar 0))) (dChain fLe fLe (dVar 1) (dVar 0) (dVar 2)))))
def gis_number : List D → Sto → Rt := runD 3 bis_number
theorem denis_number {P : Program} {w : World} {Γ : Gam} {mg : Str → Option Value} {base : Heap} (T : Txt Γ mg) : Den P w Γ mg base 1 "is_number" 3 gis_number :=
  den_of (k := 0) T.F_is_number scis_number (db := bis_number) (fun f cdv A outer s H E hr =>
    (sb_one (ss_ret (sim_and (sim_isi rfl rfl T.z_isinstance rfl T.z_int PyProof.Rows.boot_int (by decide) (by decide) (sim_var (i := 0) rfl (.inl rfl) (by decide) (by decide)) rfl rfl rfl) (sim_and (sim_not (sim_isi rfl rfl T.z_isinstance rfl T.z_bool PyProof.Rows.boot_bool (by decide) (by decide) (sim_var (i := 0) rfl (.inl rfl) (by decide) (by decide)) rfl rfl rfl)) (sim_one (sim_chain op_le op_le os_le os_le mono_fLe mono_fLe (sim_var (i := 1) rfl (.inl rfl) (by decide) (by decide)) (sim_var (i := 0) rfl (.inl rfl) (by decide) (by decide)) (sim_var (i := 2) rfl (.inl rfl) (by decide) (by decide)) (by with_unfolding_all rfl))))))))
abbrev Nis_piece : List Str := ["piece", "value"]
theorem scis_piece : FnScope Nis_piece ["piece"] (defScope sis_piece) := ⟨rfl, rfl, rfl, by decide +kernel, rfl, by decide +kernel, by decide +kernel⟩
def bis_piece : Ds := (dThen (dIfS (dOr (dBin fNe (dApp fLen [(dVar 0)]) (dC (.int 4))) (dUn fNot (dUn fTru (dApp fAll [(dLc (dSeq (dVar 0)) (.nm 1) dYes (dApp gis_number [(dVar 1), (dC (.int 0)), (dC (.int 60))]) [1])])))) (dRet (dC (.bl false))) dNext) (dRet (dBin fNe (dSl (dVar 0) none (some (dC (.int 2)))) (dSl (dVar 0) (some (dC (.int 2))) none))))
def gis_piece : List D → Sto → Rt := runD 2 bis_piece
theorem denis_piece {P : Program} {w : World} {Γ : Gam} {mg : Str → Option Value} {base : Heap} (T : Txt Γ mg) : Den P w Γ mg base 2 "is_piece" 1 gis_piece :=
  den_of (k := 1) T.F_is_piece scis_piece (db := bis_piece) (fun f cdv A outer s H E hr =>
    (sb_cons (ss_if (SimW.t (simW_or (simT_cmp (op_neD (hr.mono (by decide) : Room 0 _).units) os_ne mono_fNe (sim_callB cr_len cs_len mono_fLen rfl T.z_len (by decide +kernel) (simA_cons (sim_var (i := 0) rfl (.inl rfl) (by decide) (by decide)) simA_nil rfl) (by decide) (by decide) rfl rfl) sim_int (nomark _)) (simW_or1 (simT_not (sim_tru rfl (sim_callB (cr_all rfl) cs_all mono_fAll rfl T.z_all (by decide +kernel) (simA_cons (sim_lc0 (own := [("value", 1)]) rfl scis_piece.nd (si_seq rfl (sim_var (i := 0) rfl (.inl rfl) (by decide) (by decide))) (blkOk_by (own := [("value", 1)]) (N := Nis_piece) (sc := defScope sis_piece) (by decide +kernel)) (by decide) (fun _ _ _ _ _ => (sg_name (i := 1) scis_piece.nd rfl (.inl rfl) (.inr rfl))) (fun _ _ _ _ _ => (sim_callD (denis_number T) rfl (hr.mono (by decide)) rfl hx_no (simA_cons (sim_var (i := 1) rfl (.inl rfl) (by decide) (by decide)) (simA_cons sim_int (simA_cons (sim_constI T.c_GREATEST_COORDINATE rfl (by decide)) simA_nil rfl) rfl) rfl) rfl rfl (by decide) rfl rfl)) (fun _ => rfl)) simA_nil rfl) (by decide) (by decide) rfl rfl) (fun _ => rfl)))))) (sb_one (ss_ret sim_bl)) sb_nil)
      (sb_one (ss_ret (sim_cmp (op_neD (hr.mono (by decide) : Room 0 _).units) os_ne mono_fNe (sim_slice rfl (sim_var (i := 0) rfl (.inl rfl) (by decide) (by decide)) SimO.none (SimO.some sim_int)) (sim_slice rfl (sim_var (i := 0) rfl (.inl rfl) (by decide) (by decide)) (SimO.some sim_int) SimO.none) (nomark _))))))
abbrev NDrawing___init__ : List Str := ["self", "pieces", "index", "piece"]
theorem scDrawing___init__ : FnScope NDrawing___init__ ["self", "pieces"] (defScope sDrawing___init__) := ⟨rfl, rfl, rfl, by decide +kernel, rfl, by decide +kernel, by decide +kernel⟩
def bDrawing___init__ : Ds := (dThen (dFor (dAppI fEnum [(dVar 1)]) (.tp [(.nm 2), (.nm 3)]) (dIfS (dOr (dBin fEq (dVar 2) (dC (.int 6))) (dOr (dUn fNot (dUn fTru (dApp gis_piece [(dVar 3)]))) (dUn fTru (dApp glies_along_any [(dVar 3), (dSl (dVar 1) none (some (dVar 2)))])))) (dRaise1 "InvalidDrawing" "index" (dVar 2)) dNext)) (dSetF cs_pieces "pieces" (dVar 0) (dVar 1)))
def gDrawing___init__ : List D → Sto → Rt := runD 4 bDrawing___init__
theorem denDrawing___init__ {P : Program} {w : World} {Γ : Gam} {mg : Str → Option Value} {base : Heap} (T : Txt Γ mg) : DenM P w Γ mg base 4 "Drawing" "__init__" 2 gDrawing___init__ :=
  denM_of (k := 3) T.M_Drawing___init__ scDrawing___init__ (db := bDrawing___init__) (fun f cdv A outer s H E hr =>
    (sb_cons (ss_for hp_def rfl (si_enum rfl rfl T.z_enumerate (simA_cons (sim_var (i := 1) rfl (.inl rfl) (by decide) (by decide)) simA_nil rfl) rfl) (sg_tup rfl rfl (sgs_cons (sg_name (i := 2) scDrawing___init__.nd rfl (.inl rfl) (.inr rfl)) (sgs_cons (sg_name (i := 3) scDrawing___init__.nd rfl (.inl rfl) (.inr rfl)) sgs_nil rfl) rfl) rfl rfl rfl) (sb_one (ss_if (SimW.t (simW_or (simT_cmp (op_eqD (hr.mono (by decide) : Room 0 _).units) os_eq mono_fEq (sim_var (i := 2) rfl (.inl rfl) (by decide) (by decide)) (sim_constI T.c_MOST_PIECES rfl (by decide)) (nomark _)) (simW_or (simT_not (sim_tru rfl (sim_callD (denis_piece T) rfl (hr.mono (by decide)) rfl hx_def (simA_cons (sim_var (i := 3) rfl (.inl rfl) (by decide) (by decide)) simA_nil rfl) rfl rfl (by decide) rfl rfl) (fun _ => rfl))) (simW_or1 (sim_tru rfl (sim_callD (denlies_along_any T) rfl (hr.mono (by decide)) rfl hx_def (simA_cons (sim_var (i := 3) rfl (.inl rfl) (by decide) (by decide)) (simA_cons (sim_slice rfl (sim_var (i := 1) rfl (.inl rfl) (by decide) (by decide)) SimO.none (SimO.some (sim_var (i := 2) rfl (.inl rfl) (by decide) (by decide)))) simA_nil rfl) rfl) rfl rfl (by decide) rfl rfl) (fun _ => rfl)))))) (sb_one (ss_raise1D T.x_InvalidDrawing scInvalidDrawing___init__ rfl rfl rfl (by decide) (by decide) rfl rfl tk_def (hr.mono (by decide)) rfl (sim_var (i := 2) rfl (.inl rfl) (by decide) (by decide)) (by decide) rfl)) sb_nil)) (fun _ => rfl))
      (sb_one (ss_setf rfl T.fld_pieces (sim_var (i := 0) rfl (.inl rfl) (by decide) (by decide)) (sim_var (i := 1) rfl (.inl rfl) (by decide) (by decide)) rfl))))
abbrev NDrawing___eq__ : List Str := ["self", "other"]
theorem scDrawing___eq__ : FnScope NDrawing___eq__ ["self", "other"] (defScope sDrawing___eq__) := ⟨rfl, rfl, rfl, by decide +kernel, rfl, by decide +kernel, by decide +kernel⟩
def bDrawing___eq__ : Ds := (dRet (dAnd (dUn (fIsI [("Drawing", true)]) (dVar 1)) (dBin fEq (dUn (fFld cs_pieces "pieces") (dVar 0)) (dUn (fFld cs_pieces "pieces") (dVar 1)))))
def gDrawing___eq__ : List D → Sto → Rt := runD 2 bDrawing___eq__
theorem denDrawing___eq__ {P : Program} {w : World} {Γ : Gam} {mg : Str → Option Value} {base : Heap} (T : Txt Γ mg) : DenM P w Γ mg base 1 "Drawing" "__eq__" 2 gDrawing___eq__ :=
  denM_of (k := 0) T.M_Drawing___eq__ scDrawing___eq__ (db := bDrawing___eq__) (fun f cdv A outer s H E hr =>
    (sb_one (ss_ret (sim_and (sim_isI T.ii_Drawing T.g_Drawing rfl rfl T.z_isinstance rfl (by decide) (sim_var (i := 1) rfl (.inl rfl) (by decide) (by decide)) rfl rfl rfl) (sim_one (sim_cmp (op_eqD (hr.mono (by decide) : Room 0 _).units) os_eq mono_fEq (sim_fld rfl T.fld_pieces (sim_var (i := 0) rfl (.inl rfl) (by decide) (by decide)) rfl) (sim_fld rfl T.fld_pieces (sim_var (i := 1) rfl (.inl rfl) (by decide) (by decide)) rfl) (nomark _)))))))
abbrev NDrawing___len__ : List Str := ["self"]
theorem scDrawing___len__ : FnScope NDrawing___len__ ["self"] (defScope sDrawing___len__) := ⟨rfl, rfl, rfl, by decide +kernel, rfl, by decide +kernel, by decide +kernel⟩
def bDrawing___len__ : Ds := (dRet (dApp fLen [(dUn (fFld cs_pieces "pieces") (dVar 0))]))
def gDrawing___len__ : List D → Sto → Rt := runD 1 bDrawing___len__
theorem denDrawing___len__ {P : Program} {w : World} {Γ : Gam} {mg : Str → Option Value} {base : Heap} (T : Txt Γ mg) : DenM P w Γ mg base 1 "Drawing" "__len__" 1 gDrawing___len__ :=
  denM_of (k := 0) T.M_Drawing___len__ scDrawing___len__ (db := bDrawing___len__) (fun f cdv A outer s H E hr =>
    (sb_one (ss_ret (sim_callB cr_len cs_len mono_fLen rfl T.z_len (by decide +kernel) (simA_cons (sim_fld rfl T.fld_pieces (sim_var (i := 0) rfl (.inl rfl) (by decide) (by decide)) rfl) simA_nil rfl) (by decide) (by decide) rfl rfl))))
abbrev N_law_taken : List Str := ["_law_row", "_law_many", "_law_found", "_law_cell"]
theorem sc_law_taken : FnScope N_law_taken ["_law_row", "_law_many"] (defScope s_law_taken) := ⟨rfl, rfl, rfl, by decide +kernel, rfl, by decide +kernel, by decide +kernel⟩
def b_law_taken : Ds := (dThen (dIfS (dBin fGt (dBin fIx (dVar 0) (dC (.int 3))) (dC (.int 0))) (dThen (dAsg (dBin fMod (dApp fInt [(dBin fIx (dVar 0) (dC (.int 3)))]) (dVar 1)) (.nm 2)) (dThen (dSetIx (dBin fDiv (dBin fIx (dVar 0) (dC (.int 3))) (dVar 1)) (dVar 0) (dC (.int 3))) (dRet (dVar 2)))) dNext) (dThen (dSetIx (dBin fAdd (dBin fIx (dVar 0) (dC (.int 1))) (dC (.int 1))) (dVar 0) (dC (.int 1))) (dThen (dIfS (dBin fGt (dBin fIx (dVar 0) (dC (.int 1))) (dApp fLen [(dBin fIx (dVar 0) (dC (.int 0)))])) (dThen (dSetIx (dBin fMod (dApp fInt [(dBin fAdd (dBin fMul (dBin fIx (dVar 0) (dC (.int 2))) (dC (.int 48271))) (dC (.int 11)))]) (dC (.int 2147483647))) (dVar 0) (dC (.int 2))) (dRet (dBin fMod (dApp fInt [(dBin fDiv (dBin fIx (dVar 0) (dC (.int 2))) (dC (.int 7)))]) (dVar 1)))) dNext) (dThen (dAsg (dBin fIx (dBin fIx (dVar 0) (dC (.int 0))) (dBin fSub (dBin fIx (dVar 0) (dC (.int 1))) (dC (.int 1)))) (.nm 3)) (dThen (dSetIx (dBin fMod (dApp fInt [(dBin fAdd (dBin fAdd (dBin fMul (dBin fIx (dVar 0) (dC (.int 2))) (dC (.int 48271))) (dVar 3)) (dC (.int 11)))]) (dC (.int 2147483647))) (dVar 0) (dC (.int 2))) (dThen (dSetIx (dIf (dBin fGe (dVar 3) (dBin fPow (dC (.int 10)) (dC (.int 18)))) (dBin fDiv (dVar 3) (dVar 1)) (dC (.int 0))) (dVar 0) (dC (.int 3))) (dRet (dBin fMod (dApp fInt [(dVar 3)]) (dVar 1)))))))))
def g_law_taken : List D → Sto → Rt := runD 4 b_law_taken
theorem den_law_taken {P : Program} {w : World} {Γ : Gam} {mg : Str → Option Value} {base : Heap} (T : Txt Γ mg) : Den P w Γ mg base 1 "_law_taken" 2 g_law_taken :=
  den_of (k := 0) T.F__law_taken sc_law_taken (db := b_law_taken) (fun f cdv A outer s H E hr =>
    (sb_cons (ss_if (simT_cmp op_gt os_gt mono_fGt (sim_ix ix_seq os_ix mono_fIx (sim_var (i := 0) rfl (.inl rfl) (by decide) (by decide)) sim_int (fun _ _ => rfl)) sim_int (nomark _)) (sb_cons (ss_set (i := 2) sc_law_taken.nd rfl (.inl rfl) (sim_op op_mod os_mod mono_fMod (sim_callTy call_int1 cs_int mono_fInt rfl T.z_int (by decide +kernel) (simA_cons (sim_ix ix_seq os_ix mono_fIx (sim_var (i := 0) rfl (.inl rfl) (by decide) (by decide)) sim_int (fun _ _ => rfl)) simA_nil rfl) (by decide) (by decide) rfl rfl) (sim_var (i := 1) rfl (.inl rfl) (by decide) (by decide))) rfl (.inl rfl))
      (sb_cons (ss_setix (sim_op op_fdiv os_div mono_fDiv (sim_ix ix_seq os_ix mono_fIx (sim_var (i := 0) rfl (.inl rfl) (by decide) (by decide)) sim_int (fun _ _ => rfl)) (sim_var (i := 1) rfl (.inl rfl) (by decide) (by decide))) (sim_var (i := 0) rfl (.inl rfl) (by decide) (by decide)) sim_int (fun _ => rfl) rfl rfl rfl)
      (sb_one (ss_ret (sim_var (i := 2) rfl (.inl rfl) (by decide) (by decide)))))) sb_nil)
      (sb_cons (ss_setix (sim_op op_addD os_add mono_fAdd (sim_ix ix_seq os_ix mono_fIx (sim_var (i := 0) rfl (.inl rfl) (by decide) (by decide)) sim_int (fun _ _ => rfl)) sim_int) (sim_var (i := 0) rfl (.inl rfl) (by decide) (by decide)) sim_int (fun _ => rfl) rfl rfl rfl)
      (sb_cons (ss_if (simT_cmp op_gt os_gt mono_fGt (sim_ix ix_seq os_ix mono_fIx (sim_var (i := 0) rfl (.inl rfl) (by decide) (by decide)) sim_int (fun _ _ => rfl)) (sim_callB cr_len cs_len mono_fLen rfl T.z_len (by decide +kernel) (simA_cons (sim_ix ix_seq os_ix mono_fIx (sim_var (i := 0) rfl (.inl rfl) (by decide) (by decide)) sim_int (fun _ _ => rfl)) simA_nil rfl) (by decide) (by decide) rfl rfl) (nomark _)) (sb_cons (ss_setix (sim_op op_mod os_mod mono_fMod (sim_callTy call_int1 cs_int mono_fInt rfl T.z_int (by decide +kernel) (simA_cons (sim_op op_addD os_add mono_fAdd (sim_op op_mul os_mul mono_fMul (sim_ix ix_seq os_ix mono_fIx (sim_var (i := 0) rfl (.inl rfl) (by decide) (by decide)) sim_int (fun _ _ => rfl)) sim_int) sim_int) simA_nil rfl) (by decide) (by decide) rfl rfl) sim_int) (sim_var (i := 0) rfl (.inl rfl) (by decide) (by decide)) sim_int (fun _ => rfl) rfl rfl rfl)
      (sb_one (ss_ret (sim_op op_mod os_mod mono_fMod (sim_callTy call_int1 cs_int mono_fInt rfl T.z_int (by decide +kernel) (simA_cons (sim_op op_fdiv os_div mono_fDiv (sim_ix ix_seq os_ix mono_fIx (sim_var (i := 0) rfl (.inl rfl) (by decide) (by decide)) sim_int (fun _ _ => rfl)) sim_int) simA_nil rfl) (by decide) (by decide) rfl rfl) (sim_var (i := 1) rfl (.inl rfl) (by decide) (by decide)))))) sb_nil)
      (sb_cons (ss_set (i := 3) sc_law_taken.nd rfl (.inl rfl) (sim_ix ix_seq os_ix mono_fIx (sim_ix ix_seq os_ix mono_fIx (sim_var (i := 0) rfl (.inl rfl) (by decide) (by decide)) sim_int (fun _ _ => rfl)) (sim_op op_sub os_sub mono_fSub (sim_ix ix_seq os_ix mono_fIx (sim_var (i := 0) rfl (.inl rfl) (by decide) (by decide)) sim_int (fun _ _ => rfl)) sim_int) (fun _ _ => rfl)) rfl (.inl rfl))
      (sb_cons (ss_setix (sim_op op_mod os_mod mono_fMod (sim_callTy call_int1 cs_int mono_fInt rfl T.z_int (by decide +kernel) (simA_cons (sim_op op_addD os_add mono_fAdd (sim_op op_addD os_add mono_fAdd (sim_op op_mul os_mul mono_fMul (sim_ix ix_seq os_ix mono_fIx (sim_var (i := 0) rfl (.inl rfl) (by decide) (by decide)) sim_int (fun _ _ => rfl)) sim_int) (sim_var (i := 3) rfl (.inl rfl) (by decide) (by decide))) sim_int) simA_nil rfl) (by decide) (by decide) rfl rfl) sim_int) (sim_var (i := 0) rfl (.inl rfl) (by decide) (by decide)) sim_int (fun _ => rfl) rfl rfl rfl)
      (sb_cons (ss_setix (sim_if (simT_cmp op_ge os_ge mono_fGe (sim_var (i := 3) rfl (.inl rfl) (by decide) (by decide)) (sim_op op_pow os_pow mono_fPow sim_int sim_int) (nomark _)) (sim_op op_fdiv os_div mono_fDiv (sim_var (i := 3) rfl (.inl rfl) (by decide) (by decide)) (sim_var (i := 1) rfl (.inl rfl) (by decide) (by decide))) sim_int) (sim_var (i := 0) rfl (.inl rfl) (by decide) (by decide)) sim_int (fun _ => rfl) rfl rfl rfl)
      (sb_one (ss_ret (sim_op op_mod os_mod mono_fMod (sim_callTy call_int1 cs_int mono_fInt rfl T.z_int (by decide +kernel) (simA_cons (sim_var (i := 3) rfl (.inl rfl) (by decide) (by decide)) simA_nil rfl) (by decide) (by decide) rfl rfl) (sim_var (i := 1) rfl (.inl rfl) (by decide) (by decide))))))))))))
abbrev N_law_pick : List Str := ["_law_row", "_law_some"]
theorem sc_law_pick : FnScope N_law_pick ["_law_row", "_law_some"] (defScope s_law_pick) := ⟨rfl, rfl, rfl, by decide +kernel, rfl, by decide +kernel, by decide +kernel⟩
def b_law_pick : Ds := (dRet (dBin fIx (dVar 1) (dApp g_law_taken [(dVar 0), (dApp fLen [(dVar 1)])])))
def g_law_pick : List D → Sto → Rt := runD 2 b_law_pick
theorem den_law_pick {P : Program} {w : World} {Γ : Gam} {mg : Str → Option Value} {base : Heap} (T : Txt Γ mg) : Den P w Γ mg base 2 "_law_pick" 2 g_law_pick :=
  den_of (k := 1) T.F__law_pick sc_law_pick (db := b_law_pick) (fun f cdv A outer s H E hr =>
    (sb_one (ss_ret (sim_ix ix_seq os_ix mono_fIx (sim_var (i := 1) rfl (.inl rfl) (by decide) (by decide)) (sim_callD (den_law_taken T) rfl (hr.mono (by decide)) rfl hx_def (simA_cons (sim_var (i := 0) rfl (.inl rfl) (by decide) (by decide)) (simA_cons (sim_callB cr_len cs_len mono_fLen rfl T.z_len (by decide +kernel) (simA_cons (sim_var (i := 1) rfl (.inl rfl) (by decide) (by decide)) simA_nil rfl) (by decide) (by decide) rfl rfl) simA_nil rfl) rfl) rfl rfl (by decide) rfl rfl) (fun _ _ => rfl)))))
abbrev N_law_number : List Str := ["_law_row", "_law_far", "_law_step"]
theorem sc_law_number : FnScope N_law_number ["_law_row", "_law_far"] (defScope s_law_number) := ⟨rfl, rfl, rfl, by decide +kernel, rfl, by decide +kernel, by decide +kernel⟩
def b_law_number : Ds := (dThen (dAsg (dApp g_law_pick [(dVar 0), (dApp fLst [(dC (.int 1)), (dC (.int 2)), (dC (.int 4))])]) (.nm 2)) (dRet (dBin fMul (dVar 2) (dApp g_law_taken [(dVar 0), (dBin fAdd (dBin fDiv (dVar 1) (dVar 2)) (dC (.int 1)))]))))
def g_law_number : List D → Sto → Rt := runD 3 b_law_number
theorem den_law_number {P : Program} {w : World} {Γ : Gam} {mg : Str → Option Value} {base : Heap} (T : Txt Γ mg) : Den P w Γ mg base 3 "_law_number" 2 g_law_number :=
  den_of (k := 2) T.F__law_number sc_law_number (db := b_law_number) (fun f cdv A outer s H E hr =>
    (sb_cons (ss_set (i := 2) sc_law_number.nd rfl (.inl rfl) (sim_callD (den_law_pick T) rfl (hr.mono (by decide)) rfl hx_def (simA_cons (sim_var (i := 0) rfl (.inl rfl) (by decide) (by decide)) (simA_cons (sim_lst (simA_cons sim_int (simA_cons sim_int (simA_cons sim_int simA_nil rfl) rfl) rfl)) simA_nil rfl) rfl) rfl rfl (by decide) rfl rfl) rfl (.inl rfl))
      (sb_one (ss_ret (sim_op op_mul os_mul mono_fMul (sim_var (i := 2) rfl (.inl rfl) (by decide) (by decide)) (sim_callD (den_law_taken T) rfl (hr.mono (by decide)) rfl hx_def (simA_cons (sim_var (i := 0) rfl (.inl rfl) (by decide) (by decide)) (simA_cons (sim_op op_addD os_add mono_fAdd (sim_op op_fdiv os_div mono_fDiv (sim_var (i := 1) rfl (.inl rfl) (by decide) (by decide)) (sim_var (i := 2) rfl (.inl rfl) (by decide) (by decide))) sim_int) simA_nil rfl) rfl) rfl rfl (by decide) rfl rfl))))))
abbrev N_law_piece : List Str := ["_law_row", "_law_far", "_law_one", "_law_other"]
theorem sc_law_piece : FnScope N_law_piece ["_law_row", "_law_far"] (defScope s_law_piece) := ⟨rfl, rfl, rfl, by decide +kernel, rfl, by decide +kernel, by decide +kernel⟩
def b_law_piece : Ds := (dThen (dAsg (dApp fTup [(dApp g_law_number [(dVar 0), (dVar 1)]), (dApp g_law_number [(dVar 0), (dVar 1)])]) (.nm 2)) (dThen (dAsg (dApp fTup [(dApp g_law_number [(dVar 0), (dVar 1)]), (dApp g_law_number [(dVar 0), (dVar 1)])]) (.nm 3)) (dThen (dIfS (dBin fEq (dVar 2) (dVar 3)) (dAsg (dApp fTup [(dBin fIx (dVar 2) (dC (.int 0))), (dIf (dBin fLt (dBin fIx (dVar 2) (dC (.int 1))) (dVar 1)) (dBin fAdd (dBin fIx (dVar 2) (dC (.int 1))) (dC (.int 1))) (dBin fSub (dBin fIx (dVar 2) (dC (.int 1))) (dC (.int 1))))]) (.nm 3)) dNext) (dRet (dBin fAdd (dVar 2) (dVar 3))))))
def g_law_piece : List D → Sto → Rt := runD 4 b_law_piece
theorem den_law_piece {P : Program} {w : World} {Γ : Gam} {mg : Str → Option Value} {base : Heap} (T : Txt Γ mg) : Den P w Γ mg base 4 "_law_piece" 2 g_law_piece :=
  den_of (k := 3) T.F__law_piece sc_law_piece (db := b_law_piece) (fun f cdv A outer s H E hr =>
    (sb_cons (ss_set (i := 2) sc_law_piece.nd rfl (.inl rfl) (sim_tup (simA_cons (sim_callD (den_law_number T) rfl (hr.mono (by decide)) rfl hx_def (simA_cons (sim_var (i := 0) rfl (.inl rfl) (by decide) (by decide)) (simA_cons (sim_var (i := 1) rfl (.inl rfl) (by decide) (by decide)) simA_nil rfl) rfl) rfl rfl (by decide) rfl rfl) (simA_cons (sim_callD (den_law_number T) rfl (hr.mono (by decide)) rfl hx_def (simA_cons (sim_var (i := 0) rfl (.inl rfl) (by decide) (by decide)) (simA_cons (sim_var (i := 1) rfl (.inl rfl) (by decide) (by decide)) simA_nil rfl) rfl) rfl rfl (by decide) rfl rfl) simA_nil rfl) rfl)) rfl (.inl rfl))
      (sb_cons (ss_set (i := 3) sc_law_piece.nd rfl (.inl rfl) (sim_tup (simA_cons (sim_callD (den_law_number T) rfl (hr.mono (by decide)) rfl hx_def (simA_cons (sim_var (i := 0) rfl (.inl rfl) (by decide) (by decide)) (simA_cons (sim_var (i := 1) rfl (.inl rfl) (by decide) (by decide)) simA_nil rfl) rfl) rfl rfl (by decide) rfl rfl) (simA_cons (sim_callD (den_law_number T) rfl (hr.mono (by decide)) rfl hx_def (simA_cons (sim_var (i := 0) rfl (.inl rfl) (by decide) (by decide)) (simA_cons (sim_var (i := 1) rfl (.inl rfl) (by decide) (by decide)) simA_nil rfl) rfl) rfl rfl (by decide) rfl rfl) simA_nil rfl) rfl)) rfl (.inl rfl))
      (sb_cons (ss_if (simT_cmp (op_eqD (hr.mono (by decide) : Room 0 _).units) os_eq mono_fEq (sim_var (i := 2) rfl (.inl rfl) (by decide) (by decide)) (sim_var (i := 3) rfl (.inl rfl) (by decide) (by decide)) (nomark _)) (sb_one (ss_set (i := 3) sc_law_piece.nd rfl (.inl rfl) (sim_tup (simA_cons (sim_ix ix_seq os_ix mono_fIx (sim_var (i := 2) rfl (.inl rfl) (by decide) (by decide)) sim_int (fun _ _ => rfl)) (simA_cons (sim_if (simT_cmp (op_ltD (hr.mono (by decide) : Room 0 _).units0) os_lt mono_fLt (sim_ix ix_seq os_ix mono_fIx (sim_var (i := 2) rfl (.inl rfl) (by decide) (by decide)) sim_int (fun _ _ => rfl)) (sim_var (i := 1) rfl (.inl rfl) (by decide) (by decide)) (nomark _)) (sim_op op_addD os_add mono_fAdd (sim_ix ix_seq os_ix mono_fIx (sim_var (i := 2) rfl (.inl rfl) (by decide) (by decide)) sim_int (fun _ _ => rfl)) sim_int) (sim_op op_sub os_sub mono_fSub (sim_ix ix_seq os_ix mono_fIx (sim_var (i := 2) rfl (.inl rfl) (by decide) (by decide)) sim_int (fun _ _ => rfl)) sim_int)) simA_nil rfl) rfl)) rfl (.inl rfl))) sb_nil)
      (sb_one (ss_ret (sim_op op_addD os_add mono_fAdd (sim_var (i := 2) rfl (.inl rfl) (by decide) (by decide)) (sim_var (i := 3) rfl (.inl rfl) (by decide) (by decide)))))))))
abbrev N_law_is_on : List Str := ["_law_piece_here", "_law_point", "_law_k"]
theorem sc_law_is_on : FnScope N_law_is_on ["_law_piece_here", "_law_point"] (defScope s_law_is_on) := ⟨rfl, rfl, rfl, by decide +kernel, rfl, by decide +kernel, by decide +kernel⟩
def b_law_is_on : Ds := (dThen (dFor (dSeq (dApp fTup [(dC (.int 0)), (dC (.int 1))])) (.nm 2) (dIfS (dUn fNot (dChain fLe fLe (dApp fMin2D [(dBin fIx (dVar 0) (dVar 2)), (dBin fIx (dVar 0) (dBin fAdd (dVar 2) (dC (.int 2))))]) (dBin fIx (dVar 1) (dVar 2)) (dApp fMax2D [(dBin fIx (dVar 0) (dVar 2)), (dBin fIx (dVar 0) (dBin fAdd (dVar 2) (dC (.int 2))))]))) (dRet (dC (.bl false))) dNext)) (dRet (dC (.bl true))))
def g_law_is_on : List D → Sto → Rt := runD 3 b_law_is_on
theorem den_law_is_on {P : Program} {w : World} {Γ : Gam} {mg : Str → Option Value} {base : Heap} (T : Txt Γ mg) : Den P w Γ mg base 1 "_law_is_on" 2 g_law_is_on :=
  den_of (k := 0) T.F__law_is_on sc_law_is_on (db := b_law_is_on) (fun f cdv A outer s H E hr =>
    (sb_cons (ss_for hp_def rfl (si_seq rfl (sim_tup (simA_cons sim_int (simA_cons sim_int simA_nil rfl) rfl))) (sg_name (i := 2) sc_law_is_on.nd rfl (.inl rfl) (.inr rfl)) (sb_one (ss_if (simT_not (simT_chain op_le op_le os_le os_le mono_fLe mono_fLe (sim_callB (cr_min2D rfl (hr.mono (by decide) : Room 0 _).units) cs_min2D mono_fMin2D rfl T.z_min (by decide +kernel) (simA_cons (sim_ix ix_seq os_ix mono_fIx (sim_var (i := 0) rfl (.inl rfl) (by decide) (by decide)) (sim_var (i := 2) rfl (.inl rfl) (by decide) (by decide)) (fun _ _ => rfl)) (simA_cons (sim_ix ix_seq os_ix mono_fIx (sim_var (i := 0) rfl (.inl rfl) (by decide) (by decide)) (sim_op op_addD os_add mono_fAdd (sim_var (i := 2) rfl (.inl rfl) (by decide) (by decide)) sim_int) (fun _ _ => rfl)) simA_nil rfl) rfl) (by decide) (by decide) rfl rfl) (sim_ix ix_seq os_ix mono_fIx (sim_var (i := 1) rfl (.inl rfl) (by decide) (by decide)) (sim_var (i := 2) rfl (.inl rfl) (by decide) (by decide)) (fun _ _ => rfl)) (sim_callB (cr_max2D rfl (hr.mono (by decide) : Room 0 _).units) cs_max2D mono_fMax2D rfl T.z_max (by decide +kernel) (simA_cons (sim_ix ix_seq os_ix mono_fIx (sim_var (i := 0) rfl (.inl rfl) (by decide) (by decide)) (sim_var (i := 2) rfl (.inl rfl) (by decide) (by decide)) (fun _ _ => rfl)) (simA_cons (sim_ix ix_seq os_ix mono_fIx (sim_var (i := 0) rfl (.inl rfl) (by decide) (by decide)) (sim_op op_addD os_add mono_fAdd (sim_var (i := 2) rfl (.inl rfl) (by decide) (by decide)) sim_int) (fun _ _ => rfl)) simA_nil rfl) rfl) (by decide) (by decide) rfl rfl) (by with_unfolding_all rfl))) (sb_one (ss_ret sim_bl)) sb_nil)) (fun _ => rfl))
      (sb_one (ss_ret sim_bl))))
abbrev N_law_common : List Str := ["_law_one", "_law_other", "_law_a", "_law_b", "_law_c", "_law_d", "_law_e", "_law_f", "_law_turn", "_law_t", "_law_u", "_law_ends", "_law_shared", "_law_some", "_law_end"]
theorem sc_law_common : FnScope N_law_common ["_law_one", "_law_other"] (defScope s_law_common) := ⟨rfl, rfl, rfl, by decide +kernel, rfl, by decide +kernel, by decide +kernel⟩
def b_law_common : Ds := (dThen (dAsg (dApp fTup [(dBin fSub (dBin fIx (dVar 0) (dC (.int 2))) (dBin fIx (dVar 0) (dC (.int 0)))), (dBin fSub (dBin fIx (dVar 0) (dC (.int 3))) (dBin fIx (dVar 0) (dC (.int 1))))]) (.tp [.nm 2, .nm 3])) (dThen (dAsg (dApp fTup [(dBin fSub (dBin fIx (dVar 1) (dC (.int 2))) (dBin fIx (dVar 1) (dC (.int 0)))), (dBin fSub (dBin fIx (dVar 1) (dC (.int 3))) (dBin fIx (dVar 1) (dC (.int 1))))]) (.tp [.nm 4, .nm 5])) (dThen (dAsg (dApp fTup [(dBin fSub (dBin fIx (dVar 1) (dC (.int 0))) (dBin fIx (dVar 0) (dC (.int 0)))), (dBin fSub (dBin fIx (dVar 1) (dC (.int 1))) (dBin fIx (dVar 0) (dC (.int 1))))]) (.tp [.nm 6, .nm 7])) (dThen (dAsg (dBin fSub (dBin fMul (dVar 2) (dVar 5)) (dBin fMul (dVar 3) (dVar 4))) (.nm 8)) (dThen (dIfS (dBin fNe (dVar 8) (dC (.int 0))) (dThen (dAsg (dApp fTup [(dBin fMul (dBin fSub (dBin fMul (dVar 6) (dVar 5)) (dBin fMul (dVar 7) (dVar 4))) (dIf (dBin fGt (dVar 8) (dC (.int 0))) (dC (.int 1)) (dUn fNeg (dC (.int 1))))), (dBin fMul (dBin fSub (dBin fMul (dVar 6) (dVar 3)) (dBin fMul (dVar 7) (dVar 2))) (dIf (dBin fGt (dVar 8) (dC (.int 0))) (dC (.int 1)) (dUn fNeg (dC (.int 1)))))]) (.tp [.nm 9, .nm 10])) (dThen (dAsg (dApp fAbs [(dVar 8)]) (.nm 8)) (dThen (dIfS (dOr (dBin fLt (dVar 9) (dC (.int 0))) (dOr (dBin fGt (dVar 9) (dVar 8)) (dOr (dBin fLt (dVar 10) (dC (.int 0))) (dBin fGt (dVar 10) (dVar 8))))) (dRet (dApp fLst [])) dNext) (dRet (dApp fLst [(dApp fTup [(dBin fAdd (dBin fMul (dBin fIx (dVar 0) (dC (.int 0))) (dVar 8)) (dBin fMul (dVar 2) (dVar 9))), (dBin fAdd (dBin fMul (dBin fIx (dVar 0) (dC (.int 1))) (dVar 8)) (dBin fMul (dVar 3) (dVar 9))), (dVar 8)])]))))) dNext) (dThen (dIfS (dBin fNe (dBin fMul (dVar 2) (dVar 7)) (dBin fMul (dVar 3) (dVar 6))) (dRet (dApp fLst [])) dNext) (dThen (dAsg (dApp fTup [(dSl (dVar 0) none (some (dC (.int 2)))), (dSl (dVar 0) (some (dC (.int 2))) none), (dSl (dVar 1) none (some (dC (.int 2)))), (dSl (dVar 1) (some (dC (.int 2))) none)]) (.nm 11)) (dThen (dAsg (dLc (dSeq (dVar 11)) (.nm 14) (dAnd (dUn fTru (dApp g_law_is_on [(dVar 0), (dVar 14)])) (dUn fTru (dApp g_law_is_on [(dVar 1), (dVar 14)]))) (dVar 14) [14]) (.nm 12)) (dThen (dAsg (dUn fSortSet (dVar 12)) (.nm 13)) (dRet (dIf (dBin fEq (dApp fLen [(dVar 13)]) (dC (.int 1))) (dApp fLst [(dBin fAdd (dBin fIx (dVar 13) (dC (.int 0))) (dApp fTup [(dC (.int 1))]))]) (dIf (dBin fEq (dVar 13) (dApp fLst [])) (dApp fLst []) (dC .non)))))))))))))
def g_law_common : List D → Sto → Rt := runD 15 b_law_common
theorem den_law_common {P : Program} {w : World} {Γ : Gam} {mg : Str → Option Value} {base : Heap} (T : Txt Γ mg) : Den P w Γ mg base 2 "_law_common" 2 g_law_common :=
  den_of (k := 1) T.F__law_common sc_law_common (db := b_law_common) (fun f cdv A outer s H E hr =>
    (sb_cons (ss_par (i := 2) (j := 3) rfl sc_law_common.nd rfl rfl (by decide) rfl rfl (simA_cons (sim_op op_sub os_sub mono_fSub (sim_ix ix_seq os_ix mono_fIx (sim_var (i := 0) rfl (.inr (.inl rfl)) (by decide) (by decide)) sim_int (fun _ _ => rfl)) (sim_ix ix_seq os_ix mono_fIx (sim_var (i := 0) rfl (.inr (.inl rfl)) (by decide) (by decide)) sim_int (fun _ _ => rfl))) (simA_cons (sim_op op_sub os_sub mono_fSub (sim_ix ix_seq os_ix mono_fIx (sim_var (i := 0) rfl (.inr (.inl rfl)) (by decide) (by decide)) sim_int (fun _ _ => rfl)) (sim_ix ix_seq os_ix mono_fIx (sim_var (i := 0) rfl (.inr (.inl rfl)) (by decide) (by decide)) sim_int (fun _ _ => rfl))) simA_nil rfl) rfl) rfl rfl rfl)
      (sb_cons (ss_par (i := 4) (j := 5) rfl sc_law_common.nd rfl rfl (by decide) rfl rfl (simA_cons (sim_op op_sub os_sub mono_fSub (sim_ix ix_seq os_ix mono_fIx (sim_var (i := 1) rfl (.inr (.inl rfl)) (by decide) (by decide)) sim_int (fun _ _ => rfl)) (sim_ix ix_seq os_ix mono_fIx (sim_var (i := 1) rfl (.inr (.inl rfl)) (by decide) (by decide)) sim_int (fun _ _ => rfl))) (simA_cons (sim_op op_sub os_sub mono_fSub (sim_ix ix_seq os_ix mono_fIx (sim_var (i := 1) rfl (.inr (.inl rfl)) (by decide) (by decide)) sim_int (fun _ _ => rfl)) (sim_ix ix_seq os_ix mono_fIx (sim_var (i := 1) rfl (.inr (.inl rfl)) (by decide) (by decide)) sim_int (fun _ _ => rfl))) simA_nil rfl) rfl) rfl rfl rfl)
      (sb_cons (ss_par (i := 6) (j := 7) rfl sc_law_common.nd rfl rfl (by decide) rfl rfl (simA_cons (sim_op op_sub os_sub mono_fSub (sim_ix ix_seq os_ix mono_fIx (sim_var (i := 1) rfl (.inr (.inl rfl)) (by decide) (by decide)) sim_int (fun _ _ => rfl)) (sim_ix ix_seq os_ix mono_fIx (sim_var (i := 0) rfl (.inr (.inl rfl)) (by decide) (by decide)) sim_int (fun _ _ => rfl))) (simA_cons (sim_op op_sub os_sub mono_fSub (sim_ix ix_seq os_ix mono_fIx (sim_var (i := 1) rfl (.inr (.inl rfl)) (by decide) (by decide)) sim_int (fun _ _ => rfl)) (sim_ix ix_seq os_ix mono_fIx (sim_var (i := 0) rfl (.inr (.inl rfl)) (by decide) (by decide)) sim_int (fun _ _ => rfl))) simA_nil rfl) rfl) rfl rfl rfl)
      (sb_cons (ss_set (i := 8) sc_law_common.nd rfl (.inl rfl) (sim_op op_sub os_sub mono_fSub (sim_op op_mul os_mul mono_fMul (sim_var (i := 2) rfl (.inl rfl) (by decide) (by decide)) (sim_var (i := 5) rfl (.inl rfl) (by decide) (by decide))) (sim_op op_mul os_mul mono_fMul (sim_var (i := 3) rfl (.inl rfl) (by decide) (by decide)) (sim_var (i := 4) rfl (.inl rfl) (by decide) (by decide)))) rfl (.inl rfl))
      (sb_cons (ss_if (simT_cmp (op_neD (hr.mono (by decide) : Room 0 _).units) os_ne mono_fNe (sim_var (i := 8) rfl (.inl rfl) (by decide) (by decide)) sim_int (nomark _)) (sb_cons (ss_par (i := 9) (j := 10) rfl sc_law_common.nd rfl rfl (by decide) rfl rfl (simA_cons (sim_op op_mul os_mul mono_fMul (sim_op op_sub os_sub mono_fSub (sim_op op_mul os_mul mono_fMul (sim_var (i := 6) rfl (.inl rfl) (by decide) (by decide)) (sim_var (i := 5) rfl (.inl rfl) (by decide) (by decide))) (sim_op op_mul os_mul mono_fMul (sim_var (i := 7) rfl (.inl rfl) (by decide) (by decide)) (sim_var (i := 4) rfl (.inl rfl) (by decide) (by decide)))) (sim_if (simT_cmp op_gt os_gt mono_fGt (sim_var (i := 8) rfl (.inl rfl) (by decide) (by decide)) sim_int (nomark _)) sim_int (sim_neg sim_int))) (simA_cons (sim_op op_mul os_mul mono_fMul (sim_op op_sub os_sub mono_fSub (sim_op op_mul os_mul mono_fMul (sim_var (i := 6) rfl (.inl rfl) (by decide) (by decide)) (sim_var (i := 3) rfl (.inl rfl) (by decide) (by decide))) (sim_op op_mul os_mul mono_fMul (sim_var (i := 7) rfl (.inl rfl) (by decide) (by decide)) (sim_var (i := 2) rfl (.inl rfl) (by decide) (by decide)))) (sim_if (simT_cmp op_gt os_gt mono_fGt (sim_var (i := 8) rfl (.inl rfl) (by decide) (by decide)) sim_int (nomark _)) sim_int (sim_neg sim_int))) simA_nil rfl) rfl) rfl rfl rfl)
      (sb_cons (ss_set (i := 8) sc_law_common.nd rfl (.inl rfl) (sim_callB call_abs cs_abs mono_fAbs rfl T.z_abs (by decide +kernel) (simA_cons (sim_var (i := 8) rfl (.inl rfl) (by decide) (by decide)) simA_nil rfl) (by decide) (by decide) rfl rfl) rfl (.inl rfl))
      (sb_cons (ss_if (SimW.t (simW_or (simT_cmp (op_ltD (hr.mono (by decide) : Room 0 _).units0) os_lt mono_fLt (sim_var (i := 9) rfl (.inl rfl) (by decide) (by decide)) sim_int (nomark _)) (simW_or (simT_cmp op_gt os_gt mono_fGt (sim_var (i := 9) rfl (.inl rfl) (by decide) (by decide)) (sim_var (i := 8) rfl (.inl rfl) (by decide) (by decide)) (nomark _)) (simW_or (simT_cmp (op_ltD (hr.mono (by decide) : Room 0 _).units0) os_lt mono_fLt (sim_var (i := 10) rfl (.inl rfl) (by decide) (by decide)) sim_int (nomark _)) (simW_or1 (simT_cmp op_gt os_gt mono_fGt (sim_var (i := 10) rfl (.inl rfl) (by decide) (by decide)) (sim_var (i := 8) rfl (.inl rfl) (by decide) (by decide)) (nomark _))))))) (sb_one (ss_ret (sim_lst simA_nil))) sb_nil)
      (sb_one (ss_ret (sim_lst (simA_cons (sim_tup (simA_cons (sim_op op_addD os_add mono_fAdd (sim_op op_mul os_mul mono_fMul (sim_ix ix_seq os_ix mono_fIx (sim_var (i := 0) rfl (.inr (.inl rfl)) (by decide) (by decide)) sim_int (fun _ _ => rfl)) (sim_var (i := 8) rfl (.inl rfl) (by decide) (by decide))) (sim_op op_mul os_mul mono_fMul (sim_var (i := 2) rfl (.inl rfl) (by decide) (by decide)) (sim_var (i := 9) rfl (.inl rfl) (by decide) (by decide)))) (simA_cons (sim_op op_addD os_add mono_fAdd (sim_op op_mul os_mul mono_fMul (sim_ix ix_seq os_ix mono_fIx (sim_var (i := 0) rfl (.inr (.inl rfl)) (by decide) (by decide)) sim_int (fun _ _ => rfl)) (sim_var (i := 8) rfl (.inl rfl) (by decide) (by decide))) (sim_op op_mul os_mul mono_fMul (sim_var (i := 3) rfl (.inl rfl) (by decide) (by decide)) (sim_var (i := 9) rfl (.inl rfl) (by decide) (by decide)))) (simA_cons (sim_var (i := 8) rfl (.inl rfl) (by decide) (by decide)) simA_nil rfl) rfl) rfl)) simA_nil rfl))))))) sb_nil)
      (sb_cons (ss_if (simT_cmp (op_neD (hr.mono (by decide) : Room 0 _).units) os_ne mono_fNe (sim_op op_mul os_mul mono_fMul (sim_var (i := 2) rfl (.inl rfl) (by decide) (by decide)) (sim_var (i := 7) rfl (.inl rfl) (by decide) (by decide))) (sim_op op_mul os_mul mono_fMul (sim_var (i := 3) rfl (.inl rfl) (by decide) (by decide)) (sim_var (i := 6) rfl (.inl rfl) (by decide) (by decide))) (nomark _)) (sb_one (ss_ret (sim_lst simA_nil))) sb_nil)
      (sb_cons (ss_set (i := 11) sc_law_common.nd rfl (.inl rfl) (sim_tup (simA_cons (sim_slice rfl (sim_var (i := 0) rfl (.inr (.inl rfl)) (by decide) (by decide)) SimO.none (SimO.some sim_int)) (simA_cons (sim_slice rfl (sim_var (i := 0) rfl (.inr (.inl rfl)) (by decide) (by decide)) (SimO.some sim_int) SimO.none) (simA_cons (sim_slice rfl (sim_var (i := 1) rfl (.inr (.inl rfl)) (by decide) (by decide)) SimO.none (SimO.some sim_int)) (simA_cons (sim_slice rfl (sim_var (i := 1) rfl (.inr (.inl rfl)) (by decide) (by decide)) (SimO.some sim_int) SimO.none) simA_nil rfl) rfl) rfl) rfl)) rfl (.inl rfl))
      (sb_cons (ss_setLc1 (i := 12) rfl rfl rfl (sw_true rfl rfl rfl (by decide +kernel)) (own := [("_law_end", 14)]) sc_law_common.nd (si_seq rfl (sim_var (i := 11) rfl (.inl rfl) (by decide) (by decide))) (blkOk_by (own := [("_law_end", 14)]) (N := N_law_common) (sc := defScope s_law_common) (by decide +kernel)) (by decide) (fun _ _ _ _ _ => (sg_name (i := 14) sc_law_common.nd rfl (.inl rfl) (.inr rfl))) (fun _ _ _ _ _ => (SimW.t (simW_and (sim_tru rfl (sim_callD (den_law_is_on T) rfl (hr.mono (by decide)) rfl hx_no (simA_cons (sim_var (i := 0) rfl (by first | exact .inr (.inl rfl) | exact .inr (.inr rfl) | exact .inl rfl) (by decide) (by decide)) (simA_cons (sim_var (i := 14) rfl (.inl rfl) (by decide) (by decide)) simA_nil rfl) rfl) rfl rfl (by decide) rfl rfl) (fun _ => rfl)) (simW_and1 (sim_tru rfl (sim_callD (den_law_is_on T) rfl (hr.mono (by decide)) rfl hx_no (simA_cons (sim_var (i := 1) rfl (by first | exact .inr (.inl rfl) | exact .inr (.inr rfl) | exact .inl rfl) (by decide) (by decide)) (simA_cons (sim_var (i := 14) rfl (.inl rfl) (by decide) (by decide)) simA_nil rfl) rfl) rfl rfl (by decide) rfl rfl) (fun _ => rfl)))))) (fun _ _ _ _ _ => (sim_var (i := 14) rfl (.inl rfl) (by decide) (by decide))) (fun _ => rfl))
      (sb_cons (ss_set (i := 13) sc_law_common.nd rfl (.inl rfl) (sim_sortset rfl rfl (hr.mono (by decide)) rfl T.z_sorted rfl T.z_set (sim_var (i := 12) rfl (.inl rfl) (by decide) (by decide)) rfl rfl) rfl (.inl rfl))
      (sb_one (ss_ret (sim_if (simT_cmp (op_eqD (hr.mono (by decide) : Room 0 _).units) os_eq mono_fEq (sim_callB cr_len cs_len mono_fLen rfl T.z_len (by decide +kernel) (simA_cons (sim_var (i := 13) rfl (.inl rfl) (by decide) (by decide)) simA_nil rfl) (by decide) (by decide) rfl rfl) sim_int (nomark _)) (sim_lst (simA_cons (sim_op op_addD os_add mono_fAdd (sim_ix ix_seq os_ix mono_fIx (sim_var (i := 13) rfl (.inl rfl) (by decide) (by decide)) sim_int (fun _ _ => rfl)) (sim_tup (simA_cons sim_int simA_nil rfl))) simA_nil rfl)) (sim_if (simT_cmp (op_eqD (hr.mono (by decide) : Room 0 _).units) os_eq mono_fEq (sim_var (i := 13) rfl (.inl rfl) (by decide) (by decide)) (sim_lst simA_nil) (nomark _)) (sim_lst simA_nil) sim_non))))))))))))))
abbrev N_law_raised : List Str := ["_law_work", "_law_e", "_law_kinds", "_law_at", "_law_words"]
theorem sc_law_raised : FnScope N_law_raised ["_law_work"] (defScope s_law_raised) := ⟨rfl, rfl, rfl, by decide +kernel, rfl, by decide +kernel, by decide +kernel⟩
abbrev suA_law_raised : List Stmt := suiteOf (defBody s_law_raised)
abbrev b0_law_raised : Stmt := (suA_law_raised).getD 0 (.Pass ⟨0, 0, 0, 0⟩)
abbrev su_law_raised : List Stmt := (suA_law_raised).drop 1
def d_law_raised_su : Ds := (dThen (dAsg (dApp fLst [(dUn (fIsE [("LineError", false), ("InvalidDrawing", true), ("UnknownPiece", false), ("SamePiece", false), ("InvalidHalf", false), ("InvalidNumber", false), ("InvalidPiece", false), ("UnlikeCounts", false), ("InvalidPoint", false)]) (dVar 1)), (dUn (fIsE [("LineError", false), ("InvalidDrawing", false), ("UnknownPiece", true), ("SamePiece", false), ("InvalidHalf", false), ("InvalidNumber", false), ("InvalidPiece", false), ("UnlikeCounts", false), ("InvalidPoint", false)]) (dVar 1)), (dUn (fIsE [("LineError", false), ("InvalidDrawing", false), ("UnknownPiece", false), ("SamePiece", true), ("InvalidHalf", false), ("InvalidNumber", false), ("InvalidPiece", false), ("UnlikeCounts", false), ("InvalidPoint", false)]) (dVar 1))]) (.nm 2)) (dThen (dAsg (dBin fAdd (dVar 2) (dApp fLst [(dUn (fIsE [("LineError", false), ("InvalidDrawing", false), ("UnknownPiece", false), ("SamePiece", false), ("InvalidHalf", true), ("InvalidNumber", false), ("InvalidPiece", false), ("UnlikeCounts", false), ("InvalidPoint", false)]) (dVar 1)), (dUn (fIsE [("LineError", false), ("InvalidDrawing", false), ("UnknownPiece", false), ("SamePiece", false), ("InvalidHalf", false), ("InvalidNumber", true), ("InvalidPiece", false), ("UnlikeCounts", false), ("InvalidPoint", false)]) (dVar 1)), (dUn (fIsE [("LineError", false), ("InvalidDrawing", false), ("UnknownPiece", false), ("SamePiece", false), ("InvalidHalf", false), ("InvalidNumber", false), ("InvalidPiece", true), ("UnlikeCounts", false), ("InvalidPoint", false)]) (dVar 1))])) (.nm 2)) (dThen (dAsg (dBin fAdd (dVar 2) (dApp fLst [(dUn (fIsE [("LineError", false), ("InvalidDrawing", false), ("UnknownPiece", false), ("SamePiece", false), ("InvalidHalf", false), ("InvalidNumber", false), ("InvalidPiece", false), ("UnlikeCounts", true), ("InvalidPoint", false)]) (dVar 1)), (dUn (fIsE [("LineError", false), ("InvalidDrawing", false), ("UnknownPiece", false), ("SamePiece", false), ("InvalidHalf", false), ("InvalidNumber", false), ("InvalidPiece", false), ("UnlikeCounts", false), ("InvalidPoint", true)]) (dVar 1))])) (.nm 2)) (dThen (dIfS (dOr (dBin fNe (dMeth "list" fCount (dVar 2) [(dC (.bl true))]) (dC (.int 1))) (dUn fNot (dUn fTru (dUn (fIsE [("LineError", true), ("InvalidDrawing", true), ("UnknownPiece", true), ("SamePiece", true), ("InvalidHalf", true), ("InvalidNumber", true), ("InvalidPiece", true), ("UnlikeCounts", true), ("InvalidPoint", true)]) (dVar 1))))) (dRet (dApp fTup [(dC (.str "other"))])) dNext) (dThen (dAsg (dMeth "list" fIndex (dVar 2) [(dC (.bl true))]) (.nm 3)) (dThen (dAsg (dApp fLst [(dC (.str "drawing")), (dC (.str "unknown")), (dC (.str "same")), (dC (.str "half")), (dC (.str "number")), (dC (.str "piece")), (dC (.str "counts")), (dC (.str "point"))]) (.nm 4)) (dRet (dIf (dBin fEq (dVar 3) (dC (.int 0))) (dApp fTup [(dBin fIx (dVar 4) (dC (.int 0))), (dUn (fXf ["InvalidDrawing"] "index") (dVar 1))]) (dApp fTup [(dBin fIx (dVar 4) (dVar 3))])))))))))
theorem sim_law_raised_su {P : Program} {w : World} {Γ : Gam} {mg : Str → Option Value} {base : Heap} (T : Txt Γ mg) (g : Addr) (cdg : Value) (A : Around) (outer : List Env) (s : Shared) (H : Hp) (a : Addr) (oe : Obj) (c : Str) (d : Option Addr) (pn : List (Addr × Obj)) (hr : Room 1 (A.deeper (envOfC "_law_raised" (defScope s_law_raised) s.heap.objs.size g cdg))) (hz : Zc (.ref (Γ.cl c)) d oe) (hf : ∃ vs, oe.data = .fields vs) :
    SimB ((cxOf C8.CX0 P w Γ.K mg base N_law_raised "_law_raised" (defScope s_law_raised) g cdg A outer s H C8.E0).nox.suite a ((a, oe) :: pn)) (Γ.hold a c d) WF (b0_law_raised :: su_law_raised) d_law_raised_su :=
  (sb_cons (ss_set (i := 2) sc_law_raised.nd rfl (.inl rfl) (sim_lst (simA_cons (sim_isE hz hf rfl rfl T.z_isinstance (pe_glob (v := .ref (Γ.cl "InvalidDrawing")) rfl T.g_InvalidDrawing rfl (by decide)) (fun _ h => h) T.ie_InvalidDrawing (sim_var (i := 1) rfl (.inl rfl) (by decide) (by decide)) rfl rfl rfl) (simA_cons (sim_isE hz hf rfl rfl T.z_isinstance (pe_glob (v := .ref (Γ.cl "UnknownPiece")) rfl T.g_UnknownPiece rfl (by decide)) (fun _ h => h) T.ie_UnknownPiece (sim_var (i := 1) rfl (.inl rfl) (by decide) (by decide)) rfl rfl rfl) (simA_cons (sim_isE hz hf rfl rfl T.z_isinstance (pe_glob (v := .ref (Γ.cl "SamePiece")) rfl T.g_SamePiece rfl (by decide)) (fun _ h => h) T.ie_SamePiece (sim_var (i := 1) rfl (.inl rfl) (by decide) (by decide)) rfl rfl rfl) simA_nil rfl) rfl) rfl)) rfl (.inl rfl))
      (sb_cons (ss_set (i := 2) sc_law_raised.nd rfl (.inl rfl) (sim_op op_addD os_add mono_fAdd (sim_var (i := 2) rfl (.inl rfl) (by decide) (by decide)) (sim_lst (simA_cons (sim_isE hz hf rfl rfl T.z_isinstance (pe_glob (v := .ref (Γ.cl "InvalidHalf")) rfl T.g_InvalidHalf rfl (by decide)) (fun _ h => h) T.ie_InvalidHalf (sim_var (i := 1) rfl (.inl rfl) (by decide) (by decide)) rfl rfl rfl) (simA_cons (sim_isE hz hf rfl rfl T.z_isinstance (pe_glob (v := .ref (Γ.cl "InvalidNumber")) rfl T.g_InvalidNumber rfl (by decide)) (fun _ h => h) T.ie_InvalidNumber (sim_var (i := 1) rfl (.inl rfl) (by decide) (by decide)) rfl rfl rfl) (simA_cons (sim_isE hz hf rfl rfl T.z_isinstance (pe_glob (v := .ref (Γ.cl "InvalidPiece")) rfl T.g_InvalidPiece rfl (by decide)) (fun _ h => h) T.ie_InvalidPiece (sim_var (i := 1) rfl (.inl rfl) (by decide) (by decide)) rfl rfl rfl) simA_nil rfl) rfl) rfl))) rfl (.inl rfl))
      (sb_cons (ss_set (i := 2) sc_law_raised.nd rfl (.inl rfl) (sim_op op_addD os_add mono_fAdd (sim_var (i := 2) rfl (.inl rfl) (by decide) (by decide)) (sim_lst (simA_cons (sim_isE hz hf rfl rfl T.z_isinstance (pe_glob (v := .ref (Γ.cl "UnlikeCounts")) rfl T.g_UnlikeCounts rfl (by decide)) (fun _ h => h) T.ie_UnlikeCounts (sim_var (i := 1) rfl (.inl rfl) (by decide) (by decide)) rfl rfl rfl) (simA_cons (sim_isE hz hf rfl rfl T.z_isinstance (pe_glob (v := .ref (Γ.cl "InvalidPoint")) rfl T.g_InvalidPoint rfl (by decide)) (fun _ h => h) T.ie_InvalidPoint (sim_var (i := 1) rfl (.inl rfl) (by decide) (by decide)) rfl rfl rfl) simA_nil rfl) rfl))) rfl (.inl rfl))
      (sb_cons (ss_if (SimW.t (simW_or (simT_cmp (op_neD (hr.mono (by decide) : Room 0 _).units) os_ne mono_fNe (sim_meth rfl PySem.F.plainAttrs_list PySem.F.slot_list_count type_list_count mt_countF ms_count mono_fCount (sim_var (i := 2) rfl (.inl rfl) (by decide) (by decide)) (simA_cons sim_bl simA_nil rfl) rfl rfl rfl rfl rfl) sim_int (nomark _)) (simW_or1 (simT_not (sim_tru rfl (sim_isE hz hf rfl rfl T.z_isinstance (pe_bltn (v := .ty "ValueError") rfl T.z_ValueError (by decide +kernel) rfl (by decide) (by decide)) (fun _ h => h) T.ie_ValueError (sim_var (i := 1) rfl (.inl rfl) (by decide) (by decide)) rfl rfl rfl) (fun _ => rfl)))))) (sb_one (ss_ret (sim_tup (simA_cons sim_str simA_nil rfl)))) sb_nil)
      (sb_cons (ss_set (i := 3) sc_law_raised.nd rfl (.inl rfl) (sim_meth rfl PySem.F.plainAttrs_list PySem.F.slot_list_index type_list_index mt_index ms_index mono_fIndex (sim_var (i := 2) rfl (.inl rfl) (by decide) (by decide)) (simA_cons sim_bl simA_nil rfl) rfl rfl rfl rfl rfl) rfl (.inl rfl))
      (sb_cons (ss_set (i := 4) sc_law_raised.nd rfl (.inl rfl) (sim_lst (simA_cons sim_str (simA_cons sim_str (simA_cons sim_str (simA_cons sim_str (simA_cons sim_str (simA_cons sim_str (simA_cons sim_str (simA_cons sim_str simA_nil rfl) rfl) rfl) rfl) rfl) rfl) rfl) rfl)) rfl (.inl rfl))
      (sb_one (ss_ret (sim_if (simT_cmp (op_eqD (hr.mono (by decide) : Room 0 _).units) os_eq mono_fEq (sim_var (i := 3) rfl (.inl rfl) (by decide) (by decide)) sim_int (nomark _)) (sim_tup (simA_cons (sim_ix ix_seq os_ix mono_fIx (sim_var (i := 4) rfl (.inl rfl) (by decide) (by decide)) sim_int (fun _ _ => rfl)) (simA_cons (sim_xf hz hf rfl T.xf_index (sim_var (i := 1) rfl (.inl rfl) (by decide) (by decide)) rfl) simA_nil rfl) rfl)) (sim_tup (simA_cons (sim_ix ix_seq os_ix mono_fIx (sim_var (i := 4) rfl (.inl rfl) (by decide) (by decide)) (sim_var (i := 3) rfl (.inl rfl) (by decide) (by decide)) (fun _ _ => rfl)) simA_nil rfl)))))))))))
theorem mono_law_raised_su (P : Program) (w : World) {Γ : Gam} {mg : Str → Option Value} (T : Txt Γ mg) : MonoS d_law_raised_su := (sim_law_raised_su (P := P) (w := w) (base := {}) T 0 .none callerA [] {} (fun _ => none) 0 { cls := .ref (Γ.cl Str.empty), dict := none, data := .fields #[] } Str.empty none [] (room_c (by decide) _) ⟨rfl, rfl⟩ ⟨_, rfl⟩).mono
abbrev N_law_over : List Str := ["_law_row", "_law_pieces", "_law_x", "_law_y", "_law_x2", "_law_y2"]
theorem sc_law_over : FnScope N_law_over ["_law_row", "_law_pieces"] (defScope s_law_over) := ⟨rfl, rfl, rfl, by decide +kernel, rfl, by decide +kernel, by decide +kernel⟩
def b_law_over : Ds := (dThen (dAsg (dApp g_law_pick [(dVar 0), (dVar 1)]) (.tp [(.nm 2), (.nm 3), (.nm 4), (.nm 5)])) (dRet (dApp g_law_pick [(dVar 0), (dApp fLst [(dApp fTup [(dVar 2), (dVar 3), (dVar 4), (dVar 5)]), (dApp fTup [(dVar 4), (dVar 5), (dVar 2), (dVar 3)])])])))
def g_law_over : List D → Sto → Rt := runD 6 b_law_over
theorem den_law_over {P : Program} {w : World} {Γ : Gam} {mg : Str → Option Value} {base : Heap} (T : Txt Γ mg) : Den P w Γ mg base 3 "_law_over" 2 g_law_over :=
  den_of (k := 2) T.F__law_over sc_law_over (db := b_law_over) (fun f cdv A outer s H E hr =>
    (sb_cons (ss_asg (sim_callD (den_law_pick T) rfl (hr.mono (by decide)) rfl hx_def (simA_cons (sim_var (i := 0) rfl (.inl rfl) (by decide) (by decide)) (simA_cons (sim_var (i := 1) rfl (.inl rfl) (by decide) (by decide)) simA_nil rfl) rfl) rfl rfl (by decide) rfl rfl) (sg_tup rfl rfl (sgs_cons (sg_name (i := 2) sc_law_over.nd rfl (.inl rfl) (.inr rfl)) (sgs_cons (sg_name (i := 3) sc_law_over.nd rfl (.inl rfl) (.inr rfl)) (sgs_cons (sg_name (i := 4) sc_law_over.nd rfl (.inl rfl) (.inr rfl)) (sgs_cons (sg_name (i := 5) sc_law_over.nd rfl (.inl rfl) (.inr rfl)) sgs_nil rfl) rfl) rfl) rfl) rfl rfl rfl) rfl rfl rfl)
      (sb_one (ss_ret (sim_callD (den_law_pick T) rfl (hr.mono (by decide)) rfl hx_def (simA_cons (sim_var (i := 0) rfl (.inl rfl) (by decide) (by decide)) (simA_cons (sim_lst (simA_cons (sim_tup (simA_cons (sim_var (i := 2) rfl (.inl rfl) (by decide) (by decide)) (simA_cons (sim_var (i := 3) rfl (.inl rfl) (by decide) (by decide)) (simA_cons (sim_var (i := 4) rfl (.inl rfl) (by decide) (by decide)) (simA_cons (sim_var (i := 5) rfl (.inl rfl) (by decide) (by decide)) simA_nil rfl) rfl) rfl) rfl)) (simA_cons (sim_tup (simA_cons (sim_var (i := 4) rfl (.inl rfl) (by decide) (by decide)) (simA_cons (sim_var (i := 5) rfl (.inl rfl) (by decide) (by decide)) (simA_cons (sim_var (i := 2) rfl (.inl rfl) (by decide) (by decide)) (simA_cons (sim_var (i := 3) rfl (.inl rfl) (by decide) (by decide)) simA_nil rfl) rfl) rfl) rfl)) simA_nil rfl) rfl)) simA_nil rfl) rfl) rfl rfl (by decide) rfl rfl)))))
abbrev Nlaw : List Str := ["_law_script", "_law_row", "_law_odd", "_law_pieces", "_law_bad", "_law_k", "_law_piece_here", "_law_kind", "_law_is_bad", "_law_due", "_law_good", "_law_one"]
theorem sclaw : FnScope Nlaw ["_law_script"] (defScope slaw) := ⟨rfl, rfl, rfl, by decide +kernel, rfl, by decide +kernel, by decide +kernel⟩
def blaw : Ds := (dThen (dAsg (dApp fLst [(dVar 0), (dC (.int 0)), (dC (.int 0)), (dC (.int 0))]) (.nm 1)) (dThen (dAsg (dApp fLst [(dApp fTup []), (dApp fTup [(dC (.int 0)), (dC (.int 0)), (dC (.int 5))]), (dApp fTup [(dC (.int 0)), (dC (.int 0)), (dC (.int 5)), (dC (.int 5)), (dC (.int 5))]), (dApp fTup [(dC (.int 0)), (dC (.int 0)), (dC (.int 0)), (dC (.int 0))]), (dApp fTup [(dC (.int 7)), (dC (.int 9)), (dC (.int 7)), (dC (.int 9))]), (dApp fTup [(dUn fNeg (dC (.int 1))), (dC (.int 0)), (dC (.int 5)), (dC (.int 5))]), (dApp fTup [(dC (.int 0)), (dC (.int 61)), (dC (.int 5)), (dC (.int 5))]), (dApp fTup [(dC (.bl true)), (dC (.int 0)), (dC (.int 5)), (dC (.int 5))])]) (.nm 2)) (dThen (dAsg (dApp fTup [(dApp fLst []), (dC .non)]) (.tp [(.nm 3), (.nm 4)])) (dThen (dFor (dAppI fRange [(dApp g_law_pick [(dVar 1), (dApp fLst [(dC (.int 1)), (dC (.int 3)), (dC (.int 6)), (dC (.int 8))])])]) (.nm 5) (dThen (dAsg (dApp g_law_piece [(dVar 1), (dC (.int 60))]) (.nm 6)) (dThen (dAsg (dApp g_law_taken [(dVar 1), (dC (.int 9))]) (.nm 7)) (dThen (dIfS (dBin fEq (dVar 7) (dC (.int 0))) (dAsg (dApp g_law_pick [(dVar 1), (dVar 2)]) (.nm 6)) dNext) (dThen (dIfS (dAnd (dBin fEq (dVar 7) (dC (.int 1))) (dAnd (dBin fNe (dVar 3) (dApp fLst [])) (dBin fIs (dVar 4) (dC .non)))) (dAsg (dApp g_law_over [(dVar 1), (dVar 3)]) (.nm 6)) dNext) (dThen (dAsg (dOr (dBin fEq (dVar 7) (dC (.int 0))) (dAnd (dBin fIs (dVar 4) (dC .non)) (dBin fNe (dLc (dSeq (dVar 3)) (.nm 11) (dBin fIs (dApp g_law_common [(dVar 11), (dVar 6)]) (dC .non)) (dVar 11) [11]) (dApp fLst [])))) (.nm 8)) (dThen (dAsg (dIf (dAnd (dBin fIs (dVar 4) (dC .non)) (dOr (dUn fTru (dVar 8)) (dBin fEq (dVar 5) (dC (.int 6))))) (dVar 5) (dVar 4)) (.nm 4)) (dExpr (dMeth "list" fAppend (dVar 3) [(dVar 6)]))))))))) (dThen (dAsg (dIf (dBin fIsNot (dVar 4) (dC .non)) (dApp fTup [(dC (.str "drawing")), (dVar 4)]) (dC .non)) (.nm 9)) (dThen (dIfS (dBin fNe (dRaised [("LineError", true), ("InvalidDrawing", true), ("UnknownPiece", true), ("SamePiece", true), ("InvalidHalf", true), ("InvalidNumber", true), ("InvalidPiece", true), ("UnlikeCounts", true), ("InvalidPoint", true)] 5 1 d_law_raised_su (dApp (fMake "Drawing" gDrawing___init__) [(dApp fTuple [(dVar 3)])])) (dVar 9)) (dRet (dC (.bl false))) dNext) (dThen (dAsg (dApp fTuple [(dIf (dBin fIsNot (dVar 4) (dC .non)) (dSl (dVar 3) none (some (dVar 4))) (dVar 3))]) (.nm 10)) (dThen (dAsg (dApp (fMake "Drawing" gDrawing___init__) [(dVar 10)]) (.nm 11)) (dThen (dIfS (dOr (dBin fNe (dUn (fFld cs_pieces "pieces") (dVar 11)) (dVar 10)) (dOr (dBin fNe (dApp (fLenO "Drawing" gDrawing___len__) [(dVar 11)]) (dApp (fLenO "Drawing" gDrawing___len__) [(dVar 10)])) (dBin (fNeO "Drawing" gDrawing___eq__) (dVar 11) (dApp (fMake "Drawing" gDrawing___init__) [(dVar 10)])))) (dRet (dC (.bl false))) dNext) (dRet (dOr (dBin fEq (dVar 10) (dApp fTup [])) (dAnd (dBin (fNeO "Drawing" gDrawing___eq__) (dVar 11) (dApp (fMake "Drawing" gDrawing___init__) [(dSl (dVar 10) none (some (dUn fNeg (dC (.int 1)))))])) (dBin (fNeO "Drawing" gDrawing___eq__) (dVar 11) (dApp (fMake "Drawing" gDrawing___init__) [(dBin fAdd (dSl (dVar 10) none (some (dUn fNeg (dC (.int 1))))) (dApp fTup [(dBin fAdd (dSl (dBin fIx (dVar 10) (dUn fNeg (dC (.int 1)))) (some (dC (.int 2))) none) (dSl (dBin fIx (dVar 10) (dUn fNeg (dC (.int 1)))) none (some (dC (.int 2)))))]))]))))))))))))))
def glaw : List D → Sto → Rt := runD 12 blaw
theorem denlaw {P : Program} {w : World} {Γ : Gam} {mg : Str → Option Value} {base : Heap} (T : Txt Γ mg) {c P0 : Addr} {f : Addr} {oc : Value} {od : Option Addr} {kV doc pm : Value} {an : Option Addr} {ct : Value} {osl : Array (Option Value)} (lk : Γ.K.lookup f = some ⟨oc, od, .func (PySem.W.fnOf "law" "law" (defArgs slaw) (defBody slaw) (defScope slaw) .none kV doc pm an (.ref c) ct), osl⟩) (hcd : PySem.W.codeIn Γ.K (.ref c) "law" = true) (TB : LamX.TabB base mg c P0) (hmT : (P0, (("law" : Str) ++ ".<locals>.") ++ "<lambda>") ∈ Γ.T) (hu : ∀ p ∈ Γ.T, p.1 = P0 → p.2 = (("law" : Str) ++ ".<locals>.") ++ "<lambda>") :
    FnOk P w Γ.K mg base (L2.CX P w) 8 f (PySem.W.fnOf "law" "law" (defArgs slaw) (defBody slaw) (defScope slaw) .none kV doc pm an (.ref c) ct) ["_law_script"] (spD Γ 1 glaw) :=
  den_ofL (k := 7) lk hcd sclaw (db := blaw) (fun A outer s H E hr =>
    (sb_cons (ss_set (i := 1) sclaw.nd rfl (.inl rfl) (sim_lst (simA_cons (sim_var (i := 0) rfl (.inl rfl) (by decide) (by decide)) (simA_cons sim_int (simA_cons sim_int (simA_cons sim_int simA_nil rfl) rfl) rfl) rfl)) rfl (.inl rfl))
      (sb_cons (ss_set (i := 2) sclaw.nd rfl (.inl rfl) (sim_lst (simA_cons (sim_tup simA_nil) (simA_cons (sim_tup (simA_cons sim_int (simA_cons sim_int (simA_cons sim_int simA_nil rfl) rfl) rfl)) (simA_cons (sim_tup (simA_cons sim_int (simA_cons sim_int (simA_cons sim_int (simA_cons sim_int (simA_cons sim_int simA_nil rfl) rfl) rfl) rfl) rfl)) (simA_cons (sim_tup (simA_cons sim_int (simA_cons sim_int (simA_cons sim_int (simA_cons sim_int simA_nil rfl) rfl) rfl) rfl)) (simA_cons (sim_tup (simA_cons sim_int (simA_cons sim_int (simA_cons sim_int (simA_cons sim_int simA_nil rfl) rfl) rfl) rfl)) (simA_cons (sim_tup (simA_cons (sim_neg sim_int) (simA_cons sim_int (simA_cons sim_int (simA_cons sim_int simA_nil rfl) rfl) rfl) rfl)) (simA_cons (sim_tup (simA_cons sim_int (simA_cons sim_int (simA_cons sim_int (simA_cons sim_int simA_nil rfl) rfl) rfl) rfl)) (simA_cons (sim_tup (simA_cons sim_bl (simA_cons sim_int (simA_cons sim_int (simA_cons sim_int simA_nil rfl) rfl) rfl) rfl)) simA_nil rfl) rfl) rfl) rfl) rfl) rfl) rfl) rfl)) rfl (.inl rfl))
      (sb_cons (ss_asg (sim_tup (simA_cons (sim_lst simA_nil) (simA_cons sim_non simA_nil rfl) rfl)) (sg_tup rfl rfl (sgs_cons (sg_name (i := 3) sclaw.nd rfl (.inr rfl) (.inl rfl)) (sgs_cons (sg_name (i := 4) sclaw.nd rfl (.inl rfl) (.inr rfl)) sgs_nil rfl) rfl) rfl rfl rfl) rfl rfl rfl)
      (sb_cons (ss_for hp_def rfl (si_range1 rfl T.z_range (simA_cons (sim_callD (den_law_pick T) rfl (hr.mono (by decide)) rfl hx_def (simA_cons (sim_var (i := 1) rfl (.inl rfl) (by decide) (by decide)) (simA_cons (sim_lst (simA_cons sim_int (simA_cons sim_int (simA_cons sim_int (simA_cons sim_int simA_nil rfl) rfl) rfl) rfl)) simA_nil rfl) rfl) rfl rfl (by decide) rfl rfl) simA_nil rfl) rfl rfl) (sg_name (i := 5) sclaw.nd rfl (.inl rfl) (.inr rfl)) (sb_cons (ss_set (i := 6) sclaw.nd rfl (.inr rfl) (sim_callD (den_law_piece T) rfl (hr.mono (by decide)) rfl hx_def (simA_cons (sim_var (i := 1) rfl (.inl rfl) (by decide) (by decide)) (simA_cons sim_int simA_nil rfl) rfl) rfl rfl (by decide) rfl rfl) rfl (.inl rfl))
      (sb_cons (ss_set (i := 7) sclaw.nd rfl (.inl rfl) (sim_callD (den_law_taken T) rfl (hr.mono (by decide)) rfl hx_def (simA_cons (sim_var (i := 1) rfl (.inl rfl) (by decide) (by decide)) (simA_cons sim_int simA_nil rfl) rfl) rfl rfl (by decide) rfl rfl) rfl (.inl rfl))
      (sb_cons (ss_if (simT_cmp (op_eqD (hr.mono (by decide) : Room 0 _).units) os_eq mono_fEq (sim_var (i := 7) rfl (.inl rfl) (by decide) (by decide)) sim_int (nomark _)) (sb_one (ss_set (i := 6) sclaw.nd rfl (.inr rfl) (sim_callD (den_law_pick T) rfl (hr.mono (by decide)) rfl hx_def (simA_cons (sim_var (i := 1) rfl (.inl rfl) (by decide) (by decide)) (simA_cons (sim_var (i := 2) rfl (.inl rfl) (by decide) (by decide)) simA_nil rfl) rfl) rfl rfl (by decide) rfl rfl) rfl (.inl rfl))) sb_nil)
      (sb_cons (ss_if (SimW.t (simW_and (simT_cmp (op_eqD (hr.mono (by decide) : Room 0 _).units) os_eq mono_fEq (sim_var (i := 7) rfl (.inl rfl) (by decide) (by decide)) sim_int (nomark _)) (simW_and (simT_cmp (op_neD (hr.mono (by decide) : Room 0 _).units) os_ne mono_fNe (sim_var (i := 3) rfl (.inr (.inl rfl)) (by decide) (by decide)) (sim_lst simA_nil) (nomark _)) (simW_and1 (simT_cmp op_isN os_is mono_fIs (sim_var (i := 4) rfl (.inl rfl) (by decide) (by decide)) sim_non (nomark _)))))) (sb_one (ss_set (i := 6) sclaw.nd rfl (.inr rfl) (sim_callD (den_law_over T) rfl (hr.mono (by decide)) rfl hx_def (simA_cons (sim_var (i := 1) rfl (.inl rfl) (by decide) (by decide)) (simA_cons (sim_var (i := 3) rfl (.inr (.inl rfl)) (by decide) (by decide)) simA_nil rfl) rfl) rfl rfl (by decide) rfl rfl) rfl (.inl rfl))) sb_nil)
      (sb_cons (ss_set (i := 8) sclaw.nd rfl (.inl rfl) (sim_or (sim_cmp (op_eqD (hr.mono (by decide) : Room 0 _).units) os_eq mono_fEq (sim_var (i := 7) rfl (.inl rfl) (by decide) (by decide)) sim_int (nomark _)) (sim_one (sim_and (sim_cmp op_isN os_is mono_fIs (sim_var (i := 4) rfl (.inl rfl) (by decide) (by decide)) sim_non (nomark _)) (sim_one (sim_cmp (op_neD (hr.mono (by decide) : Room 0 _).units) os_ne mono_fNe (sim_lc1 (own := [("_law_one", 11)]) rfl sclaw.nd (si_seq rfl (sim_var (i := 3) rfl (.inr (.inl rfl)) (by decide) (by decide))) (blkOk_by (own := [("_law_one", 11)]) (N := Nlaw) (sc := defScope slaw) (by decide +kernel)) (by decide) (fun _ _ _ _ _ => (sg_name (i := 11) sclaw.nd rfl (.inl rfl) (.inr rfl))) (fun _ _ _ _ _ => (simT_cmp op_isN os_is mono_fIs (sim_callD (den_law_common T) rfl (hr.mono (by decide)) rfl hx_no (simA_cons (sim_var (i := 11) rfl (.inl rfl) (by decide) (by decide)) (simA_cons (sim_var (i := 6) rfl (by first | exact .inr (.inl rfl) | exact .inr (.inr rfl) | exact .inl rfl) (by decide) (by decide)) simA_nil rfl) rfl) rfl rfl (by decide) rfl rfl) sim_non (nomark _))) (fun _ _ _ _ _ => (sim_var (i := 11) rfl (.inl rfl) (by decide) (by decide))) (fun _ => rfl)) (sim_lst simA_nil) (nomark _)))))) rfl (.inl rfl))
      (sb_cons (ss_set (i := 4) sclaw.nd rfl (.inl rfl) (sim_if (SimW.t (simW_and (simT_cmp op_isN os_is mono_fIs (sim_var (i := 4) rfl (.inl rfl) (by decide) (by decide)) sim_non (nomark _)) (simW_and1 (SimW.t (simW_or (sim_tru rfl (sim_var (i := 8) rfl (.inl rfl) (by decide) (by decide)) (fun _ => rfl)) (simW_or1 (simT_cmp (op_eqD (hr.mono (by decide) : Room 0 _).units) os_eq mono_fEq (sim_var (i := 5) rfl (.inl rfl) (by decide) (by decide)) sim_int (nomark _)))))))) (sim_var (i := 5) rfl (.inl rfl) (by decide) (by decide)) (sim_var (i := 4) rfl (.inl rfl) (by decide) (by decide))) rfl (.inl rfl))
      (sb_one (ss_expr (sim_meth rfl PySem.F.plainAttrs_list PySem.F.slot_list_append PySem.F.type_list_append mt_append ms_append mono_fAppend (sim_var (i := 3) rfl (.inr (.inl rfl)) (by decide) (by decide)) (simA_cons (sim_var (i := 6) rfl (.inr (.inl rfl)) (by decide) (by decide)) simA_nil rfl) rfl rfl rfl rfl rfl) rfl)))))))) (fun _ => rfl))
      (sb_cons (ss_set (i := 9) sclaw.nd rfl (.inl rfl) (sim_if (simT_cmp op_notN os_isNot mono_fIsNot (sim_var (i := 4) rfl (.inl rfl) (by decide) (by decide)) sim_non (nomark _)) (sim_tup (simA_cons sim_str (simA_cons (sim_var (i := 4) rfl (.inl rfl) (by decide) (by decide)) simA_nil rfl) rfl)) sim_non) rfl (.inl rfl))
      (sb_cons (ss_if (simT_cmp (op_neD (hr.mono (by decide) : Room 0 _).units) os_ne mono_fNe (sim_raised (k := 5) (Ng := N_law_raised) (i := 1) (b₀ := b0_law_raised) (suite := su_law_raised) T.F__law_raised sc_law_raised rfl T.ex0 T.em_LineError rfl rfl (.inl rfl) rfl rfl rfl T.g_LineError (by decide) (by decide) (by decide) (fun _ => rfl) (fun _ => rfl) (mono_law_raised_su P w T) (fun g cdg A outer s H a oe c d pn hr hz hf => sim_law_raised_su T g cdg A outer s H a oe c d pn hr hz hf) rfl (by decide) TB rfl hmT hu (hr.mono (by decide)) (lamS_by (sc := defScope slaw) (by decide +kernel)) rfl (fun _ _ _ _ _ => rfl) (fun A outer s H E f c' hr => (sim_makeD (n := 1) (denDrawing___init__ T) T.k_Drawing rfl (hr.mono (by decide)) rfl hx_lam (simA_cons (sim_callTy call_tuple_of cs_tuple mono_fTuple rfl T.z_tuple (by decide +kernel) (simA_cons (sim_var (i := 3) rfl (by first | exact .inr (.inl rfl) | exact .inr (.inr rfl) | exact .inl rfl) (by decide) (by decide)) simA_nil rfl) (by decide) (by decide) rfl rfl) simA_nil rfl) rfl (by decide) rfl rfl))) (sim_var (i := 9) rfl (.inl rfl) (by decide) (by decide)) (nomark _)) (sb_one (ss_ret sim_bl)) sb_nil)
      (sb_cons (ss_set (i := 10) sclaw.nd rfl (.inl rfl) (sim_callTy call_tuple_of cs_tuple mono_fTuple rfl T.z_tuple (by decide +kernel) (simA_cons (sim_if (simT_cmp op_notN os_isNot mono_fIsNot (sim_var (i := 4) rfl (.inl rfl) (by decide) (by decide)) sim_non (nomark _)) (sim_slice rfl (sim_var (i := 3) rfl (.inr (.inl rfl)) (by decide) (by decide)) SimO.none (SimO.some (sim_var (i := 4) rfl (.inl rfl) (by decide) (by decide)))) (sim_var (i := 3) rfl (.inr (.inl rfl)) (by decide) (by decide))) simA_nil rfl) (by decide) (by decide) rfl rfl) rfl (.inl rfl))
      (sb_cons (ss_set (i := 11) sclaw.nd rfl (.inl rfl) (sim_makeD (n := 1) (denDrawing___init__ T) T.k_Drawing rfl (hr.mono (by decide)) rfl hx_def (simA_cons (sim_var (i := 10) rfl (.inl rfl) (by decide) (by decide)) simA_nil rfl) rfl (by decide) rfl rfl) rfl (.inl rfl))
      (sb_cons (ss_if (SimW.t (simW_or (simT_cmp (op_neD (hr.mono (by decide) : Room 0 _).units) os_ne mono_fNe (sim_fld rfl T.fld_pieces (sim_var (i := 11) rfl (.inl rfl) (by decide) (by decide)) rfl) (sim_var (i := 10) rfl (.inl rfl) (by decide) (by decide)) (nomark _)) (simW_or (simT_cmp (op_neD (hr.mono (by decide) : Room 0 _).units) os_ne mono_fNe (sim_lenO (denDrawing___len__ T) rfl (hr.mono (by decide)) rfl T.z_len (simA_cons (sim_var (i := 11) rfl (.inl rfl) (by decide) (by decide)) simA_nil rfl) rfl rfl) (sim_lenO (denDrawing___len__ T) rfl (hr.mono (by decide)) rfl T.z_len (simA_cons (sim_var (i := 10) rfl (.inl rfl) (by decide) (by decide)) simA_nil rfl) rfl rfl) (nomark _)) (simW_or1 (simT_neO (denDrawing___eq__ T) T.oe_Drawing rfl (hr.mono (by decide)) (sim_var (i := 11) rfl (.inl rfl) (by decide) (by decide)) (sim_makeD (n := 1) (denDrawing___init__ T) T.k_Drawing rfl (hr.mono (by decide)) rfl hx_def (simA_cons (sim_var (i := 10) rfl (.inl rfl) (by decide) (by decide)) simA_nil rfl) rfl (by decide) rfl rfl) (nomark _)))))) (sb_one (ss_ret sim_bl)) sb_nil)
      (sb_one (ss_ret (sim_or (sim_cmp (op_eqD (hr.mono (by decide) : Room 0 _).units) os_eq mono_fEq (sim_var (i := 10) rfl (.inl rfl) (by decide) (by decide)) (sim_tup simA_nil) (nomark _)) (sim_one (sim_and (sim_neO (denDrawing___eq__ T) T.oe_Drawing rfl (hr.mono (by decide)) (sim_var (i := 11) rfl (.inl rfl) (by decide) (by decide)) (sim_makeD (n := 1) (denDrawing___init__ T) T.k_Drawing rfl (hr.mono (by decide)) rfl hx_def (simA_cons (sim_slice rfl (sim_var (i := 10) rfl (.inl rfl) (by decide) (by decide)) SimO.none (SimO.some (sim_neg sim_int))) simA_nil rfl) rfl (by decide) rfl rfl) (nomark _)) (sim_one (sim_neO (denDrawing___eq__ T) T.oe_Drawing rfl (hr.mono (by decide)) (sim_var (i := 11) rfl (.inl rfl) (by decide) (by decide)) (sim_makeD (n := 1) (denDrawing___init__ T) T.k_Drawing rfl (hr.mono (by decide)) rfl hx_def (simA_cons (sim_op op_addD os_add mono_fAdd (sim_slice rfl (sim_var (i := 10) rfl (.inl rfl) (by decide) (by decide)) SimO.none (SimO.some (sim_neg sim_int))) (sim_tup (simA_cons (sim_op op_addD os_add mono_fAdd (sim_slice rfl (sim_ix ix_seq os_ix mono_fIx (sim_var (i := 10) rfl (.inl rfl) (by decide) (by decide)) (sim_neg sim_int) (fun _ _ => rfl)) (SimO.some sim_int) SimO.none) (sim_slice rfl (sim_ix ix_seq os_ix mono_fIx (sim_var (i := 10) rfl (.inl rfl) (by decide) (by decide)) (sim_neg sim_int) (fun _ _ => rfl)) SimO.none (SimO.some sim_int))) simA_nil rfl))) simA_nil rfl) rfl (by decide) rfl rfl) (nomark _))))))))))))))))))
theorem all_mk (hs : Says glaw) {l : PySem.W.OpenLaw} {w : World} {K : PySem.W.Frag} {h : Heap} {mg : Str → Option Value} {fa : Addr} {C_LineError C_InvalidDrawing C_UnknownPiece C_SamePiece C_InvalidHalf C_InvalidNumber C_InvalidPiece C_UnlikeCounts C_InvalidPoint C_Drawing f_way_of f_shared_stretch f_cross f_way_between f_lies_along f_lies_along_any f_is_number f_is_piece f_InvalidDrawing___init__ f_Drawing___init__ f_Drawing___eq__ f_Drawing___len__ f__law_taken f__law_pick f__law_number f__law_piece f__law_is_on f__law_common f__law_raised f__law_over f_law cL P0 : Addr} {t_GREATEST_COORDINATE t_MOST_PIECES : Tok} {od_way_of an_way_of : Option Addr} {sl_way_of : Array (Option Value)} {oc_way_of kV_way_of dc_way_of pm_way_of ct_way_of cd_way_of : Value}
    {od_shared_stretch an_shared_stretch : Option Addr} {sl_shared_stretch : Array (Option Value)} {oc_shared_stretch kV_shared_stretch dc_shared_stretch pm_shared_stretch ct_shared_stretch cd_shared_stretch : Value}
    {od_cross an_cross : Option Addr} {sl_cross : Array (Option Value)} {oc_cross kV_cross dc_cross pm_cross ct_cross cd_cross : Value}
    {od_way_between an_way_between : Option Addr} {sl_way_between : Array (Option Value)} {oc_way_between kV_way_between dc_way_between pm_way_between ct_way_between cd_way_between : Value}
    {od_lies_along an_lies_along : Option Addr} {sl_lies_along : Array (Option Value)} {oc_lies_along kV_lies_along dc_lies_along pm_lies_along ct_lies_along cd_lies_along : Value}
    {od_lies_along_any an_lies_along_any : Option Addr} {sl_lies_along_any : Array (Option Value)} {oc_lies_along_any kV_lies_along_any dc_lies_along_any pm_lies_along_any ct_lies_along_any cd_lies_along_any : Value}
    {od_is_number an_is_number : Option Addr} {sl_is_number : Array (Option Value)} {oc_is_number kV_is_number dc_is_number pm_is_number ct_is_number cd_is_number : Value}
    {od_is_piece an_is_piece : Option Addr} {sl_is_piece : Array (Option Value)} {oc_is_piece kV_is_piece dc_is_piece pm_is_piece ct_is_piece cd_is_piece : Value}
    {od_InvalidDrawing___init__ an_InvalidDrawing___init__ : Option Addr} {sl_InvalidDrawing___init__ : Array (Option Value)} {oc_InvalidDrawing___init__ kV_InvalidDrawing___init__ dc_InvalidDrawing___init__ pm_InvalidDrawing___init__ ct_InvalidDrawing___init__ cd_InvalidDrawing___init__ : Value}
    {nm_InvalidDrawing q_InvalidDrawing : Str} {N_InvalidDrawing : Addr} {bs_InvalidDrawing bm_InvalidDrawing : List Value} {sn_InvalidDrawing : List Str} {sub_InvalidDrawing : List Value} {ab_InvalidDrawing : Bool} {col_InvalidDrawing : Option Bool} {dd_InvalidDrawing : Option Addr} {k0_InvalidDrawing k1_InvalidDrawing k2_InvalidDrawing k3_InvalidDrawing k5_InvalidDrawing : Option Value}
    {od_Drawing___init__ an_Drawing___init__ : Option Addr} {sl_Drawing___init__ : Array (Option Value)} {oc_Drawing___init__ kV_Drawing___init__ dc_Drawing___init__ pm_Drawing___init__ ct_Drawing___init__ cd_Drawing___init__ : Value}
    {od_Drawing___eq__ an_Drawing___eq__ : Option Addr} {sl_Drawing___eq__ : Array (Option Value)} {oc_Drawing___eq__ kV_Drawing___eq__ dc_Drawing___eq__ pm_Drawing___eq__ ct_Drawing___eq__ cd_Drawing___eq__ : Value}
    {od_Drawing___len__ an_Drawing___len__ : Option Addr} {sl_Drawing___len__ : Array (Option Value)} {oc_Drawing___len__ kV_Drawing___len__ dc_Drawing___len__ pm_Drawing___len__ ct_Drawing___len__ cd_Drawing___len__ : Value}
    {od__law_taken an__law_taken : Option Addr} {sl__law_taken : Array (Option Value)} {oc__law_taken kV__law_taken dc__law_taken pm__law_taken ct__law_taken cd__law_taken : Value}
    {od__law_pick an__law_pick : Option Addr} {sl__law_pick : Array (Option Value)} {oc__law_pick kV__law_pick dc__law_pick pm__law_pick ct__law_pick cd__law_pick : Value}
    {od__law_number an__law_number : Option Addr} {sl__law_number : Array (Option Value)} {oc__law_number kV__law_number dc__law_number pm__law_number ct__law_number cd__law_number : Value}
    {od__law_piece an__law_piece : Option Addr} {sl__law_piece : Array (Option Value)} {oc__law_piece kV__law_piece dc__law_piece pm__law_piece ct__law_piece cd__law_piece : Value}
    {od__law_is_on an__law_is_on : Option Addr} {sl__law_is_on : Array (Option Value)} {oc__law_is_on kV__law_is_on dc__law_is_on pm__law_is_on ct__law_is_on cd__law_is_on : Value}
    {od__law_common an__law_common : Option Addr} {sl__law_common : Array (Option Value)} {oc__law_common kV__law_common dc__law_common pm__law_common ct__law_common cd__law_common : Value}
    {od__law_raised an__law_raised : Option Addr} {sl__law_raised : Array (Option Value)} {oc__law_raised kV__law_raised dc__law_raised pm__law_raised ct__law_raised cd__law_raised : Value}
    {od__law_over an__law_over : Option Addr} {sl__law_over : Array (Option Value)} {oc__law_over kV__law_over dc__law_over pm__law_over ct__law_over cd__law_over : Value}
    {od_law an_law : Option Addr} {sl_law : Array (Option Value)} {oc_law kV_law dc_law pm_law ct_law : Value} (X : K.In h) (G : h.Ns mainGlobals mg) (hfa : mg "law" = some (.ref fa)) (hP : h.get? P0 = some { cls := .none, data := .fields #[] })
    (a_LineError : PySem.W.nsIn K mainGlobals "LineError" = some (some (.ref C_LineError)))
    (a_InvalidDrawing : PySem.W.nsIn K mainGlobals "InvalidDrawing" = some (some (.ref C_InvalidDrawing)))
    (a_UnknownPiece : PySem.W.nsIn K mainGlobals "UnknownPiece" = some (some (.ref C_UnknownPiece)))
    (a_SamePiece : PySem.W.nsIn K mainGlobals "SamePiece" = some (some (.ref C_SamePiece)))
    (a_InvalidHalf : PySem.W.nsIn K mainGlobals "InvalidHalf" = some (some (.ref C_InvalidHalf)))
    (a_InvalidNumber : PySem.W.nsIn K mainGlobals "InvalidNumber" = some (some (.ref C_InvalidNumber)))
    (a_InvalidPiece : PySem.W.nsIn K mainGlobals "InvalidPiece" = some (some (.ref C_InvalidPiece)))
    (a_UnlikeCounts : PySem.W.nsIn K mainGlobals "UnlikeCounts" = some (some (.ref C_UnlikeCounts)))
    (a_InvalidPoint : PySem.W.nsIn K mainGlobals "InvalidPoint" = some (some (.ref C_InvalidPoint)))
    (a_Drawing : PySem.W.nsIn K mainGlobals "Drawing" = some (some (.ref C_Drawing)))
    (a_f_way_of : PySem.W.nsIn K mainGlobals "way_of" = some (some (.ref f_way_of)))
    (l_way_of : K.lookup f_way_of = some ⟨oc_way_of, od_way_of, .func (PySem.W.fnOf "way_of" "way_of" (defArgs sway_of) (defBody sway_of) (defScope sway_of) .none kV_way_of dc_way_of pm_way_of an_way_of cd_way_of ct_way_of), sl_way_of⟩)
    (c_way_of : PySem.W.codeIn K cd_way_of "way_of" = true)
    (k_way_of : PySem.W.keepIn K (.ref f_way_of) = true)
    (a_f_shared_stretch : PySem.W.nsIn K mainGlobals "shared_stretch" = some (some (.ref f_shared_stretch)))
    (l_shared_stretch : K.lookup f_shared_stretch = some ⟨oc_shared_stretch, od_shared_stretch, .func (PySem.W.fnOf "shared_stretch" "shared_stretch" (defArgs sshared_stretch) (defBody sshared_stretch) (defScope sshared_stretch) .none kV_shared_stretch dc_shared_stretch pm_shared_stretch an_shared_stretch cd_shared_stretch ct_shared_stretch), sl_shared_stretch⟩)
    (c_shared_stretch : PySem.W.codeIn K cd_shared_stretch "shared_stretch" = true)
    (k_shared_stretch : PySem.W.keepIn K (.ref f_shared_stretch) = true)
    (a_f_cross : PySem.W.nsIn K mainGlobals "cross" = some (some (.ref f_cross)))
    (l_cross : K.lookup f_cross = some ⟨oc_cross, od_cross, .func (PySem.W.fnOf "cross" "cross" (defArgs scross) (defBody scross) (defScope scross) .none kV_cross dc_cross pm_cross an_cross cd_cross ct_cross), sl_cross⟩)
    (c_cross : PySem.W.codeIn K cd_cross "cross" = true)
    (k_cross : PySem.W.keepIn K (.ref f_cross) = true)
    (a_f_way_between : PySem.W.nsIn K mainGlobals "way_between" = some (some (.ref f_way_between)))
    (l_way_between : K.lookup f_way_between = some ⟨oc_way_between, od_way_between, .func (PySem.W.fnOf "way_between" "way_between" (defArgs sway_between) (defBody sway_between) (defScope sway_between) .none kV_way_between dc_way_between pm_way_between an_way_between cd_way_between ct_way_between), sl_way_between⟩)
    (c_way_between : PySem.W.codeIn K cd_way_between "way_between" = true)
    (k_way_between : PySem.W.keepIn K (.ref f_way_between) = true)
    (a_f_lies_along : PySem.W.nsIn K mainGlobals "lies_along" = some (some (.ref f_lies_along)))
    (l_lies_along : K.lookup f_lies_along = some ⟨oc_lies_along, od_lies_along, .func (PySem.W.fnOf "lies_along" "lies_along" (defArgs slies_along) (defBody slies_along) (defScope slies_along) .none kV_lies_along dc_lies_along pm_lies_along an_lies_along cd_lies_along ct_lies_along), sl_lies_along⟩)
    (c_lies_along : PySem.W.codeIn K cd_lies_along "lies_along" = true)
    (k_lies_along : PySem.W.keepIn K (.ref f_lies_along) = true)
    (a_f_lies_along_any : PySem.W.nsIn K mainGlobals "lies_along_any" = some (some (.ref f_lies_along_any)))
    (l_lies_along_any : K.lookup f_lies_along_any = some ⟨oc_lies_along_any, od_lies_along_any, .func (PySem.W.fnOf "lies_along_any" "lies_along_any" (defArgs slies_along_any) (defBody slies_along_any) (defScope slies_along_any) .none kV_lies_along_any dc_lies_along_any pm_lies_along_any an_lies_along_any cd_lies_along_any ct_lies_along_any), sl_lies_along_any⟩)
    (c_lies_along_any : PySem.W.codeIn K cd_lies_along_any "lies_along_any" = true)
    (k_lies_along_any : PySem.W.keepIn K (.ref f_lies_along_any) = true)
    (a_f_is_number : PySem.W.nsIn K mainGlobals "is_number" = some (some (.ref f_is_number)))
    (l_is_number : K.lookup f_is_number = some ⟨oc_is_number, od_is_number, .func (PySem.W.fnOf "is_number" "is_number" (defArgs sis_number) (defBody sis_number) (defScope sis_number) .none kV_is_number dc_is_number pm_is_number an_is_number cd_is_number ct_is_number), sl_is_number⟩)
    (c_is_number : PySem.W.codeIn K cd_is_number "is_number" = true)
    (k_is_number : PySem.W.keepIn K (.ref f_is_number) = true)
    (c_GREATEST_COORDINATE : PySem.W.nsIn K mainGlobals "GREATEST_COORDINATE" = some (some (.int 60 t_GREATEST_COORDINATE)))
    (a_f_is_piece : PySem.W.nsIn K mainGlobals "is_piece" = some (some (.ref f_is_piece)))
    (l_is_piece : K.lookup f_is_piece = some ⟨oc_is_piece, od_is_piece, .func (PySem.W.fnOf "is_piece" "is_piece" (defArgs sis_piece) (defBody sis_piece) (defScope sis_piece) .none kV_is_piece dc_is_piece pm_is_piece an_is_piece cd_is_piece ct_is_piece), sl_is_piece⟩)
    (c_is_piece : PySem.W.codeIn K cd_is_piece "is_piece" = true)
    (k_is_piece : PySem.W.keepIn K (.ref f_is_piece) = true)
    (c_MOST_PIECES : PySem.W.nsIn K mainGlobals "MOST_PIECES" = some (some (.int 6 t_MOST_PIECES)))
    (m_InvalidDrawing___init__ : PySem.W.findIn K (.ref C_InvalidDrawing) "__init__" = some (some (.ref f_InvalidDrawing___init__)))
    (l_InvalidDrawing___init__ : K.lookup f_InvalidDrawing___init__ = some ⟨oc_InvalidDrawing___init__, od_InvalidDrawing___init__, .func (PySem.W.fnOf "__init__" "InvalidDrawing.__init__" (defArgs sInvalidDrawing___init__) (defBody sInvalidDrawing___init__) (defScope sInvalidDrawing___init__) .none kV_InvalidDrawing___init__ dc_InvalidDrawing___init__ pm_InvalidDrawing___init__ an_InvalidDrawing___init__ cd_InvalidDrawing___init__ ct_InvalidDrawing___init__), sl_InvalidDrawing___init__⟩)
    (c_InvalidDrawing___init__ : PySem.W.codeIn K cd_InvalidDrawing___init__ "InvalidDrawing.__init__" = true)
    (k_InvalidDrawing___init__ : PySem.W.keepIn K (.ref f_InvalidDrawing___init__) = true)
    (t_InvalidDrawing___init__ : PySem.W.typeIn K (.ref f_InvalidDrawing___init__) = some (.type "function"))
    (o_InvalidDrawing : K.lookup C_InvalidDrawing = some (excClassObj nm_InvalidDrawing q_InvalidDrawing C_InvalidDrawing N_InvalidDrawing bs_InvalidDrawing bm_InvalidDrawing true sn_InvalidDrawing sub_InvalidDrawing ab_InvalidDrawing col_InvalidDrawing dd_InvalidDrawing k0_InvalidDrawing k1_InvalidDrawing k2_InvalidDrawing k3_InvalidDrawing k5_InvalidDrawing "ValueError.__new__"))
    (v_InvalidDrawing : PySem.HandSPX.refsVE bm_InvalidDrawing = true)
    (b1 : excIB K C_InvalidDrawing "index" = true)
    (b2 : fldB ⟨K, clM [("LineError", C_LineError), ("InvalidDrawing", C_InvalidDrawing), ("UnknownPiece", C_UnknownPiece), ("SamePiece", C_SamePiece), ("InvalidHalf", C_InvalidHalf), ("InvalidNumber", C_InvalidNumber), ("InvalidPiece", C_InvalidPiece), ("UnlikeCounts", C_UnlikeCounts), ("InvalidPoint", C_InvalidPoint), ("Drawing", C_Drawing)], [], [(P0, (("law" : Str) ++ ".<locals>.") ++ "<lambda>")]⟩ cs_pieces "pieces" = true)
    (m_Drawing___init__ : PySem.W.findIn K (.ref C_Drawing) "__init__" = some (some (.ref f_Drawing___init__)))
    (i_Drawing___init__ : PySem.W.isFn K (.ref f_Drawing___init__) = true)
    (l_Drawing___init__ : K.lookup f_Drawing___init__ = some ⟨oc_Drawing___init__, od_Drawing___init__, .func (PySem.W.fnOf "__init__" "Drawing.__init__" (defArgs sDrawing___init__) (defBody sDrawing___init__) (defScope sDrawing___init__) .none kV_Drawing___init__ dc_Drawing___init__ pm_Drawing___init__ an_Drawing___init__ cd_Drawing___init__ ct_Drawing___init__), sl_Drawing___init__⟩)
    (c_Drawing___init__ : PySem.W.codeIn K cd_Drawing___init__ "Drawing.__init__" = true)
    (k_Drawing___init__ : PySem.W.keepIn K (.ref f_Drawing___init__) = true)
    (b3 : iiB ⟨K, clM [("LineError", C_LineError), ("InvalidDrawing", C_InvalidDrawing), ("UnknownPiece", C_UnknownPiece), ("SamePiece", C_SamePiece), ("InvalidHalf", C_InvalidHalf), ("InvalidNumber", C_InvalidNumber), ("InvalidPiece", C_InvalidPiece), ("UnlikeCounts", C_UnlikeCounts), ("InvalidPoint", C_InvalidPoint), ("Drawing", C_Drawing)], [], [(P0, (("law" : Str) ++ ".<locals>.") ++ "<lambda>")]⟩ [("Drawing", true)] "Drawing" = true)
    (m_Drawing___eq__ : PySem.W.findIn K (.ref C_Drawing) "__eq__" = some (some (.ref f_Drawing___eq__)))
    (i_Drawing___eq__ : PySem.W.isFn K (.ref f_Drawing___eq__) = true)
    (l_Drawing___eq__ : K.lookup f_Drawing___eq__ = some ⟨oc_Drawing___eq__, od_Drawing___eq__, .func (PySem.W.fnOf "__eq__" "Drawing.__eq__" (defArgs sDrawing___eq__) (defBody sDrawing___eq__) (defScope sDrawing___eq__) .none kV_Drawing___eq__ dc_Drawing___eq__ pm_Drawing___eq__ an_Drawing___eq__ cd_Drawing___eq__ ct_Drawing___eq__), sl_Drawing___eq__⟩)
    (c_Drawing___eq__ : PySem.W.codeIn K cd_Drawing___eq__ "Drawing.__eq__" = true)
    (k_Drawing___eq__ : PySem.W.keepIn K (.ref f_Drawing___eq__) = true)
    (m_Drawing___len__ : PySem.W.findIn K (.ref C_Drawing) "__len__" = some (some (.ref f_Drawing___len__)))
    (i_Drawing___len__ : PySem.W.isFn K (.ref f_Drawing___len__) = true)
    (l_Drawing___len__ : K.lookup f_Drawing___len__ = some ⟨oc_Drawing___len__, od_Drawing___len__, .func (PySem.W.fnOf "__len__" "Drawing.__len__" (defArgs sDrawing___len__) (defBody sDrawing___len__) (defScope sDrawing___len__) .none kV_Drawing___len__ dc_Drawing___len__ pm_Drawing___len__ an_Drawing___len__ cd_Drawing___len__ ct_Drawing___len__), sl_Drawing___len__⟩)
    (c_Drawing___len__ : PySem.W.codeIn K cd_Drawing___len__ "Drawing.__len__" = true)
    (k_Drawing___len__ : PySem.W.keepIn K (.ref f_Drawing___len__) = true)
    (a_f__law_taken : PySem.W.nsIn K mainGlobals "_law_taken" = some (some (.ref f__law_taken)))
    (l__law_taken : K.lookup f__law_taken = some ⟨oc__law_taken, od__law_taken, .func (PySem.W.fnOf "_law_taken" "_law_taken" (defArgs s_law_taken) (defBody s_law_taken) (defScope s_law_taken) .none kV__law_taken dc__law_taken pm__law_taken an__law_taken cd__law_taken ct__law_taken), sl__law_taken⟩)
    (c__law_taken : PySem.W.codeIn K cd__law_taken "_law_taken" = true)
    (k__law_taken : PySem.W.keepIn K (.ref f__law_taken) = true)
    (a_f__law_pick : PySem.W.nsIn K mainGlobals "_law_pick" = some (some (.ref f__law_pick)))
    (l__law_pick : K.lookup f__law_pick = some ⟨oc__law_pick, od__law_pick, .func (PySem.W.fnOf "_law_pick" "_law_pick" (defArgs s_law_pick) (defBody s_law_pick) (defScope s_law_pick) .none kV__law_pick dc__law_pick pm__law_pick an__law_pick cd__law_pick ct__law_pick), sl__law_pick⟩)
    (c__law_pick : PySem.W.codeIn K cd__law_pick "_law_pick" = true)
    (k__law_pick : PySem.W.keepIn K (.ref f__law_pick) = true)
    (a_f__law_number : PySem.W.nsIn K mainGlobals "_law_number" = some (some (.ref f__law_number)))
    (l__law_number : K.lookup f__law_number = some ⟨oc__law_number, od__law_number, .func (PySem.W.fnOf "_law_number" "_law_number" (defArgs s_law_number) (defBody s_law_number) (defScope s_law_number) .none kV__law_number dc__law_number pm__law_number an__law_number cd__law_number ct__law_number), sl__law_number⟩)
    (c__law_number : PySem.W.codeIn K cd__law_number "_law_number" = true)
    (k__law_number : PySem.W.keepIn K (.ref f__law_number) = true)
    (a_f__law_piece : PySem.W.nsIn K mainGlobals "_law_piece" = some (some (.ref f__law_piece)))
    (l__law_piece : K.lookup f__law_piece = some ⟨oc__law_piece, od__law_piece, .func (PySem.W.fnOf "_law_piece" "_law_piece" (defArgs s_law_piece) (defBody s_law_piece) (defScope s_law_piece) .none kV__law_piece dc__law_piece pm__law_piece an__law_piece cd__law_piece ct__law_piece), sl__law_piece⟩)
    (c__law_piece : PySem.W.codeIn K cd__law_piece "_law_piece" = true)
    (k__law_piece : PySem.W.keepIn K (.ref f__law_piece) = true)
    (a_f__law_is_on : PySem.W.nsIn K mainGlobals "_law_is_on" = some (some (.ref f__law_is_on)))
    (l__law_is_on : K.lookup f__law_is_on = some ⟨oc__law_is_on, od__law_is_on, .func (PySem.W.fnOf "_law_is_on" "_law_is_on" (defArgs s_law_is_on) (defBody s_law_is_on) (defScope s_law_is_on) .none kV__law_is_on dc__law_is_on pm__law_is_on an__law_is_on cd__law_is_on ct__law_is_on), sl__law_is_on⟩)
    (c__law_is_on : PySem.W.codeIn K cd__law_is_on "_law_is_on" = true)
    (k__law_is_on : PySem.W.keepIn K (.ref f__law_is_on) = true)
    (a_f__law_common : PySem.W.nsIn K mainGlobals "_law_common" = some (some (.ref f__law_common)))
    (l__law_common : K.lookup f__law_common = some ⟨oc__law_common, od__law_common, .func (PySem.W.fnOf "_law_common" "_law_common" (defArgs s_law_common) (defBody s_law_common) (defScope s_law_common) .none kV__law_common dc__law_common pm__law_common an__law_common cd__law_common ct__law_common), sl__law_common⟩)
    (c__law_common : PySem.W.codeIn K cd__law_common "_law_common" = true)
    (k__law_common : PySem.W.keepIn K (.ref f__law_common) = true)
    (b4 : ieB ⟨K, clM [("LineError", C_LineError), ("InvalidDrawing", C_InvalidDrawing), ("UnknownPiece", C_UnknownPiece), ("SamePiece", C_SamePiece), ("InvalidHalf", C_InvalidHalf), ("InvalidNumber", C_InvalidNumber), ("InvalidPiece", C_InvalidPiece), ("UnlikeCounts", C_UnlikeCounts), ("InvalidPoint", C_InvalidPoint), ("Drawing", C_Drawing)], [], [(P0, (("law" : Str) ++ ".<locals>.") ++ "<lambda>")]⟩ [("LineError", false), ("InvalidDrawing", true), ("UnknownPiece", false), ("SamePiece", false), ("InvalidHalf", false), ("InvalidNumber", false), ("InvalidPiece", false), ("UnlikeCounts", false), ("InvalidPoint", false)] (.ref ((clM [("LineError", C_LineError), ("InvalidDrawing", C_InvalidDrawing), ("UnknownPiece", C_UnknownPiece), ("SamePiece", C_SamePiece), ("InvalidHalf", C_InvalidHalf), ("InvalidNumber", C_InvalidNumber), ("InvalidPiece", C_InvalidPiece), ("UnlikeCounts", C_UnlikeCounts), ("InvalidPoint", C_InvalidPoint), ("Drawing", C_Drawing)]) "InvalidDrawing")) = true)
    (b5 : ieB ⟨K, clM [("LineError", C_LineError), ("InvalidDrawing", C_InvalidDrawing), ("UnknownPiece", C_UnknownPiece), ("SamePiece", C_SamePiece), ("InvalidHalf", C_InvalidHalf), ("InvalidNumber", C_InvalidNumber), ("InvalidPiece", C_InvalidPiece), ("UnlikeCounts", C_UnlikeCounts), ("InvalidPoint", C_InvalidPoint), ("Drawing", C_Drawing)], [], [(P0, (("law" : Str) ++ ".<locals>.") ++ "<lambda>")]⟩ [("LineError", false), ("InvalidDrawing", false), ("UnknownPiece", true), ("SamePiece", false), ("InvalidHalf", false), ("InvalidNumber", false), ("InvalidPiece", false), ("UnlikeCounts", false), ("InvalidPoint", false)] (.ref ((clM [("LineError", C_LineError), ("InvalidDrawing", C_InvalidDrawing), ("UnknownPiece", C_UnknownPiece), ("SamePiece", C_SamePiece), ("InvalidHalf", C_InvalidHalf), ("InvalidNumber", C_InvalidNumber), ("InvalidPiece", C_InvalidPiece), ("UnlikeCounts", C_UnlikeCounts), ("InvalidPoint", C_InvalidPoint), ("Drawing", C_Drawing)]) "UnknownPiece")) = true)
    (b6 : ieB ⟨K, clM [("LineError", C_LineError), ("InvalidDrawing", C_InvalidDrawing), ("UnknownPiece", C_UnknownPiece), ("SamePiece", C_SamePiece), ("InvalidHalf", C_InvalidHalf), ("InvalidNumber", C_InvalidNumber), ("InvalidPiece", C_InvalidPiece), ("UnlikeCounts", C_UnlikeCounts), ("InvalidPoint", C_InvalidPoint), ("Drawing", C_Drawing)], [], [(P0, (("law" : Str) ++ ".<locals>.") ++ "<lambda>")]⟩ [("LineError", false), ("InvalidDrawing", false), ("UnknownPiece", false), ("SamePiece", true), ("InvalidHalf", false), ("InvalidNumber", false), ("InvalidPiece", false), ("UnlikeCounts", false), ("InvalidPoint", false)] (.ref ((clM [("LineError", C_LineError), ("InvalidDrawing", C_InvalidDrawing), ("UnknownPiece", C_UnknownPiece), ("SamePiece", C_SamePiece), ("InvalidHalf", C_InvalidHalf), ("InvalidNumber", C_InvalidNumber), ("InvalidPiece", C_InvalidPiece), ("UnlikeCounts", C_UnlikeCounts), ("InvalidPoint", C_InvalidPoint), ("Drawing", C_Drawing)]) "SamePiece")) = true)
    (b7 : ieB ⟨K, clM [("LineError", C_LineError), ("InvalidDrawing", C_InvalidDrawing), ("UnknownPiece", C_UnknownPiece), ("SamePiece", C_SamePiece), ("InvalidHalf", C_InvalidHalf), ("InvalidNumber", C_InvalidNumber), ("InvalidPiece", C_InvalidPiece), ("UnlikeCounts", C_UnlikeCounts), ("InvalidPoint", C_InvalidPoint), ("Drawing", C_Drawing)], [], [(P0, (("law" : Str) ++ ".<locals>.") ++ "<lambda>")]⟩ [("LineError", false), ("InvalidDrawing", false), ("UnknownPiece", false), ("SamePiece", false), ("InvalidHalf", true), ("InvalidNumber", false), ("InvalidPiece", false), ("UnlikeCounts", false), ("InvalidPoint", false)] (.ref ((clM [("LineError", C_LineError), ("InvalidDrawing", C_InvalidDrawing), ("UnknownPiece", C_UnknownPiece), ("SamePiece", C_SamePiece), ("InvalidHalf", C_InvalidHalf), ("InvalidNumber", C_InvalidNumber), ("InvalidPiece", C_InvalidPiece), ("UnlikeCounts", C_UnlikeCounts), ("InvalidPoint", C_InvalidPoint), ("Drawing", C_Drawing)]) "InvalidHalf")) = true)
    (b8 : ieB ⟨K, clM [("LineError", C_LineError), ("InvalidDrawing", C_InvalidDrawing), ("UnknownPiece", C_UnknownPiece), ("SamePiece", C_SamePiece), ("InvalidHalf", C_InvalidHalf), ("InvalidNumber", C_InvalidNumber), ("InvalidPiece", C_InvalidPiece), ("UnlikeCounts", C_UnlikeCounts), ("InvalidPoint", C_InvalidPoint), ("Drawing", C_Drawing)], [], [(P0, (("law" : Str) ++ ".<locals>.") ++ "<lambda>")]⟩ [("LineError", false), ("InvalidDrawing", false), ("UnknownPiece", false), ("SamePiece", false), ("InvalidHalf", false), ("InvalidNumber", true), ("InvalidPiece", false), ("UnlikeCounts", false), ("InvalidPoint", false)] (.ref ((clM [("LineError", C_LineError), ("InvalidDrawing", C_InvalidDrawing), ("UnknownPiece", C_UnknownPiece), ("SamePiece", C_SamePiece), ("InvalidHalf", C_InvalidHalf), ("InvalidNumber", C_InvalidNumber), ("InvalidPiece", C_InvalidPiece), ("UnlikeCounts", C_UnlikeCounts), ("InvalidPoint", C_InvalidPoint), ("Drawing", C_Drawing)]) "InvalidNumber")) = true)
    (b9 : ieB ⟨K, clM [("LineError", C_LineError), ("InvalidDrawing", C_InvalidDrawing), ("UnknownPiece", C_UnknownPiece), ("SamePiece", C_SamePiece), ("InvalidHalf", C_InvalidHalf), ("InvalidNumber", C_InvalidNumber), ("InvalidPiece", C_InvalidPiece), ("UnlikeCounts", C_UnlikeCounts), ("InvalidPoint", C_InvalidPoint), ("Drawing", C_Drawing)], [], [(P0, (("law" : Str) ++ ".<locals>.") ++ "<lambda>")]⟩ [("LineError", false), ("InvalidDrawing", false), ("UnknownPiece", false), ("SamePiece", false), ("InvalidHalf", false), ("InvalidNumber", false), ("InvalidPiece", true), ("UnlikeCounts", false), ("InvalidPoint", false)] (.ref ((clM [("LineError", C_LineError), ("InvalidDrawing", C_InvalidDrawing), ("UnknownPiece", C_UnknownPiece), ("SamePiece", C_SamePiece), ("InvalidHalf", C_InvalidHalf), ("InvalidNumber", C_InvalidNumber), ("InvalidPiece", C_InvalidPiece), ("UnlikeCounts", C_UnlikeCounts), ("InvalidPoint", C_InvalidPoint), ("Drawing", C_Drawing)]) "InvalidPiece")) = true)
    (b10 : ieB ⟨K, clM [("LineError", C_LineError), ("InvalidDrawing", C_InvalidDrawing), ("UnknownPiece", C_UnknownPiece), ("SamePiece", C_SamePiece), ("InvalidHalf", C_InvalidHalf), ("InvalidNumber", C_InvalidNumber), ("InvalidPiece", C_InvalidPiece), ("UnlikeCounts", C_UnlikeCounts), ("InvalidPoint", C_InvalidPoint), ("Drawing", C_Drawing)], [], [(P0, (("law" : Str) ++ ".<locals>.") ++ "<lambda>")]⟩ [("LineError", false), ("InvalidDrawing", false), ("UnknownPiece", false), ("SamePiece", false), ("InvalidHalf", false), ("InvalidNumber", false), ("InvalidPiece", false), ("UnlikeCounts", true), ("InvalidPoint", false)] (.ref ((clM [("LineError", C_LineError), ("InvalidDrawing", C_InvalidDrawing), ("UnknownPiece", C_UnknownPiece), ("SamePiece", C_SamePiece), ("InvalidHalf", C_InvalidHalf), ("InvalidNumber", C_InvalidNumber), ("InvalidPiece", C_InvalidPiece), ("UnlikeCounts", C_UnlikeCounts), ("InvalidPoint", C_InvalidPoint), ("Drawing", C_Drawing)]) "UnlikeCounts")) = true)
    (b11 : ieB ⟨K, clM [("LineError", C_LineError), ("InvalidDrawing", C_InvalidDrawing), ("UnknownPiece", C_UnknownPiece), ("SamePiece", C_SamePiece), ("InvalidHalf", C_InvalidHalf), ("InvalidNumber", C_InvalidNumber), ("InvalidPiece", C_InvalidPiece), ("UnlikeCounts", C_UnlikeCounts), ("InvalidPoint", C_InvalidPoint), ("Drawing", C_Drawing)], [], [(P0, (("law" : Str) ++ ".<locals>.") ++ "<lambda>")]⟩ [("LineError", false), ("InvalidDrawing", false), ("UnknownPiece", false), ("SamePiece", false), ("InvalidHalf", false), ("InvalidNumber", false), ("InvalidPiece", false), ("UnlikeCounts", false), ("InvalidPoint", true)] (.ref ((clM [("LineError", C_LineError), ("InvalidDrawing", C_InvalidDrawing), ("UnknownPiece", C_UnknownPiece), ("SamePiece", C_SamePiece), ("InvalidHalf", C_InvalidHalf), ("InvalidNumber", C_InvalidNumber), ("InvalidPiece", C_InvalidPiece), ("UnlikeCounts", C_UnlikeCounts), ("InvalidPoint", C_InvalidPoint), ("Drawing", C_Drawing)]) "InvalidPoint")) = true)
    (b12 : ieB ⟨K, clM [("LineError", C_LineError), ("InvalidDrawing", C_InvalidDrawing), ("UnknownPiece", C_UnknownPiece), ("SamePiece", C_SamePiece), ("InvalidHalf", C_InvalidHalf), ("InvalidNumber", C_InvalidNumber), ("InvalidPiece", C_InvalidPiece), ("UnlikeCounts", C_UnlikeCounts), ("InvalidPoint", C_InvalidPoint), ("Drawing", C_Drawing)], [], [(P0, (("law" : Str) ++ ".<locals>.") ++ "<lambda>")]⟩ [("LineError", true), ("InvalidDrawing", true), ("UnknownPiece", true), ("SamePiece", true), ("InvalidHalf", true), ("InvalidNumber", true), ("InvalidPiece", true), ("UnlikeCounts", true), ("InvalidPoint", true)] (.type "ValueError") = true)
    (b13 : xfBs ⟨K, clM [("LineError", C_LineError), ("InvalidDrawing", C_InvalidDrawing), ("UnknownPiece", C_UnknownPiece), ("SamePiece", C_SamePiece), ("InvalidHalf", C_InvalidHalf), ("InvalidNumber", C_InvalidNumber), ("InvalidPiece", C_InvalidPiece), ("UnlikeCounts", C_UnlikeCounts), ("InvalidPoint", C_InvalidPoint), ("Drawing", C_Drawing)], [], [(P0, (("law" : Str) ++ ".<locals>.") ++ "<lambda>")]⟩ ["InvalidDrawing"] "index" = true)
    (a_f__law_raised : PySem.W.nsIn K mainGlobals "_law_raised" = some (some (.ref f__law_raised)))
    (l__law_raised : K.lookup f__law_raised = some ⟨oc__law_raised, od__law_raised, .func (PySem.W.fnOf "_law_raised" "_law_raised" (defArgs s_law_raised) (defBody s_law_raised) (defScope s_law_raised) .none kV__law_raised dc__law_raised pm__law_raised an__law_raised cd__law_raised ct__law_raised), sl__law_raised⟩)
    (c__law_raised : PySem.W.codeIn K cd__law_raised "_law_raised" = true)
    (k__law_raised : PySem.W.keepIn K (.ref f__law_raised) = true)
    (a_f__law_over : PySem.W.nsIn K mainGlobals "_law_over" = some (some (.ref f__law_over)))
    (l__law_over : K.lookup f__law_over = some ⟨oc__law_over, od__law_over, .func (PySem.W.fnOf "_law_over" "_law_over" (defArgs s_law_over) (defBody s_law_over) (defScope s_law_over) .none kV__law_over dc__law_over pm__law_over an__law_over cd__law_over ct__law_over), sl__law_over⟩)
    (c__law_over : PySem.W.codeIn K cd__law_over "_law_over" = true)
    (k__law_over : PySem.W.keepIn K (.ref f__law_over) = true)
    (b14 : makeB ⟨K, clM [("LineError", C_LineError), ("InvalidDrawing", C_InvalidDrawing), ("UnknownPiece", C_UnknownPiece), ("SamePiece", C_SamePiece), ("InvalidHalf", C_InvalidHalf), ("InvalidNumber", C_InvalidNumber), ("InvalidPiece", C_InvalidPiece), ("UnlikeCounts", C_UnlikeCounts), ("InvalidPoint", C_InvalidPoint), ("Drawing", C_Drawing)], [], [(P0, (("law" : Str) ++ ".<locals>.") ++ "<lambda>")]⟩ "Drawing" = true)
    (b15 : emB ⟨K, clM [("LineError", C_LineError), ("InvalidDrawing", C_InvalidDrawing), ("UnknownPiece", C_UnknownPiece), ("SamePiece", C_SamePiece), ("InvalidHalf", C_InvalidHalf), ("InvalidNumber", C_InvalidNumber), ("InvalidPiece", C_InvalidPiece), ("UnlikeCounts", C_UnlikeCounts), ("InvalidPoint", C_InvalidPoint), ("Drawing", C_Drawing)], [], [(P0, (("law" : Str) ++ ".<locals>.") ++ "<lambda>")]⟩ [("LineError", true), ("InvalidDrawing", true), ("UnknownPiece", true), ("SamePiece", true), ("InvalidHalf", true), ("InvalidNumber", true), ("InvalidPiece", true), ("UnlikeCounts", true), ("InvalidPoint", true)] (.ref ((clM [("LineError", C_LineError), ("InvalidDrawing", C_InvalidDrawing), ("UnknownPiece", C_UnknownPiece), ("SamePiece", C_SamePiece), ("InvalidHalf", C_InvalidHalf), ("InvalidNumber", C_InvalidNumber), ("InvalidPiece", C_InvalidPiece), ("UnlikeCounts", C_UnlikeCounts), ("InvalidPoint", C_InvalidPoint), ("Drawing", C_Drawing)]) "LineError")) = true)
    (b16 : oeB ⟨K, clM [("LineError", C_LineError), ("InvalidDrawing", C_InvalidDrawing), ("UnknownPiece", C_UnknownPiece), ("SamePiece", C_SamePiece), ("InvalidHalf", C_InvalidHalf), ("InvalidNumber", C_InvalidNumber), ("InvalidPiece", C_InvalidPiece), ("UnlikeCounts", C_UnlikeCounts), ("InvalidPoint", C_InvalidPoint), ("Drawing", C_Drawing)], [], [(P0, (("law" : Str) ++ ".<locals>.") ++ "<lambda>")]⟩ "Drawing" = true)
    (b0 : zB K ["min", "max", "any", "isinstance", "int", "bool", "len", "all", "enumerate", "abs", "sorted", "set", "ValueError", "range", "tuple"] = true)
    (a_law : PySem.W.nsIn K mainGlobals "law" = some (some (.ref f_law)))
    (l_law : K.lookup f_law = some ⟨oc_law, od_law, .func (PySem.W.fnOf "law" "law" (defArgs slaw) (defBody slaw) (defScope slaw) .none kV_law dc_law pm_law an_law (.ref cL) ct_law), sl_law⟩)
    (c_law : PySem.W.codeIn K (.ref cL) "law" = true)
    (hd : PySem.W.codeHdIn K cL P0 = true)
    (nT : K.lookup P0 = none) :
    LamX.LawAtS l w K (L2.CX l.prog w) 8 63 "_law_script" mg fa h := by
  have e := hfa.symm.trans (PySem.W.mg_of X G a_law)
  cases e
  have T : Txt ⟨K, clM [("LineError", C_LineError), ("InvalidDrawing", C_InvalidDrawing), ("UnknownPiece", C_UnknownPiece), ("SamePiece", C_SamePiece), ("InvalidHalf", C_InvalidHalf), ("InvalidNumber", C_InvalidNumber), ("InvalidPiece", C_InvalidPiece), ("UnlikeCounts", C_UnlikeCounts), ("InvalidPoint", C_InvalidPoint), ("Drawing", C_Drawing)], [], [(P0, (("law" : Str) ++ ".<locals>.") ++ "<lambda>")]⟩ mg := {
    F_way_of := ⟨⟨f_way_of, _, (fun_mk (st := sway_of) l_way_of c_way_of k_way_of), PySem.W.mg_of X G a_f_way_of, ((fun_mk (st := sway_of) l_way_of c_way_of k_way_of).binds (ps := ["piece"]) fun _ _ _ _ _ _ us hl => match us, hl with | [_], _ => rfl)⟩⟩,
    z_min := zB_ok X G b0 "min" (by decide),
    z_max := zB_ok X G b0 "max" (by decide),
    F_shared_stretch := ⟨⟨f_shared_stretch, _, (fun_mk (st := sshared_stretch) l_shared_stretch c_shared_stretch k_shared_stretch), PySem.W.mg_of X G a_f_shared_stretch, ((fun_mk (st := sshared_stretch) l_shared_stretch c_shared_stretch k_shared_stretch).binds (ps := ["one", "other"]) fun _ _ _ _ _ _ us hl => match us, hl with | [_, _], _ => rfl)⟩⟩,
    F_cross := ⟨⟨f_cross, _, (fun_mk (st := scross) l_cross c_cross k_cross), PySem.W.mg_of X G a_f_cross, ((fun_mk (st := scross) l_cross c_cross k_cross).binds (ps := ["one", "other"]) fun _ _ _ _ _ _ us hl => match us, hl with | [_, _], _ => rfl)⟩⟩,
    F_way_between := ⟨⟨f_way_between, _, (fun_mk (st := sway_between) l_way_between c_way_between k_way_between), PySem.W.mg_of X G a_f_way_between, ((fun_mk (st := sway_between) l_way_between c_way_between k_way_between).binds (ps := ["one", "other"]) fun _ _ _ _ _ _ us hl => match us, hl with | [_, _], _ => rfl)⟩⟩,
    F_lies_along := ⟨⟨f_lies_along, _, (fun_mk (st := slies_along) l_lies_along c_lies_along k_lies_along), PySem.W.mg_of X G a_f_lies_along, ((fun_mk (st := slies_along) l_lies_along c_lies_along k_lies_along).binds (ps := ["one", "other"]) fun _ _ _ _ _ _ us hl => match us, hl with | [_, _], _ => rfl)⟩⟩,
    z_any := zB_ok X G b0 "any" (by decide),
    F_lies_along_any := ⟨⟨f_lies_along_any, _, (fun_mk (st := slies_along_any) l_lies_along_any c_lies_along_any k_lies_along_any), PySem.W.mg_of X G a_f_lies_along_any, ((fun_mk (st := slies_along_any) l_lies_along_any c_lies_along_any k_lies_along_any).binds (ps := ["piece", "others"]) fun _ _ _ _ _ _ us hl => match us, hl with | [_, _], _ => rfl)⟩⟩,
    z_isinstance := zB_ok X G b0 "isinstance" (by decide),
    z_int := zB_ok X G b0 "int" (by decide),
    z_bool := zB_ok X G b0 "bool" (by decide),
    F_is_number := ⟨⟨f_is_number, _, (fun_mk (st := sis_number) l_is_number c_is_number k_is_number), PySem.W.mg_of X G a_f_is_number, ((fun_mk (st := sis_number) l_is_number c_is_number k_is_number).binds (ps := ["value", "low", "high"]) fun _ _ _ _ _ _ us hl => match us, hl with | [_, _, _], _ => rfl)⟩⟩,
    z_len := zB_ok X G b0 "len" (by decide),
    c_GREATEST_COORDINATE := ⟨⟨t_GREATEST_COORDINATE, PySem.W.mg_of X G c_GREATEST_COORDINATE⟩⟩,
    z_all := zB_ok X G b0 "all" (by decide),
    F_is_piece := ⟨⟨f_is_piece, _, (fun_mk (st := sis_piece) l_is_piece c_is_piece k_is_piece), PySem.W.mg_of X G a_f_is_piece, ((fun_mk (st := sis_piece) l_is_piece c_is_piece k_is_piece).binds (ps := ["piece"]) fun _ _ _ _ _ _ us hl => match us, hl with | [_], _ => rfl)⟩⟩,
    z_enumerate := zB_ok X G b0 "enumerate" (by decide),
    c_MOST_PIECES := ⟨⟨t_MOST_PIECES, PySem.W.mg_of X G c_MOST_PIECES⟩⟩,
    x_InvalidDrawing := excIB_ok (PySem.W.mg_of X G a_InvalidDrawing) b1 ⟨_, _, _, _, _, _, _, _, _, _, _, _, _, _, _, o_InvalidDrawing, v_InvalidDrawing⟩ (fun_mk (st := sInvalidDrawing___init__) l_InvalidDrawing___init__ c_InvalidDrawing___init__ k_InvalidDrawing___init__) m_InvalidDrawing___init__ t_InvalidDrawing___init__ ((fun_mk (st := sInvalidDrawing___init__) l_InvalidDrawing___init__ c_InvalidDrawing___init__ k_InvalidDrawing___init__).binds (ps := ["self", "index"]) fun _ _ _ _ _ _ us hl => match us, hl with | [_, _], _ => rfl),
    fld_pieces := fldB_ok b2,
    M_Drawing___init__ := ⟨⟨f_Drawing___init__, _, (fun_mk (st := sDrawing___init__) l_Drawing___init__ c_Drawing___init__ k_Drawing___init__), m_Drawing___init__, i_Drawing___init__, ((fun_mk (st := sDrawing___init__) l_Drawing___init__ c_Drawing___init__ k_Drawing___init__).binds (ps := ["self", "pieces"]) fun _ _ _ _ _ _ us hl => match us, hl with | [_, _], _ => rfl)⟩⟩,
    ii_Drawing := iiB_ok b3,
    g_Drawing := PySem.W.mg_of X G a_Drawing,
    M_Drawing___eq__ := ⟨⟨f_Drawing___eq__, _, (fun_mk (st := sDrawing___eq__) l_Drawing___eq__ c_Drawing___eq__ k_Drawing___eq__), m_Drawing___eq__, i_Drawing___eq__, ((fun_mk (st := sDrawing___eq__) l_Drawing___eq__ c_Drawing___eq__ k_Drawing___eq__).binds (ps := ["self", "other"]) fun _ _ _ _ _ _ us hl => match us, hl with | [_, _], _ => rfl)⟩⟩,
    M_Drawing___len__ := ⟨⟨f_Drawing___len__, _, (fun_mk (st := sDrawing___len__) l_Drawing___len__ c_Drawing___len__ k_Drawing___len__), m_Drawing___len__, i_Drawing___len__, ((fun_mk (st := sDrawing___len__) l_Drawing___len__ c_Drawing___len__ k_Drawing___len__).binds (ps := ["self"]) fun _ _ _ _ _ _ us hl => match us, hl with | [_], _ => rfl)⟩⟩,
    F__law_taken := ⟨⟨f__law_taken, _, (fun_mk (st := s_law_taken) l__law_taken c__law_taken k__law_taken), PySem.W.mg_of X G a_f__law_taken, ((fun_mk (st := s_law_taken) l__law_taken c__law_taken k__law_taken).binds (ps := ["_law_row", "_law_many"]) fun _ _ _ _ _ _ us hl => match us, hl with | [_, _], _ => rfl)⟩⟩,
    F__law_pick := ⟨⟨f__law_pick, _, (fun_mk (st := s_law_pick) l__law_pick c__law_pick k__law_pick), PySem.W.mg_of X G a_f__law_pick, ((fun_mk (st := s_law_pick) l__law_pick c__law_pick k__law_pick).binds (ps := ["_law_row", "_law_some"]) fun _ _ _ _ _ _ us hl => match us, hl with | [_, _], _ => rfl)⟩⟩,
    F__law_number := ⟨⟨f__law_number, _, (fun_mk (st := s_law_number) l__law_number c__law_number k__law_number), PySem.W.mg_of X G a_f__law_number, ((fun_mk (st := s_law_number) l__law_number c__law_number k__law_number).binds (ps := ["_law_row", "_law_far"]) fun _ _ _ _ _ _ us hl => match us, hl with | [_, _], _ => rfl)⟩⟩,
    F__law_piece := ⟨⟨f__law_piece, _, (fun_mk (st := s_law_piece) l__law_piece c__law_piece k__law_piece), PySem.W.mg_of X G a_f__law_piece, ((fun_mk (st := s_law_piece) l__law_piece c__law_piece k__law_piece).binds (ps := ["_law_row", "_law_far"]) fun _ _ _ _ _ _ us hl => match us, hl with | [_, _], _ => rfl)⟩⟩,
    F__law_is_on := ⟨⟨f__law_is_on, _, (fun_mk (st := s_law_is_on) l__law_is_on c__law_is_on k__law_is_on), PySem.W.mg_of X G a_f__law_is_on, ((fun_mk (st := s_law_is_on) l__law_is_on c__law_is_on k__law_is_on).binds (ps := ["_law_piece_here", "_law_point"]) fun _ _ _ _ _ _ us hl => match us, hl with | [_, _], _ => rfl)⟩⟩,
    z_abs := zB_ok X G b0 "abs" (by decide),
    z_sorted := zB_ok X G b0 "sorted" (by decide),
    z_set := zB_ok X G b0 "set" (by decide),
    F__law_common := ⟨⟨f__law_common, _, (fun_mk (st := s_law_common) l__law_common c__law_common k__law_common), PySem.W.mg_of X G a_f__law_common, ((fun_mk (st := s_law_common) l__law_common c__law_common k__law_common).binds (ps := ["_law_one", "_law_other"]) fun _ _ _ _ _ _ us hl => match us, hl with | [_, _], _ => rfl)⟩⟩,
    g_InvalidDrawing := PySem.W.mg_of X G a_InvalidDrawing,
    ie_InvalidDrawing := ieB_ok b4,
    g_UnknownPiece := PySem.W.mg_of X G a_UnknownPiece,
    ie_UnknownPiece := ieB_ok b5,
    g_SamePiece := PySem.W.mg_of X G a_SamePiece,
    ie_SamePiece := ieB_ok b6,
    g_InvalidHalf := PySem.W.mg_of X G a_InvalidHalf,
    ie_InvalidHalf := ieB_ok b7,
    g_InvalidNumber := PySem.W.mg_of X G a_InvalidNumber,
    ie_InvalidNumber := ieB_ok b8,
    g_InvalidPiece := PySem.W.mg_of X G a_InvalidPiece,
    ie_InvalidPiece := ieB_ok b9,
    g_UnlikeCounts := PySem.W.mg_of X G a_UnlikeCounts,
    ie_UnlikeCounts := ieB_ok b10,
    g_InvalidPoint := PySem.W.mg_of X G a_InvalidPoint,
    ie_InvalidPoint := ieB_ok b11,
    z_ValueError := zB_ok X G b0 "ValueError" (by decide),
    ie_ValueError := ieB_ok b12,
    xf_index := xfBs_ok b13,
    F__law_raised := ⟨⟨f__law_raised, _, (fun_mk (st := s_law_raised) l__law_raised c__law_raised k__law_raised), PySem.W.mg_of X G a_f__law_raised, ((fun_mk (st := s_law_raised) l__law_raised c__law_raised k__law_raised).binds (ps := ["_law_work"]) fun _ _ _ _ _ _ us hl => match us, hl with | [_], _ => rfl)⟩⟩,
    F__law_over := ⟨⟨f__law_over, _, (fun_mk (st := s_law_over) l__law_over c__law_over k__law_over), PySem.W.mg_of X G a_f__law_over, ((fun_mk (st := s_law_over) l__law_over c__law_over k__law_over).binds (ps := ["_law_row", "_law_pieces"]) fun _ _ _ _ _ _ us hl => match us, hl with | [_, _], _ => rfl)⟩⟩,
    z_range := zB_ok X G b0 "range" (by decide),
    ex0 := rfl,
    z_tuple := zB_ok X G b0 "tuple" (by decide),
    k_Drawing := makeB_ok (PySem.W.mg_of X G a_Drawing) b14,
    em_LineError := emB_ok b15,
    g_LineError := PySem.W.mg_of X G a_LineError,
    oe_Drawing := oeB_ok b16 }
  refine ⟨(PySem.W.fnOf "law" "law" (defArgs slaw) (defBody slaw) (defScope slaw) .none kV_law dc_law pm_law an_law (.ref cL) ct_law), [(cL, P0)], spD ⟨K, clM [("LineError", C_LineError), ("InvalidDrawing", C_InvalidDrawing), ("UnknownPiece", C_UnknownPiece), ("SamePiece", C_SamePiece), ("InvalidHalf", C_InvalidHalf), ("InvalidNumber", C_InvalidNumber), ("InvalidPiece", C_InvalidPiece), ("UnlikeCounts", C_UnlikeCounts), ("InvalidPoint", C_InvalidPoint), ("Drawing", C_Drawing)], [], [(P0, (("law" : Str) ++ ".<locals>.") ++ "<lambda>")]⟩ 1 glaw, fun p hp => ?_, fun p hp => ?_, fun p hp => ?_, fun s u => .of_eq rfl, fun H a ns hn _ hT hS => ?_, fun base _ _ hTB => ?_⟩
  · rw [List.mem_singleton.mp hp]
    exact hP
  · rw [List.mem_singleton.mp hp]
    exact nT
  · rw [List.mem_singleton.mp hp]
    exact PySem.W.codeHd_of_K X hd
  · refine spD_start (Γ := ⟨K, clM [("LineError", C_LineError), ("InvalidDrawing", C_InvalidDrawing), ("UnknownPiece", C_UnknownPiece), ("SamePiece", C_SamePiece), ("InvalidHalf", C_InvalidHalf), ("InvalidNumber", C_InvalidNumber), ("InvalidPiece", C_InvalidPiece), ("UnlikeCounts", C_UnlikeCounts), ("InvalidPoint", C_InvalidPoint), ("Drawing", C_Drawing)], [], [(P0, (("law" : Str) ++ ".<locals>.") ++ "<lambda>")]⟩) hs hn (fun p hp => ?_) hS
    rw [List.mem_singleton.mp hp]
    exact LamX.TabS.nil (hT (cL, P0) (List.mem_singleton.mpr rfl))
  · exact denlaw T l_law c_law (hTB (cL, P0) (List.mem_singleton.mpr rfl)) (List.mem_singleton.mpr rfl) (fun p hp _ => by rw [List.mem_singleton.mp hp])
end K01
end
section
set_option maxRecDepth 100000
set_option maxHeartbeats 1000000
namespace K01
open PySem L2 MP
/-- the row of the draws: the script, two counters, the rest of a large number -/
structure RowOk (st : Sto) : Prop where
  ex : ∃ ro ns a b c, st[0]? = some (.lst ro (List.map D.int ns)) ∧ st[1]? = some (.lst false [.obj 0, .int a, .int b, .int c]) ∧ 0 ≤ a ∧ 0 ≤ b ∧ b < 2147483647 ∧ 0 ≤ c
/-- what draws leave as it was -/
structure Stp (st st' : Sto) : Prop where
  len : st.length ≤ st'.length
  old : ∀ i, i < st.length → i ≠ 1 → st'[i]? = st[i]?
  row : RowOk st'
theorem Stp.trans {a b c : Sto} (h : Stp a b) (k : Stp b c) : Stp a c := ⟨Nat.le_trans h.len k.len, fun i hi h1 => (k.old i (Nat.lt_of_lt_of_le hi h.len) h1).trans (h.old i hi h1), k.row⟩
theorem Stp.refl {a : Sto} (h : RowOk a) : Stp a a := ⟨Nat.le_refl _, fun _ _ _ => rfl, h⟩
theorem lt_of_get {α : Type} {l : List α} {n : Nat} {x : α} (h : l[n]? = some x) : n < l.length := (List.getElem?_eq_some_iff.mp h).1
theorem Stp.push {st : Sto} {c : Cell} (h : RowOk st) : Stp st (st ++ [c]) := by
  obtain ⟨ro, ns, a, b, d, h0, h1, h⟩ := h.ex
  refine ⟨by simp, fun i hi _ => List.getElem?_append_left hi, ⟨ro, ns, a, b, d, ?_, ?_, h⟩⟩
  · rw [List.getElem?_append_left (lt_of_get h0)]; exact h0
  · rw [List.getElem?_append_left (lt_of_get h1)]; exact h1
theorem mulOk_small {i j : Int} (h1 : -1000000000 ≤ i) (h2 : i ≤ 1000000000) : mulOk i j = true := by
  unfold mulOk
  have a : decide (-(2 ^ 64) < i) = true := decide_eq_true (by omega)
  have b : decide (i < 2 ^ 64) = true := decide_eq_true (by omega)
  rw [a, b]
  rfl
theorem mulOk_small' {i j : Int} (h1 : -1000000000 ≤ j) (h2 : j ≤ 1000000000) : mulOk i j = true := by
  unfold mulOk
  have a : decide (-(2 ^ 64) < j) = true := decide_eq_true (by omega)
  have b : decide (j < 2 ^ 64) = true := decide_eq_true (by omega)
  rw [a, b]
  simp
theorem taken_eq {st : Sto} {n : Int} (h : RowOk st) (h1 : 1 ≤ n) (h2 : n < 1073741824) : ∃ k st', g_law_taken [.obj 1, .int n] st = some (.ok (.int k), st') ∧ 0 ≤ k ∧ k < n ∧ Stp st st' ∧ st'.length = st.length := by
  obtain ⟨ro, ns, a, b, c, e0, e1, ha, hb, hb2, hc⟩ := h.ex
  have hl : 1 < st.length := lt_of_get e1
  have s0 : ∀ x, (st.set 1 x)[0]? = some (.lst ro (List.map D.int ns)) := fun x => by rw [List.getElem?_set_ne (by decide)]; exact e0
  have s1 : ∀ x, (st.set 1 x)[1]? = some x := fun x => List.getElem?_set_self hl
  have n1 : ¬ n ≤ 0 := by omega
  have n2 : 0 < n := by omega
  by_cases c0 : 0 < c
  · refine ⟨c % n, st.set 1 (.lst false [.obj 0, .int a, .int b, .int (c / n)]), ?_, Int.emod_nonneg _ (by omega), Int.emod_lt_of_pos _ (by omega), ⟨by simp, fun i hi h => List.getElem?_set_ne (Ne.symm h), ⟨ro, ns, a, b, c / n, s0 _, s1 _, ha, hb, hb2, Int.ediv_nonneg hc (by omega)⟩⟩, by simp⟩
    simp [g_law_taken, b_law_taken, runD, startL, dRet, dBin, dVar, dC, bindR, bindS, okD, fSub, fMul, fIx, L2.atI, L2.ixN, dApp, evA, dThen, dIfS, ifK, dAsg, asgK, asg, dSetIx, setK, fInt, fGt, fMod, fDiv, dNext, e1, c0, n2, h2]
  · have hc0 : c = 0 := by omega
    subst hc0
    by_cases hA : (ns.length : Int) < a + 1
    · refine ⟨(b * 48271 + 11) % 2147483647 / 7 % n, st.set 1 (.lst false [.obj 0, .int (a + 1), .int ((b * 48271 + 11) % 2147483647), .int 0]), ?_, Int.emod_nonneg _ (by omega), Int.emod_lt_of_pos _ (by omega), ?_, by simp⟩
      · have m1 : mulOk b 48271 = true := mulOk_small' (by omega) (by omega)
        simp [g_law_taken, b_law_taken, runD, startL, dRet, dBin, dVar, dC, bindR, bindS, okD, fAdd, fSub, fMul, fIx, L2.atI, L2.ixN, dApp, evA, dThen, dIfS, ifK, dAsg, asgK, asg, dSetIx, setK, fInt, fGt, fMod, fDiv, fLen, dNext, e0, e1, n2, h2, s0, s1, hA, m1, List.set_set]
      · refine ⟨by simp, fun i hi h => ?_, ⟨ro, ns, a + 1, (b * 48271 + 11) % 2147483647, 0, s0 _, s1 _, by omega, Int.emod_nonneg _ (by decide), Int.emod_lt_of_pos _ (by decide), by decide⟩⟩
        rw [List.getElem?_set_ne (Ne.symm h)]
    · have hk : a.toNat < ns.length := by omega
      obtain ⟨v, ek⟩ : ∃ v, ns[a.toNat]'hk = v := ⟨_, rfl⟩
      have m1 : mulOk b 48271 = true := mulOk_small' (by omega) (by omega)
      have ga : ¬ a < 0 := by omega
      have gb : a < (ns.length : Int) := by omega
      refine ⟨v % n, st.set 1 (.lst false [.obj 0, .int (a + 1), .int ((b * 48271 + v + 11) % 2147483647), .int (if 1000000000000000000 ≤ v then v / n else 0)]), ?_, Int.emod_nonneg _ (by omega), Int.emod_lt_of_pos _ (by omega), ?_, by simp⟩
      · by_cases hv : 1000000000000000000 ≤ v
        · simp [g_law_taken, b_law_taken, runD, startL, dRet, dBin, dVar, dC, bindR, bindS, okD, fAdd, fSub, fMul, fIx, L2.atI, L2.ixN, dApp, evA, dThen, dIfS, ifK, dAsg, asgK, asg, dSetIx, setK, fInt, fGt, fGe, fPow, fMod, fDiv, fLen, dNext, dIf, fIf, e0, e1, n2, h2, s0, s1, hA, m1, List.set_set, ha, gb, ek, hv]
        · simp [g_law_taken, b_law_taken, runD, startL, dRet, dBin, dVar, dC, bindR, bindS, okD, fAdd, fSub, fMul, fIx, L2.atI, L2.ixN, dApp, evA, dThen, dIfS, ifK, dAsg, asgK, asg, dSetIx, setK, fInt, fGt, fGe, fPow, fMod, fDiv, fLen, dNext, dIf, fIf, e0, e1, n2, h2, s0, s1, hA, m1, List.set_set, ha, gb, ek, hv]
      · refine ⟨by simp, fun i hi h => ?_, ⟨ro, ns, a + 1, (b * 48271 + v + 11) % 2147483647, if 1000000000000000000 ≤ v then v / n else 0, s0 _, s1 _, by omega, Int.emod_nonneg _ (by decide), Int.emod_lt_of_pos _ (by decide), ?_⟩⟩
        · rw [List.getElem?_set_ne (Ne.symm h)]
        · split
          · exact Int.ediv_nonneg (by omega) (by omega)
          · decide

theorem pick_eq {st : Sto} {L : Nat} {ro : Bool} {l : List D} (h : RowOk st) (hL : st[L]? = some (.lst ro l)) (h1 : L ≠ 1) (hn : 0 < l.length) (h2 : l.length < 1000000) :
    ∃ (k : Nat) (d : D) (st' : Sto), l[k]? = some d ∧ g_law_pick [.obj 1, .obj L] st = some (.ok d, st') ∧ Stp st st' ∧ st'.length = st.length := by
  obtain ⟨k, st', e, k0, k1, s, hl⟩ := taken_eq (n := (l.length : Int)) h (by omega) (by omega)
  have hk : k.toNat < l.length := by omega
  obtain ⟨d, ed⟩ : ∃ d, l[k.toNat]'hk = d := ⟨_, rfl⟩
  have hL' : st'[L]? = some (.lst ro l) := (s.old L (lt_of_get hL) h1).trans hL
  refine ⟨k.toNat, d, st', by rw [List.getElem?_eq_getElem hk, ed], ?_, s, hl⟩
  simp [g_law_pick, b_law_pick, runD, startL, dRet, dBin, dVar, dC, bindR, bindS, okD, fIx, L2.atI, L2.ixN, dApp, evA, fLen, hL, hL', e, k0, k1, ed]
theorem get_push {st : Sto} {c : Cell} : (st ++ [c])[st.length]? = some c := by simp
theorem number_eq {st : Sto} (h : RowOk st) : ∃ k st', g_law_number [.obj 1, .int 60] st = some (.ok (.int k), st') ∧ 0 ≤ k ∧ k ≤ 60 ∧ Stp st st' := by
  have hr := (Stp.push (c := .lst false [.int 1, .int 2, .int 4]) h).row
  have hn1 : st.length ≠ 1 := by
    obtain ⟨ro, ns, a, b, c, e0, e1, _⟩ := h.ex
    have := lt_of_get e1
    omega
  obtain ⟨i, d, st1, hi, e, s, hl⟩ := pick_eq (L := st.length) (l := [.int 1, .int 2, .int 4]) hr get_push hn1 (by decide) (by decide)
  have hd : ∃ n : Int, d = .int n ∧ (n = 1 ∨ n = 2 ∨ n = 4) := by
    rcases i with _ | _ | _ | i
    · exact ⟨1, by simpa using hi.symm, .inl rfl⟩
    · exact ⟨2, by simpa using hi.symm, .inr (.inl rfl)⟩
    · exact ⟨4, by simpa using hi.symm, .inr (.inr rfl)⟩
    · simp at hi
  obtain ⟨n, rfl, hn⟩ := hd
  obtain ⟨k, st2, e2, k0, k1, s2, hl2⟩ := taken_eq (st := st1) (n := 60 / n + 1) s.row (by rcases hn with rfl | rfl | rfl <;> decide) (by rcases hn with rfl | rfl | rfl <;> decide)
  refine ⟨n * k, st2, ?_, ?_, ?_, (Stp.push h).trans (s.trans s2)⟩
  · have m1 : mulOk n k = true := mulOk_small (by omega) (by omega)
    have n0 : 0 < n := by omega
    have n3 : n < 1073741824 := by omega
    simp [g_law_number, b_law_number, runD, startL, dRet, dBin, dVar, dC, bindR, bindS, okD, okL, fAdd, fMul, fDiv, dThen, dAsg, asgK, asg, dApp, evA, fLst, small, LINE, e, e2, m1, n0, n3]
  · rcases hn with rfl | rfl | rfl <;> omega
  · rcases hn with rfl | rfl | rfl <;> omega
/-- four numbers of 0 to 60, no point -/
structure Pc (x y z w : Int) : Prop where
  x0 : 0 ≤ x
  x1 : x ≤ 60
  y0 : 0 ≤ y
  y1 : y ≤ 60
  z0 : 0 ≤ z
  z1 : z ≤ 60
  w0 : 0 ≤ w
  w1 : w ≤ 60
  ne : ¬(x = z ∧ y = w)
abbrev pcD (x y z w : Int) : D := .tup [.int x, .int y, .int z, .int w]
theorem eqD2 (st : Sto) (a b c d : Int) : eqD st (.tup [.int a, .int b]) (.tup [.int c, .int d]) = some (a == c && b == d) := by
  simp [eqD, toP, DEEP, mapO, PyData.eqv, PyData.eqvAll, SeqAt.shaped, PyData.canLay0, PyData.canLayAll0, PyData.depth, PyData.depthAll]
theorem piece_eq {st : Sto} (h : RowOk st) : ∃ x y z w st', g_law_piece [.obj 1, .int 60] st = some (.ok (pcD x y z w), st') ∧ Pc x y z w ∧ Stp st st' := by
  obtain ⟨x, st1, e1, x0, x1, s1⟩ := number_eq h
  obtain ⟨y, st2, e2, y0, y1, s2⟩ := number_eq s1.row
  obtain ⟨z, st3, e3, z0, z1, s3⟩ := number_eq s2.row
  obtain ⟨w, st4, e4, w0, w1, s4⟩ := number_eq s3.row
  by_cases hp : x = z ∧ y = w
  · obtain ⟨rfl, rfl⟩ := hp
    by_cases hy : y < 60
    · refine ⟨x, y, x, y + 1, st4, ?_, ⟨x0, x1, y0, y1, x0, x1, by omega, by omega, by omega⟩, s1.trans (s2.trans (s3.trans s4))⟩
      simp [g_law_piece, b_law_piece, runD, startL, dRet, dBin, dVar, dC, bindR, bindS, okD, fAdd, fSub, fIx, fLt, fEq, eqD2, L2.atI, L2.ixN, dThen, dIfS, ifK, dIf, fIf, dNext, dAsg, asgK, asg, dApp, evA, fTup, small, LINE, e1, e2, e3, e4, hy]
    · refine ⟨x, y, x, y - 1, st4, ?_, ⟨x0, x1, y0, y1, x0, x1, by omega, by omega, by omega⟩, s1.trans (s2.trans (s3.trans s4))⟩
      simp [g_law_piece, b_law_piece, runD, startL, dRet, dBin, dVar, dC, bindR, bindS, okD, fAdd, fSub, fIx, fLt, fEq, eqD2, L2.atI, L2.ixN, dThen, dIfS, ifK, dIf, fIf, dNext, dAsg, asgK, asg, dApp, evA, fTup, small, LINE, e1, e2, e3, e4, hy]
  · refine ⟨x, y, z, w, st4, ?_, ⟨x0, x1, y0, y1, z0, z1, w0, w1, hp⟩, s1.trans (s2.trans (s3.trans s4))⟩
    have hb : (x == z && y == w) = false := by
      simpa using fun a b => hp ⟨a, b⟩
    simp [g_law_piece, b_law_piece, runD, startL, dRet, dBin, dVar, dC, bindR, bindS, okD, fAdd, fSub, fIx, fLt, fEq, eqD2, L2.atI, L2.ixN, dThen, dIfS, ifK, dIf, fIf, dNext, dAsg, asgK, asg, dApp, evA, fTup, small, LINE, e1, e2, e3, e4, hb]
end K01
end
section
set_option maxRecDepth 100000
set_option maxHeartbeats 1000000
namespace K01
open PySem L2 MP
theorem kb1 : kitB "int" "int" = some true := by decide +kernel
theorem kb2 : kitB "int" "bool" = some false := by decide +kernel
theorem kb3 : kitB "bool" "int" = some true := by decide +kernel
theorem kb4 : kitB "bool" "bool" = some true := by decide +kernel
theorem isn_int (i lo hi : Int) (st : Sto) : gis_number [.int i, .int lo, .int hi] st = some (.ok (.bl (decide (lo ≤ i) && decide (i ≤ hi))), st) := by
  by_cases h : lo ≤ i <;> simp [gis_number, bis_number, runD, startL, dRet, dBin, dUn, dVar, dC, bindR, bindS, okD, dAnd, fAnd, fNot, fIsi, isiD, dChain, fCh, fLe, kb1, kb2, h]
theorem isn_bl (b : Bool) (lo hi : Int) (st : Sto) : gis_number [.bl b, .int lo, .int hi] st = some (.ok (.bl false), st) := by
  simp [gis_number, bis_number, runD, startL, dRet, dBin, dUn, dVar, dC, bindR, bindS, okD, dAnd, fAnd, fNot, fIsi, isiD, dChain, fCh, fLe, kb3, kb4]
theorem set_push {st : Sto} {c d : Cell} : (st ++ [c]).set st.length d = st ++ [d] := by simp
theorem eqD1 (st : Sto) (a b : Int) : eqD st (.int a) (.int b) = some (a == b) := by
  simp [eqD, toP, DEEP, PyData.eqv, SeqAt.shaped, PyData.canLay0, PyData.depth]
theorem cut_l (a b c d : D) : cutD [a, b, c, d] none (some 2) = [a, b] := rfl
theorem cut_r (a b c d : D) : cutD [a, b, c, d] (some 2) none = [c, d] := rfl
theorem isp_yes {x y z w : Int} {st : Sto} (h : RowOk st) (p : Pc x y z w) : ∃ st', gis_piece [pcD x y z w] st = some (.ok (.bl true), st') ∧ Stp st st' := by
  obtain ⟨x0, x1, y0, y1, z0, z1, w0, w1, ne⟩ := p
  have hb : (x == z && y == w) = false := by
    simpa using fun a b => ne ⟨a, b⟩
  refine ⟨st ++ [.lst false [.bl true, .bl true, .bl true, .bl true]], ?_, .push h⟩
  simp [gis_piece, bis_piece, runD, startL, dRet, dBin, dUn, dVar, dC, bindR, bindS, okD, dOr, fOr, fNot, fNe, dThen, dIfS, ifK, dNext, dApp, evA, fLen, fAll, dLc, dSeq, bindI, fSeq, compD, gdB, asg, bindO, dYes, wipeL, isn_int, LINE, get_push, set_push, fTru, truD, blsOf, dSl, evO, fSl, x0, x1, y0, y1, z0, z1, w0, w1, eqD1, eqD2, cut_l, cut_r, hb]

def odd : List D := [.tup [], .tup [.int 0, .int 0, .int 5], .tup [.int 0, .int 0, .int 5, .int 5, .int 5], .tup [.int 0, .int 0, .int 0, .int 0], .tup [.int 7, .int 9, .int 7, .int 9], .tup [.int (-1), .int 0, .int 5, .int 5], .tup [.int 0, .int 61, .int 5, .int 5], .tup [.bl true, .int 0, .int 5, .int 5]]
theorem isp_no {d : D} {st : Sto} (h : RowOk st) (hd : d ∈ odd) : ∃ st', gis_piece [d] st = some (.ok (.bl false), st') ∧ Stp st st' := by
  simp only [odd, List.mem_cons, List.not_mem_nil, or_false] at hd
  rcases hd with rfl | rfl | rfl | rfl | rfl | rfl | rfl | rfl
  · refine ⟨st, ?_, .refl h⟩
    simp [gis_piece, bis_piece, runD, startL, dRet, dBin, dUn, dVar, dC, bindR, bindS, okD, dOr, fOr, fNot, fNe, dThen, dIfS, ifK, dNext, dApp, evA, fLen, eqD1]
  · refine ⟨st, ?_, .refl h⟩
    simp [gis_piece, bis_piece, runD, startL, dRet, dBin, dUn, dVar, dC, bindR, bindS, okD, dOr, fOr, fNot, fNe, dThen, dIfS, ifK, dNext, dApp, evA, fLen, eqD1]
  · refine ⟨st, ?_, .refl h⟩
    simp [gis_piece, bis_piece, runD, startL, dRet, dBin, dUn, dVar, dC, bindR, bindS, okD, dOr, fOr, fNot, fNe, dThen, dIfS, ifK, dNext, dApp, evA, fLen, eqD1]
  · refine ⟨st ++ [.lst false [.bl true, .bl true, .bl true, .bl true]], ?_, .push h⟩
    simp [gis_piece, bis_piece, runD, startL, dRet, dBin, dUn, dVar, dC, bindR, bindS, okD, dOr, fOr, fNot, fNe, dThen, dIfS, ifK, dNext, dApp, evA, fLen, fAll, dLc, dSeq, bindI, fSeq, compD, gdB, asg, bindO, dYes, wipeL, isn_int, isn_bl, LINE, get_push, set_push, fTru, truD, blsOf, dSl, evO, fSl, eqD1, eqD2, cut_l, cut_r]
  · refine ⟨st ++ [.lst false [.bl true, .bl true, .bl true, .bl true]], ?_, .push h⟩
    simp [gis_piece, bis_piece, runD, startL, dRet, dBin, dUn, dVar, dC, bindR, bindS, okD, dOr, fOr, fNot, fNe, dThen, dIfS, ifK, dNext, dApp, evA, fLen, fAll, dLc, dSeq, bindI, fSeq, compD, gdB, asg, bindO, dYes, wipeL, isn_int, isn_bl, LINE, get_push, set_push, fTru, truD, blsOf, dSl, evO, fSl, eqD1, eqD2, cut_l, cut_r]
  · refine ⟨st ++ [.lst false [.bl false, .bl true, .bl true, .bl true]], ?_, .push h⟩
    simp [gis_piece, bis_piece, runD, startL, dRet, dBin, dUn, dVar, dC, bindR, bindS, okD, dOr, fOr, fNot, fNe, dThen, dIfS, ifK, dNext, dApp, evA, fLen, fAll, dLc, dSeq, bindI, fSeq, compD, gdB, asg, bindO, dYes, wipeL, isn_int, isn_bl, LINE, get_push, set_push, fTru, truD, blsOf, dSl, evO, fSl, eqD1, eqD2, cut_l, cut_r]
  · refine ⟨st ++ [.lst false [.bl true, .bl false, .bl true, .bl true]], ?_, .push h⟩
    simp [gis_piece, bis_piece, runD, startL, dRet, dBin, dUn, dVar, dC, bindR, bindS, okD, dOr, fOr, fNot, fNe, dThen, dIfS, ifK, dNext, dApp, evA, fLen, fAll, dLc, dSeq, bindI, fSeq, compD, gdB, asg, bindO, dYes, wipeL, isn_int, isn_bl, LINE, get_push, set_push, fTru, truD, blsOf, dSl, evO, fSl, eqD1, eqD2, cut_l, cut_r]
  · refine ⟨st ++ [.lst false [.bl false, .bl true, .bl true, .bl true]], ?_, .push h⟩
    simp [gis_piece, bis_piece, runD, startL, dRet, dBin, dUn, dVar, dC, bindR, bindS, okD, dOr, fOr, fNot, fNe, dThen, dIfS, ifK, dNext, dApp, evA, fLen, fAll, dLc, dSeq, bindI, fSeq, compD, gdB, asg, bindO, dYes, wipeL, isn_int, isn_bl, LINE, get_push, set_push, fTru, truD, blsOf, dSl, evO, fSl, eqD1, eqD2, cut_l, cut_r]
end K01
end
section
set_option maxRecDepth 100000
set_option maxHeartbeats 1000000
namespace K01
open PySem L2 MP
theorem cross_eq (a0 a1 b0 b1 : Int) (st : Sto) (h1 : mulOk a0 b1 = true) (h2 : mulOk a1 b0 = true) : gcross [.tup [.int a0, .int a1], .tup [.int b0, .int b1]] st = some (.ok (.int (a0 * b1 - a1 * b0)), st) := by
  simp [gcross, bcross, runD, startL, dRet, dBin, dVar, dC, bindR, bindS, okD, fSub, fMul, fIx, L2.atI, L2.ixN, h1, h2]
theorem way_of_eq (a0 a1 b0 b1 : Int) (st : Sto) : gway_of [pcD a0 a1 b0 b1] st = some (.ok (.tup [.int (b0 - a0), .int (b1 - a1)]), st) := by
  simp [gway_of, bway_of, runD, startL, dRet, dBin, dVar, dC, bindR, bindS, okD, fSub, fMul, fIx, L2.atI, L2.ixN, dApp, evA, fTup, small, LINE]
theorem way_bet_eq (a0 a1 b0 b1 c0 c1 d0 d1 : Int) (st : Sto) : gway_between [pcD a0 a1 b0 b1, pcD c0 c1 d0 d1] st = some (.ok (.tup [.int (c0 - a0), .int (c1 - a1)]), st) := by
  simp [gway_between, bway_between, runD, startL, dRet, dBin, dVar, dC, bindR, bindS, okD, fSub, fMul, fIx, L2.atI, L2.ixN, dApp, evA, fTup, small, LINE]
/-- a point before another, by its numbers -/
def lt2 (p q : Int × Int) : Bool := decide (p.1 < q.1 ∨ (p.1 = q.1 ∧ p.2 < q.2))
theorem lex2 (a b c d : Int) : HT.lexLt [a, b] [c, d] = lt2 (a, b) (c, d) := by
  rw [HT.lexLt_cons, HT.lexLt_cons, HT.lexLt_nil_nil]
  unfold lt2
  by_cases h : a = c
  · subst h
    by_cases h2 : b = d
    · subst h2
      simp
    · simp [h2]
  · simp [h]
def mx (p q : Int × Int) : Int × Int := if lt2 p q then q else p
def mn (p q : Int × Int) : Int × Int := if lt2 q p then q else p
abbrev ptD (p : Int × Int) : D := .tup [.int p.1, .int p.2]
theorem max2_eq (p q : Int × Int) (st : Sto) : fMax2D [ptD p, ptD q] st = some (.ok (ptD (mx p q)), st) := by
  obtain ⟨a, b⟩ := p
  obtain ⟨c, d⟩ := q
  simp only [fMax2D, intsOf, lex2, mx, okD, ptD]
  by_cases h : lt2 (a, b) (c, d) = true <;> simp [h]
theorem min2_eq (p q : Int × Int) (st : Sto) : fMin2D [ptD p, ptD q] st = some (.ok (ptD (mn p q)), st) := by
  obtain ⟨a, b⟩ := p
  obtain ⟨c, d⟩ := q
  simp only [fMin2D, intsOf, lex2, mn, okD, ptD]
  by_cases h : lt2 (c, d) (a, b) = true <;> simp [h]
def start (a b c d : Int × Int) : Int × Int := mx (mn a b) (mn c d)
def stop (a b c d : Int × Int) : Int × Int := mn (mx a b) (mx c d)
theorem shared_eq (a0 a1 b0 b1 c0 c1 d0 d1 : Int) (st : Sto) : gshared_stretch [pcD a0 a1 b0 b1, pcD c0 c1 d0 d1] st =
    some (.ok (.tup [ptD (start (a0, a1) (b0, b1) (c0, c1) (d0, d1)), ptD (stop (a0, a1) (b0, b1) (c0, c1) (d0, d1))]), st) := by
  have e1 := min2_eq (a0, a1) (b0, b1) st
  have e2 := min2_eq (c0, c1) (d0, d1) st
  have e3 := max2_eq (a0, a1) (b0, b1) st
  have e4 := max2_eq (c0, c1) (d0, d1) st
  have e5 := max2_eq (mn (a0, a1) (b0, b1)) (mn (c0, c1) (d0, d1)) st
  have e6 := min2_eq (mx (a0, a1) (b0, b1)) (mx (c0, c1) (d0, d1)) st
  simp only [ptD] at e1 e2 e3 e4 e5 e6
  simp [gshared_stretch, bshared_stretch, runD, startL, dRet, dVar, dC, bindR, bindS, okD, dApp, evA, fTup, small, LINE, dThen, dAsg, asgK, asg, dSl, evO, fSl, cut_l, cut_r, e1, e2, e3, e4, e5, e6, start, stop]
theorem lt_eq (p q : Int × Int) (st : Sto) : fLt (ptD p) (ptD q) st = some (.ok (.bl (lt2 p q)), st) := by
  obtain ⟨a, b⟩ := p
  obtain ⟨c, d⟩ := q
  simp [fLt, intsOf, lex2, okD]
/-- what the program says of two pieces -/
def along (a b c d : Int × Int) : Bool := decide ((b.1 - a.1) * (d.2 - c.2) - (b.2 - a.2) * (d.1 - c.1) = 0) && (decide ((b.1 - a.1) * (c.2 - a.2) - (b.2 - a.2) * (c.1 - a.1) = 0) && lt2 (start a b c d) (stop a b c d))
theorem along_eq {a0 a1 b0 b1 c0 c1 d0 d1 : Int} (p : Pc a0 a1 b0 b1) (q : Pc c0 c1 d0 d1) (st : Sto) : glies_along [pcD a0 a1 b0 b1, pcD c0 c1 d0 d1] st = some (.ok (.bl (along (a0, a1) (b0, b1) (c0, c1) (d0, d1))), st) := by
  obtain ⟨x0, x1, y0, y1, z0, z1, w0, w1, ne⟩ := p
  obtain ⟨x0', x1', y0', y1', z0', z1', w0', w1', ne'⟩ := q
  have e1 := cross_eq (b0 - a0) (b1 - a1) (d0 - c0) (d1 - c1) st (mulOk_small (by omega) (by omega)) (mulOk_small (by omega) (by omega))
  have e2 := cross_eq (b0 - a0) (b1 - a1) (c0 - a0) (c1 - a1) st (mulOk_small (by omega) (by omega)) (mulOk_small (by omega) (by omega))
  have e3 := lt_eq (start (a0, a1) (b0, b1) (c0, c1) (d0, d1)) (stop (a0, a1) (b0, b1) (c0, c1) (d0, d1)) st
  simp only [ptD] at e3
  by_cases h1 : (b0 - a0) * (d1 - c1) - (b1 - a1) * (d0 - c0) = 0
  · by_cases h2 : (b0 - a0) * (c1 - a1) - (b1 - a1) * (c0 - a0) = 0
    · simp [glies_along, blies_along, runD, startL, dRet, dBin, dVar, dC, bindR, bindS, okD, dApp, evA, dThen, dAsg, asgK, asg, asgs, dIfS, ifK, dOr, fOr, fNe, dNext, way_of_eq, way_bet_eq, e1, e2, h1, h2, eqD1, shared_eq, e3, along]
    · have h2' := beq_eq_false_iff_ne.mpr h2
      simp [glies_along, blies_along, runD, startL, dRet, dBin, dVar, dC, bindR, bindS, okD, dApp, evA, dThen, dAsg, asgK, asg, asgs, dIfS, ifK, dOr, fOr, fNe, dNext, way_of_eq, way_bet_eq, e1, e2, h1, h2, h2', eqD1, shared_eq, e3, along]
  · have h1' := beq_eq_false_iff_ne.mpr h1
    simp [glies_along, blies_along, runD, startL, dRet, dBin, dVar, dC, bindR, bindS, okD, dApp, evA, dThen, dAsg, asgK, asg, asgs, dIfS, ifK, dOr, fOr, fNe, dNext, way_of_eq, way_bet_eq, e1, e2, h1, h1', eqD1, shared_eq, e3, along]
end K01
end
section
set_option maxRecDepth 100000
set_option maxHeartbeats 1000000
namespace K01
open PySem L2 MP
abbrev P4 := (Int × Int) × (Int × Int)
abbrev pd (p : P4) : D := pcD p.1.1 p.1.2 p.2.1 p.2.2
abbrev Pv (p : P4) : Prop := Pc p.1.1 p.1.2 p.2.1 p.2.2
abbrev alongP (p q : P4) : Bool := along p.1 p.2 q.1 q.2
/-- [f x for x in a tuple] where f only looks -/
theorem compD_map {i k : Nat} {de : De} {lsw : Ls} {α : Type} {toD : α → D} {f : α → D} : ∀ {xs : List α} {st : Sto} {acc : List D}, (∀ x ∈ xs, ∀ st, de (lsw.set i (some (toD x))) st = okD (f x) st) → st[k]? = some (.lst false acc) → acc.length + xs.length < LINE →
    compD none (.nm i) dYes de k lsw (xs.map toD) st = okD (.obj k) (st.set k (.lst false (acc ++ xs.map f)))
  | [], st, acc, _, h, _ => by
    have e : st.set k (.lst false acc) = st := by
      apply List.ext_getElem?
      intro j
      by_cases hj : k = j
      · subst hj
        rw [List.getElem?_set_self (lt_of_get h), h]
      · rw [List.getElem?_set_ne hj]
    simp [compD, gdB, e]
  | x :: xs, st, acc, hf, h, hl => by
    have h1 := hf x (List.mem_cons_self ..) st
    have hl' : acc.length < LINE := by simp at hl; omega
    have ih := compD_map (st := st.set k (.lst false (acc ++ [f x]))) (acc := acc ++ [f x]) (i := i) (k := k) (de := de) (lsw := lsw) (toD := toD) (f := f) (xs := xs) (fun y hy => hf y (List.mem_cons_of_mem _ hy)) (List.getElem?_set_self (lt_of_get h)) (by simp at hl ⊢; omega)
    rw [List.map_cons, compD]
    simp only [gdB, if_true, asg, dYes, okD, bindO]
    rw [h1]
    simp only [okD]
    rw [h]
    simp only [hl', if_true]
    rw [ih, List.set_set]
    simp [okD, List.append_assoc]
theorem any_eq {p : P4} {qs : List P4} {st : Sto} (h : RowOk st) (hp : Pv p) (hq : ∀ q ∈ qs, Pv q) (hl : qs.length < 1000) : ∃ st', glies_along_any [pd p, .tup (qs.map pd)] st = some (.ok (.bl (qs.any (alongP p))), st') ∧ Stp st st' := by
  refine ⟨st ++ [.lst false (qs.map fun q => D.bl (alongP p q))], ?_, .push h⟩
  have e := compD_map (i := 2) (k := st.length) (de := dApp glies_along [dVar 0, dVar 2]) (lsw := [some (pd p), some (.tup (qs.map pd)), none]) (toD := pd) (f := fun q => D.bl (alongP p q)) (xs := qs) (st := st ++ [.lst false []]) (acc := [])
    (fun q hqm st => by
      have e := along_eq hp (hq q hqm) st
      simp [dApp, evA, dVar, okD, e]) get_push (by simp [LINE]; omega)
  have hb : blsOf (qs.map fun q => D.bl (alongP p q)) = some (qs.map (alongP p)) := by
    clear e hl hq
    induction qs with
    | nil => rfl
    | cons q r ih => simp [blsOf, ih]
  rw [set_push] at e
  simp only [List.nil_append] at e
  simp [glies_along_any, blies_along_any, runD, startL, dRet, dVar, bindR, bindS, okD, dApp, evA, dLc, dSeq, bindI, fSeq, wipeL, fAny, hb, List.any_map] at e ⊢
  rw [e]
  simp [hb, List.any_map]

def lo (a b : Int) : Int := if b < a then b else a
def hi (a b : Int) : Int := if a < b then b else a
theorem minI_eq (a b : Int) (st : Sto) : fMin2D [.int a, .int b] st = some (.ok (.int (lo a b)), st) := by
  unfold lo
  by_cases h : b < a <;> simp [fMin2D, okD, h]
theorem maxI_eq (a b : Int) (st : Sto) : fMax2D [.int a, .int b] st = some (.ok (.int (hi a b)), st) := by
  unfold hi
  by_cases h : a < b <;> simp [fMax2D, okD, h]
def btw (a b e : Int) : Bool := decide (lo a b ≤ e) && decide (e ≤ hi a b)
def onB (p : P4) (e : Int × Int) : Bool := btw p.1.1 p.2.1 e.1 && btw p.1.2 p.2.2 e.2
theorem chain_eq (a b e : Int) (st : Sto) (ls : Ls) (da db de : De) (ha : da ls st = okD (.int a) st) (hb : db ls st = okD (.int e) st) (hc : de ls st = okD (.int b) st) : dChain fLe fLe da db de ls st = okD (.bl (decide (a ≤ e) && decide (e ≤ b))) st := by
  by_cases h : a ≤ e <;> simp [dChain, ha, hb, hc, bindR, okD, fLe, fCh, h]
theorem on_eq (p : P4) (e : Int × Int) (st : Sto) : g_law_is_on [pd p, ptD e] st = some (.ok (.bl (onB p e)), st) := by
  obtain ⟨⟨a, b⟩, ⟨c, d⟩⟩ := p
  obtain ⟨x, y⟩ := e
  cases h1 : btw a c x with
  | true =>
    unfold btw at h1
    cases h2 : btw b d y with
    | true =>
      unfold btw at h2
      have hr : onB ((a, b), (c, d)) (x, y) = true := by simp [onB, btw, h1, h2]
      simp at h1 h2
      simp [g_law_is_on, b_law_is_on, runD, startL, dRet, dBin, dUn, dVar, dC, bindR, bindS, okD, dApp, evA, fTup, small, LINE, dThen, dIfS, ifK, dNext, dFor, dSeq, bindI, fSeq, forD, gdB, asg, fAdd, fIx, L2.atI, L2.ixN, dChain, fCh, fLe, fNot, minI_eq, maxI_eq, h1, h2, hr]
    | false =>
      unfold btw at h2
      have hr : onB ((a, b), (c, d)) (x, y) = false := by simp [onB, btw, h2]
      simp at h1 h2
      by_cases h3 : lo b d ≤ y
      · have h4 : ¬ y ≤ hi b d := by have := h2 h3; omega
        simp [g_law_is_on, b_law_is_on, runD, startL, dRet, dBin, dUn, dVar, dC, bindR, bindS, okD, dApp, evA, fTup, small, LINE, dThen, dIfS, ifK, dNext, dFor, dSeq, bindI, fSeq, forD, gdB, asg, fAdd, fIx, L2.atI, L2.ixN, dChain, fCh, fLe, fNot, minI_eq, maxI_eq, h1, h3, h4, hr]
      · simp [g_law_is_on, b_law_is_on, runD, startL, dRet, dBin, dUn, dVar, dC, bindR, bindS, okD, dApp, evA, fTup, small, LINE, dThen, dIfS, ifK, dNext, dFor, dSeq, bindI, fSeq, forD, gdB, asg, fAdd, fIx, L2.atI, L2.ixN, dChain, fCh, fLe, fNot, minI_eq, maxI_eq, h1, h3, hr]
  | false =>
    unfold btw at h1
    have hr : onB ((a, b), (c, d)) (x, y) = false := by simp [onB, btw, h1]
    simp at h1
    by_cases h3 : lo a c ≤ x
    · have h4 : ¬ x ≤ hi a c := by have := h1 h3; omega
      simp [g_law_is_on, b_law_is_on, runD, startL, dRet, dBin, dUn, dVar, dC, bindR, bindS, okD, dApp, evA, fTup, small, LINE, dThen, dIfS, ifK, dNext, dFor, dSeq, bindI, fSeq, forD, gdB, asg, fAdd, fIx, L2.atI, L2.ixN, dChain, fCh, fLe, fNot, minI_eq, maxI_eq, h3, h4, hr]
    · simp [g_law_is_on, b_law_is_on, runD, startL, dRet, dBin, dUn, dVar, dC, bindR, bindS, okD, dApp, evA, fTup, small, LINE, dThen, dIfS, ifK, dNext, dFor, dSeq, bindI, fSeq, forD, gdB, asg, fAdd, fIx, L2.atI, L2.ixN, dChain, fCh, fLe, fNot, minI_eq, maxI_eq, h3, hr]
end K01
end
section
set_option maxRecDepth 100000
set_option maxHeartbeats 4000000
namespace K01
open PySem L2 MP
def row2 (e : Int × Int) : List Int := [e.1, e.2]
def shared (p q : P4) : List (Int × Int) := [p.1, p.2, q.1, q.2].filter fun e => onB p e && onB q e
def noCommon (p q : P4) : Bool := decide ((p.2.1 - p.1.1) * (q.2.2 - q.1.2) - (p.2.2 - p.1.2) * (q.2.1 - q.1.1) = 0) && (decide ((p.2.1 - p.1.1) * (q.1.2 - p.1.2) = (p.2.2 - p.1.2) * (q.1.1 - p.1.1)) && decide (2 ≤ (sortU ((shared p q).map row2)).length))
theorem rowsOf_pt : ∀ l : List (Int × Int), MP.rowsOf (l.map ptD) = some (l.map row2)
  | [] => rfl
  | e :: l => by
    rw [List.map_cons, MP.rowsOf, rowsOf_pt l]
    rfl
theorem sort_eq {l : List (Int × Int)} {st : Sto} {n : Nat} {ro : Bool} (hn : st[n]? = some (.lst ro (l.map ptD))) (h : ∀ e ∈ l, 0 ≤ e.1 ∧ 0 ≤ e.2) (hl : l.length < 64) : fSortSet (.obj n) st = okL ((sortU (l.map row2)).map tupI) st := by
  have ok : rowsOk (l.map row2) = true := by
    unfold rowsOk
    rw [Bool.and_eq_true]
    refine ⟨by simpa using hl, ?_⟩
    rw [List.all_eq_true]
    intro x hx
    obtain ⟨e, he, rfl⟩ := List.mem_map.mp hx
    cases l with
    | nil => cases he
    | cons e0 r => simp [row2, h e he]
  simp only [fSortSet, hn, rowsOf_pt, ok, if_true]
theorem dThen_next {d1 d2 : Ds} {ls ls1 : Ls} {st st1 : Sto} (h : d1 ls st = some (.next, ls1, st1)) : dThen d1 d2 ls st = d2 ls1 st1 := by
  unfold dThen
  rw [h]
theorem dThen_ret {d1 d2 : Ds} {ls ls1 : Ls} {st st1 : Sto} {d : D} (h : d1 ls st = some (.ret d, ls1, st1)) : dThen d1 d2 ls st = some (.ret d, ls1, st1) := by
  unfold dThen
  rw [h]
theorem dIf_true {dc : De} {d1 d2 : Ds} {ls : Ls} {st st1 : Sto} (h : dc ls st = okD (.bl true) st1) : dIfS dc d1 d2 ls st = d1 ls st1 := by
  unfold dIfS
  rw [h]
  rfl
theorem dIf_false {dc : De} {d1 d2 : Ds} {ls : Ls} {st st1 : Sto} (h : dc ls st = okD (.bl false) st1) : dIfS dc d1 d2 ls st = d2 ls st1 := by
  unfold dIfS
  rw [h]
  rfl
theorem run_ret {n : Nat} {db : Ds} {ds : List D} {ls : Ls} {st st1 : Sto} {d : D} (h : db (startL n ds) st = some (.ret d, ls, st1)) : runD n db ds st = some (.ok d, st1) := by
  unfold runD
  rw [h]
  rfl
theorem dAsg_next {da : De} {t : Tg} {ls ls1 : Ls} {st st1 : Sto} {d : D} (h : da ls st = okD d st1) (ha : asg t d ls = some ls1) : dAsg da t ls st = some (.next, ls1, st1) := by
  unfold dAsg
  rw [h]
  simp [bindS, okD, asgK, ha]
theorem dRet_ok {da : De} {ls : Ls} {st st1 : Sto} {d : D} (h : da ls st = okD d st1) : dRet da ls st = some (.ret d, ls, st1) := by
  unfold dRet
  rw [h]
  simp [bindS, okD]
/-- [f x for x in a tuple if c x], f and c only look -/
theorem compD_filter {i k : Nat} {dt de : De} {lsw : Ls} {α : Type} {toD : α → D} {c : α → Bool} {f : α → D} : ∀ {xs : List α} {st : Sto} {acc : List D}, (∀ x ∈ xs, ∀ st, dt (lsw.set i (some (toD x))) st = okD (.bl (c x)) st) → (∀ x ∈ xs, ∀ st, de (lsw.set i (some (toD x))) st = okD (f x) st) → st[k]? = some (.lst false acc) → acc.length + xs.length < LINE →
    compD none (.nm i) dt de k lsw (xs.map toD) st = okD (.obj k) (st.set k (.lst false (acc ++ (xs.filter c).map f)))
  | [], st, acc, _, _, h, _ => by
    have e : st.set k (.lst false acc) = st := by
      apply List.ext_getElem?
      intro j
      by_cases hj : k = j
      · subst hj
        rw [List.getElem?_set_self (lt_of_get h), h]
      · rw [List.getElem?_set_ne hj]
    simp [compD, gdB, e]
  | x :: xs, st, acc, hc, hf, h, hl => by
    have h0 := hc x (List.mem_cons_self ..) st
    have h1 := hf x (List.mem_cons_self ..) st
    have hl' : acc.length < LINE := by simp at hl; omega
    rw [List.map_cons, compD]
    simp only [gdB, if_true, asg, bindO]
    rw [h0]
    simp only [okD]
    cases hb : c x with
    | true =>
      have ih := compD_filter (st := st.set k (.lst false (acc ++ [f x]))) (acc := acc ++ [f x]) (i := i) (k := k) (dt := dt) (de := de) (lsw := lsw) (toD := toD) (f := f) (c := c) (xs := xs) (fun y hy => hc y (List.mem_cons_of_mem _ hy)) (fun y hy => hf y (List.mem_cons_of_mem _ hy)) (List.getElem?_set_self (lt_of_get h)) (by simp at hl ⊢; omega)
      simp only []
      rw [h1]
      simp only [okD]
      rw [h]
      simp only [hl', if_true]
      rw [ih, List.set_set]
      simp [okD, List.append_assoc, hb]
    | false =>
      have ih := compD_filter (st := st) (acc := acc) (i := i) (k := k) (dt := dt) (de := de) (lsw := lsw) (toD := toD) (f := f) (c := c) (xs := xs) (fun y hy => hc y (List.mem_cons_of_mem _ hy)) (fun y hy => hf y (List.mem_cons_of_mem _ hy)) h (by simp at hl ⊢; omega)
      simp only []
      rw [ih]
      simp [okD, hb]
def rowP (r : List Int) : PyData := .tuple (r.map .int)
theorem toP_ints (st : Sto) (n : Nat) : ∀ r : List Int, mapO (toP st (n + 1)) (r.map D.int) = some (r.map PyData.int)
  | [] => rfl
  | i :: r => by
    rw [List.map_cons, mapO, toP_ints st n r]
    rfl
theorem toP_rows (st : Sto) (n : Nat) : ∀ rows : List (List Int), mapO (toP st (n + 2)) (rows.map tupI) = some (rows.map rowP)
  | [] => rfl
  | r :: rows => by
    have e : toP st (n + 2) (tupI r) = some (rowP r) := by
      simp only [tupI, toP, toP_ints]
      rfl
    rw [List.map_cons, mapO, e, toP_rows st n rows]
    rfl
theorem lay_ints : ∀ r : List Int, PyData.canLayAll0 (r.map .int) = true
  | [] => by simp [PyData.canLayAll0]
  | i :: r => by simp [PyData.canLayAll0, PyData.canLay0, lay_ints r]
theorem lay_rows : ∀ rows : List (List Int), PyData.canLayAll0 (rows.map rowP) = true
  | [] => by simp [PyData.canLayAll0]
  | r :: rows => by simp [PyData.canLayAll0, rowP, PyData.canLay0, lay_ints r, lay_rows rows]
theorem dep_ints : ∀ r : List Int, PyData.depthAll (r.map .int) = 0
  | [] => by simp [PyData.depthAll]
  | i :: r => by simp [PyData.depthAll, PyData.depth, dep_ints r]
theorem dep_rows : ∀ rows : List (List Int), PyData.depthAll (rows.map rowP) ≤ 1
  | [] => by simp [PyData.depthAll]
  | r :: rows => by
    have := dep_rows rows
    simp [PyData.depthAll, rowP, PyData.depth, dep_ints r]
    exact Nat.max_le.mpr ⟨Nat.le_refl _, this⟩
theorem eqD_nil {st : Sto} {n m : Nat} {ro ro' : Bool} {rows : List (List Int)} (h : st[n]? = some (.lst ro (rows.map tupI))) (h' : st[m]? = some (.lst ro' [])) : eqD st (.obj n) (.obj m) = some rows.isEmpty := by
  have e1 : toP st DEEP (.obj n) = some (.list (rows.map rowP)) := by
    show toP st 8 (.obj n) = _
    simp only [toP, h, toP_rows st 5 rows]
  have e2 : toP st DEEP (.obj m) = some (.list []) := by
    show toP st 8 (.obj m) = _
    simp only [toP, h', mapO]
  have s1 : SeqAt.shaped (.list (rows.map rowP)) = true := by
    have := dep_rows rows
    simp [SeqAt.shaped, PyData.canLay0, lay_rows, PyData.depth]
    omega
  have s2 : SeqAt.shaped (.list []) = true := by
    simp [SeqAt.shaped, PyData.canLay0, PyData.canLayAll0, PyData.depth, PyData.depthAll]
  simp only [eqD, e1, e2, s1, s2, Bool.and_self, if_true]
  cases rows with
  | nil => simp [PyData.eqv, PyData.eqvAll]
  | cons r t => simp [PyData.eqv, PyData.eqvAll]
theorem dOr_bl {da db : De} {ls : Ls} {st : Sto} {a b : Bool} (ha : da ls st = okD (.bl a) st) (hb : db ls st = okD (.bl b) st) : dOr da db ls st = okD (.bl (a || b)) st := by
  unfold dOr
  rw [ha]
  cases a with
  | true => rfl
  | false => exact hb
/-- what the law's common says of two pieces, as far as None goes -/
theorem common_eq {p q : P4} {st : Sto} (h : RowOk st) (hp : Pv p) (hq : Pv q) : ∃ d st', g_law_common [pd p, pd q] st = some (.ok d, st') ∧ MP.isNon d = noCommon p q ∧ Stp st st' := by
  obtain ⟨⟨x, y⟩, ⟨z, w⟩⟩ := p
  obtain ⟨⟨x', y'⟩, ⟨z', w'⟩⟩ := q
  obtain ⟨x0, x1, y0, y1, z0, z1, w0, w1, ne⟩ := hp
  obtain ⟨x0', x1', y0', y1', z0', z1', w0', w1', ne'⟩ := hq
  simp only at x0 x1 y0 y1 z0 z1 w0 w1 ne x0' x1' y0' y1' z0' z1' w0' w1' ne'
  have m1 : ∀ j, mulOk (z - x) j = true := fun j => mulOk_small (by omega) (by omega)
  have m2 : ∀ j, mulOk (w - y) j = true := fun j => mulOk_small (by omega) (by omega)
  have m3 : ∀ j, mulOk (x' - x) j = true := fun j => mulOk_small (by omega) (by omega)
  have m4 : ∀ j, mulOk (y' - y) j = true := fun j => mulOk_small (by omega) (by omega)
  have m5 : ∀ j, mulOk x j = true := fun j => mulOk_small (by omega) (by omega)
  have m6 : ∀ j, mulOk y j = true := fun j => mulOk_small (by omega) (by omega)
  have m7 : ∀ j, mulOk j 1 = true := fun j => mulOk_small' (by omega) (by omega)
  have m8 : ∀ j, mulOk j (-1) = true := fun j => mulOk_small' (by omega) (by omega)
  have key : ∀ (r : D) (st' : Sto), (∃ l', dThen (dIfS (dBin fNe (dVar 8) (dC (.int 0))) _ dNext) _ [some (pcD x y z w), some (pcD x' y' z' w'), some (.int (z - x)), some (.int (w - y)), some (.int (z' - x')), some (.int (w' - y')), some (.int (x' - x)), some (.int (y' - y)), some (.int ((z - x) * (w' - y') - (w - y) * (z' - x'))), none, none, none, none, none, none] st = some (.ret r, l', st')) →
      g_law_common [pcD x y z w, pcD x' y' z' w'] st = some (.ok r, st') := fun r st' hk => by
    obtain ⟨l', hk⟩ := hk
    refine run_ret (ls := l') ?_
    unfold b_law_common
    refine (dThen_next (ls1 := [some (pcD x y z w), some (pcD x' y' z' w'), some (.int (z - x)), some (.int (w - y)), none, none, none, none, none, none, none, none, none, none, none]) (st1 := st) (by simp [startL, dBin, dVar, dC, bindR, bindS, okD, dApp, evA, fTup, small, LINE, dAsg, asgK, asg, asgs, fIx, L2.atI, L2.ixN, fSub])).trans ?_
    refine (dThen_next (ls1 := [some (pcD x y z w), some (pcD x' y' z' w'), some (.int (z - x)), some (.int (w - y)), some (.int (z' - x')), some (.int (w' - y')), none, none, none, none, none, none, none, none, none]) (st1 := st) (by simp [dBin, dVar, dC, bindR, bindS, okD, dApp, evA, fTup, small, LINE, dAsg, asgK, asg, asgs, fIx, L2.atI, L2.ixN, fSub])).trans ?_
    refine (dThen_next (ls1 := [some (pcD x y z w), some (pcD x' y' z' w'), some (.int (z - x)), some (.int (w - y)), some (.int (z' - x')), some (.int (w' - y')), some (.int (x' - x)), some (.int (y' - y)), none, none, none, none, none, none, none]) (st1 := st) (by simp [dBin, dVar, dC, bindR, bindS, okD, dApp, evA, fTup, small, LINE, dAsg, asgK, asg, asgs, fIx, L2.atI, L2.ixN, fSub])).trans ?_
    refine (dThen_next (ls1 := [some (pcD x y z w), some (pcD x' y' z' w'), some (.int (z - x)), some (.int (w - y)), some (.int (z' - x')), some (.int (w' - y')), some (.int (x' - x)), some (.int (y' - y)), some (.int ((z - x) * (w' - y') - (w - y) * (z' - x'))), none, none, none, none, none, none]) (st1 := st) (by simp [dBin, dVar, dC, bindR, bindS, okD, dAsg, asgK, asg, fSub, fMul, m1, m2])).trans ?_
    exact hk
  by_cases hT : (z - x) * (w' - y') - (w - y) * (z' - x') = 0
  · have hT' : ((z - x) * (w' - y') - (w - y) * (z' - x') == 0) = true := beq_iff_eq.mpr hT
    by_cases hS : (z - x) * (y' - y) = (w - y) * (x' - x)
    · have hS' : ((z - x) * (y' - y) == (w - y) * (x' - x)) = true := beq_iff_eq.mpr hS
      have hsh : shared ((x, y), (z, w)) ((x', y'), (z', w')) = ([(x, y), (z, w), (x', y'), (z', w')].filter fun e => onB ((x, y), (z, w)) e && onB ((x', y'), (z', w')) e) := rfl
      generalize hsd : shared ((x, y), (z, w)) ((x', y'), (z', w')) = sh at hsh
      have hfil := compD_filter (i := 14) (k := st.length) (dt := dAnd (dUn fTru (dApp g_law_is_on [dVar 0, dVar 14])) (dUn fTru (dApp g_law_is_on [dVar 1, dVar 14]))) (de := dVar 14)
        (lsw := [some (pcD x y z w), some (pcD x' y' z' w'), some (.int (z - x)), some (.int (w - y)), some (.int (z' - x')), some (.int (w' - y')), some (.int (x' - x)), some (.int (y' - y)), some (.int ((z - x) * (w' - y') - (w - y) * (z' - x'))), none, none, some (.tup [ptD (x, y), ptD (z, w), ptD (x', y'), ptD (z', w')]), none, none, none])
        (toD := ptD) (c := fun e => onB ((x, y), (z, w)) e && onB ((x', y'), (z', w')) e) (f := ptD) (xs := [(x, y), (z, w), (x', y'), (z', w')]) (st := st ++ [.lst false []]) (acc := [])
        (fun e _ st => by
          have a1 := on_eq ((x, y), (z, w)) e st
          have a2 := on_eq ((x', y'), (z', w')) e st
          simp only [pd, ptD] at a1 a2
          cases h1 : onB ((x, y), (z, w)) e <;> simp [dAnd, dUn, dApp, evA, dVar, okD, bindR, fAnd, fTru, truD, a1, a2, h1])
        (fun e _ st => by simp [dVar, okD]) get_push (by simp [LINE])
      rw [← hsh, set_push, List.nil_append] at hfil
      have hnn : ∀ e ∈ sh, 0 ≤ e.1 ∧ 0 ≤ e.2 := fun e he => by
        rw [hsh] at he
        have := (List.mem_filter.mp he).1
        simp at this
        rcases this with rfl | rfl | rfl | rfl <;> simp <;> omega
      have hlen : sh.length < 64 := by
        rw [hsh]
        exact Nat.lt_of_le_of_lt (List.length_filter_le _ _) (by simp)
      have hsort := sort_eq (st := st ++ [.lst false (sh.map ptD)]) get_push hnn hlen
      generalize hS2 : sortU (sh.map row2) = S at hsort
      have n1 : noCommon ((x, y), (z, w)) ((x', y'), (z', w')) = decide (2 ≤ S.length) := by
        unfold noCommon
        rw [hsd, hS2]
        simp [hT, hS]
      -- up to the last row: slot 13 holds the sorted list
      have up : ∀ (r : D) (st' : Sto), (∃ l', (dRet _ : Ds) [some (pcD x y z w), some (pcD x' y' z' w'), some (.int (z - x)), some (.int (w - y)), some (.int (z' - x')), some (.int (w' - y')), some (.int (x' - x)), some (.int (y' - y)), some (.int ((z - x) * (w' - y') - (w - y) * (z' - x'))), none, none, some (.tup [ptD (x, y), ptD (z, w), ptD (x', y'), ptD (z', w')]), some (.obj st.length), some (.obj (st.length + 1)), none] (st ++ [.lst false (sh.map ptD)] ++ [.lst false (S.map tupI)]) = some (.ret r, l', st')) →
          g_law_common [pcD x y z w, pcD x' y' z' w'] st = some (.ok r, st') := fun r st' hk => by
        obtain ⟨l', hk⟩ := hk
        refine key r st' ⟨l', ?_⟩
        refine (dThen_next (st1 := st) (dIf_false (by simp [dBin, dVar, dC, bindR, okD, fNe, eqD1, hT']))).trans ?_
        refine (dThen_next (st1 := st) (dIf_false (by simp [dBin, dVar, dC, bindR, okD, fNe, fMul, eqD1, m1, m2, hS']))).trans ?_
        refine (dThen_next (ls1 := [some (pcD x y z w), some (pcD x' y' z' w'), some (.int (z - x)), some (.int (w - y)), some (.int (z' - x')), some (.int (w' - y')), some (.int (x' - x)), some (.int (y' - y)), some (.int ((z - x) * (w' - y') - (w - y) * (z' - x'))), none, none, some (.tup [ptD (x, y), ptD (z, w), ptD (x', y'), ptD (z', w')]), none, none, none]) (st1 := st) (by simp [dBin, dVar, dC, bindR, bindS, okD, dApp, evA, fTup, small, LINE, dAsg, asgK, asg, dSl, evO, fSl, cut_l, cut_r])).trans ?_
        refine (dThen_next (ls1 := [some (pcD x y z w), some (pcD x' y' z' w'), some (.int (z - x)), some (.int (w - y)), some (.int (z' - x')), some (.int (w' - y')), some (.int (x' - x)), some (.int (y' - y)), some (.int ((z - x) * (w' - y') - (w - y) * (z' - x'))), none, none, some (.tup [ptD (x, y), ptD (z, w), ptD (x', y'), ptD (z', w')]), some (.obj st.length), none, none]) (st1 := st ++ [.lst false (sh.map ptD)])
          (dAsg_next (d := .obj st.length) ((by simp [dLc, dSeq, dVar, okD, bindI, fSeq, wipeL] : _ = _).trans hfil) (by simp [asg]))).trans ?_
        refine (dThen_next (ls1 := [some (pcD x y z w), some (pcD x' y' z' w'), some (.int (z - x)), some (.int (w - y)), some (.int (z' - x')), some (.int (w' - y')), some (.int (x' - x)), some (.int (y' - y)), some (.int ((z - x) * (w' - y') - (w - y) * (z' - x'))), none, none, some (.tup [ptD (x, y), ptD (z, w), ptD (x', y'), ptD (z', w')]), some (.obj st.length), some (.obj (st.length + 1)), none]) (st1 := st ++ [.lst false (sh.map ptD)] ++ [.lst false (S.map tupI)])
          (dAsg_next (d := .obj (st.length + 1)) (by simp [dUn, dVar, okD, bindR, hsort, okL]) (by simp [asg]))).trans ?_
        exact hk
      have g2 : (st ++ [Cell.lst false (sh.map ptD)] ++ [Cell.lst false (S.map tupI)])[st.length + 1]? = some (.lst false (S.map tupI)) := by simp
      have g3 : ∀ c : Cell, (st ++ [Cell.lst false (sh.map ptD)] ++ [Cell.lst false (S.map tupI)] ++ [c])[st.length + 1]? = some (.lst false (S.map tupI)) := fun c => by simp
      have sp : Stp st (st ++ [Cell.lst false (sh.map ptD)] ++ [Cell.lst false (S.map tupI)]) := (Stp.push h).trans (.push (Stp.push h).row)
      have spc : ∀ c : Cell, Stp st (st ++ [Cell.lst false (sh.map ptD)] ++ [Cell.lst false (S.map tupI)] ++ [c]) := fun c => sp.trans (.push sp.row)
      generalize (st ++ [Cell.lst false (sh.map ptD)] ++ [Cell.lst false (S.map tupI)]) = st2 at up g2 g3 sp spc
      have en : ∀ c : List D, eqD (st2 ++ [.lst false []]) (.obj (st.length + 1)) (.obj st2.length) = some S.isEmpty := fun _ => eqD_nil (g3 _) get_push
      rcases S with _ | ⟨r1, _ | ⟨r2, t⟩⟩
      · refine ⟨.obj (st2.length + 1), st2 ++ [.lst false []] ++ [.lst false []], up _ _ ⟨_, dRet_ok ?_⟩, ?_, (spc _).trans (.push (spc _).row)⟩
        · simp [dIf, dBin, dApp, evA, dVar, dC, okD, okL, bindR, fLen, g2, fEq, eqD1, fIf, fLst, small, LINE, en []]
        · rw [n1]
          simp [MP.isNon]
      · have hr : ∃ a b : Int, r1 = [a, b] := by
          have : r1 ∈ sortU (sh.map row2) := by rw [hS2]; exact List.mem_cons_self ..
          obtain ⟨e, _, rfl⟩ := List.mem_map.mp (sortU_mem.mp this)
          exact ⟨e.1, e.2, rfl⟩
        obtain ⟨a, b, rfl⟩ := hr
        refine ⟨.obj st2.length, st2 ++ [.lst false [.tup [.int a, .int b, .int 1]]], up _ _ ⟨_, dRet_ok ?_⟩, ?_, spc _⟩
        · simp [dIf, dBin, dApp, evA, dVar, dC, okD, okL, bindR, fLen, g2, fEq, eqD1, fIf, fLst, fTup, small, LINE, fIx, L2.atI, L2.ixN, tupI, fAdd]
        · rw [n1]
          simp [MP.isNon]
      · refine ⟨.non, st2 ++ [.lst false []], up _ _ ⟨_, dRet_ok ?_⟩, ?_, spc _⟩
        · have hl1 : ((t.length : Int) + 1 + 1 == 1) = false := beq_eq_false_iff_ne.mpr (by omega)
          simp [dIf, dBin, dApp, evA, dVar, dC, okD, okL, bindR, fLen, g2, fEq, eqD1, fIf, fLst, small, LINE, en [], hl1]
        · rw [n1]
          simp [MP.isNon]
    · have hS' : ((z - x) * (y' - y) == (w - y) * (x' - x)) = false := beq_eq_false_iff_ne.mpr hS
      refine ⟨.obj st.length, st ++ [.lst false []], key _ _ ⟨_, (dThen_next (st1 := st) (dIf_false (by simp [dBin, dVar, dC, bindR, okD, fNe, eqD1, hT']))).trans
        (dThen_ret ((dIf_true (st1 := st) (by simp [dBin, dVar, dC, bindR, okD, fNe, fMul, eqD1, m1, m2, hS'])).trans (dRet_ok (by simp [dApp, evA, fLst, small, LINE, okL, okD]))))⟩, ?_, .push h⟩
      simp [MP.isNon, noCommon, hS]
  · have hT' : ((z - x) * (w' - y') - (w - y) * (z' - x') == 0) = false := beq_eq_false_iff_ne.mpr hT
    have n0 : noCommon ((x, y), (z, w)) ((x', y'), (z', w')) = false := by
      unfold noCommon
      simp [hT]
    generalize hTT : (z - x) * (w' - y') - (w - y) * (z' - x') = T at key hT hT'
    obtain ⟨t0, ht0⟩ : ∃ t0, (x' - x) * (w' - y') - (y' - y) * (z' - x') = t0 := ⟨_, rfl⟩
    obtain ⟨u0, hu0⟩ : ∃ u0, (x' - x) * (w - y) - (y' - y) * (z - x) = u0 := ⟨_, rfl⟩
    obtain ⟨t, u, hA⟩ : ∃ t u : Int, ∀ l9 l10 : Option D, (dAsg (dApp fTup [dBin fMul (dBin fSub (dBin fMul (dVar 6) (dVar 5)) (dBin fMul (dVar 7) (dVar 4))) (dIf (dBin fGt (dVar 8) (dC (.int 0))) (dC (.int 1)) (dUn fNeg (dC (.int 1)))), dBin fMul (dBin fSub (dBin fMul (dVar 6) (dVar 3)) (dBin fMul (dVar 7) (dVar 2))) (dIf (dBin fGt (dVar 8) (dC (.int 0))) (dC (.int 1)) (dUn fNeg (dC (.int 1))))]) (.tp [.nm 9, .nm 10]))
        [some (pcD x y z w), some (pcD x' y' z' w'), some (.int (z - x)), some (.int (w - y)), some (.int (z' - x')), some (.int (w' - y')), some (.int (x' - x)), some (.int (y' - y)), some (.int T), l9, l10, none, none, none, none] st =
        some (.next, [some (pcD x y z w), some (pcD x' y' z' w'), some (.int (z - x)), some (.int (w - y)), some (.int (z' - x')), some (.int (w' - y')), some (.int (x' - x)), some (.int (y' - y)), some (.int T), some (.int t), some (.int u), none, none, none, none], st) := by
      by_cases hpos : 0 < T
      · exact ⟨t0 * 1, u0 * 1, fun l9 l10 => by simp [dBin, dUn, dVar, dC, bindR, bindS, okD, dApp, evA, fTup, small, LINE, dAsg, asgK, asg, asgs, fSub, fMul, dIf, fIf, fGt, fNeg, hpos, m3, m4, m7, m8, ht0, hu0]⟩
      · exact ⟨t0 * -1, u0 * -1, fun l9 l10 => by simp [dBin, dUn, dVar, dC, bindR, bindS, okD, dApp, evA, fTup, small, LINE, dAsg, asgK, asg, asgs, fSub, fMul, dIf, fIf, fGt, fNeg, hpos, m3, m4, m7, m8, ht0, hu0]⟩
    obtain ⟨A, hAb⟩ : ∃ A, (if T < 0 then -T else T) = A := ⟨_, rfl⟩
    have cond : (dOr (dBin fLt (dVar 9) (dC (.int 0))) (dOr (dBin fGt (dVar 9) (dVar 8)) (dOr (dBin fLt (dVar 10) (dC (.int 0))) (dBin fGt (dVar 10) (dVar 8))))) [some (pcD x y z w), some (pcD x' y' z' w'), some (.int (z - x)), some (.int (w - y)), some (.int (z' - x')), some (.int (w' - y')), some (.int (x' - x)), some (.int (y' - y)), some (.int A), some (.int t), some (.int u), none, none, none, none] st =
        okD (.bl (decide (t < 0) || (decide (A < t) || (decide (u < 0) || decide (A < u))))) st :=
      dOr_bl (by simp [dBin, dVar, dC, bindR, okD, fLt]) (dOr_bl (by simp [dBin, dVar, dC, bindR, okD, fGt]) (dOr_bl (by simp [dBin, dVar, dC, bindR, okD, fLt]) (by simp [dBin, dVar, dC, bindR, okD, fGt])))
    cases hB : (decide (t < 0) || (decide (A < t) || (decide (u < 0) || decide (A < u)))) with
    | true =>
      rw [hB] at cond
      refine ⟨.obj st.length, st ++ [.lst false []], key _ _ ⟨_, dThen_ret ((dIf_true (st1 := st) (by simp [dBin, dVar, dC, bindR, okD, fNe, eqD1, hT'])).trans ((dThen_next (hA none none)).trans ((dThen_next (ls1 := [some (pcD x y z w), some (pcD x' y' z' w'), some (.int (z - x)), some (.int (w - y)), some (.int (z' - x')), some (.int (w' - y')), some (.int (x' - x)), some (.int (y' - y)), some (.int A), some (.int t), some (.int u), none, none, none, none]) (st1 := st)
        (dAsg_next (d := .int A) (by simp [dApp, evA, dVar, okD, fAbs, hAb]) (by simp [asg]))).trans (dThen_ret ((dIf_true cond).trans (dRet_ok (by simp [dApp, evA, fLst, small, LINE, okL, okD])))))))⟩, ?_, .push h⟩
      rw [n0]
      rfl
    | false =>
      rw [hB] at cond
      refine ⟨.obj st.length, st ++ [.lst false [.tup [.int (x * A + (z - x) * t), .int (y * A + (w - y) * t), .int A]]], key _ _ ⟨_, dThen_ret ((dIf_true (st1 := st) (by simp [dBin, dVar, dC, bindR, okD, fNe, eqD1, hT'])).trans ((dThen_next (hA none none)).trans ((dThen_next (ls1 := [some (pcD x y z w), some (pcD x' y' z' w'), some (.int (z - x)), some (.int (w - y)), some (.int (z' - x')), some (.int (w' - y')), some (.int (x' - x)), some (.int (y' - y)), some (.int A), some (.int t), some (.int u), none, none, none, none]) (st1 := st)
        (dAsg_next (d := .int A) (by simp [dApp, evA, dVar, okD, fAbs, hAb]) (by simp [asg]))).trans ((dThen_next (st1 := st) (dIf_false cond)).trans (dRet_ok (by simp [dApp, evA, fLst, fTup, small, LINE, okL, okD, dBin, dVar, dC, bindR, fIx, L2.atI, L2.ixN, fAdd, fMul, m1, m2, m5, m6]))))))⟩, ?_, .push h⟩
      rw [n0]
      rfl
end K01
end
section
set_option maxRecDepth 100000
set_option maxHeartbeats 1000000
namespace K01
open PySem L2 MP
theorem par_side {a b c d e f : Int} (h1 : a * d = b * c) (h2 : a * f = b * e) (hn : ¬(a = 0 ∧ b = 0)) : c * f = d * e := by
  by_cases ha : a = 0
  · subst ha
    have hb : b ≠ 0 := fun z => hn ⟨rfl, z⟩
    have hc : c = 0 := by
      rcases Int.mul_eq_zero.mp (show b * c = 0 by omega) with h | h
      · exact absurd h hb
      · exact h
    have he : e = 0 := by
      rcases Int.mul_eq_zero.mp (show b * e = 0 by omega) with h | h
      · exact absurd h hb
      · exact h
    subst hc he
    simp
  · have : a * (c * f - d * e) = 0 := by grind
    rcases Int.mul_eq_zero.mp this with h | h
    · exact absurd h ha
    · omega
theorem slope {k m s t : Int} (hk : 0 < k) (h : k * t = m * s) (h0 : 0 ≤ s) (h1 : s ≤ k) : (0 ≤ m → 0 ≤ t ∧ t ≤ m) ∧ (m ≤ 0 → m ≤ t ∧ t ≤ 0) := by
  have up : ∀ {m t : Int}, k * t = m * s → 0 ≤ m → 0 ≤ t ∧ t ≤ m := fun {m t} h hm => by
    have a : 0 ≤ m * s := Int.mul_nonneg hm h0
    have b : m * s ≤ m * k := Int.mul_le_mul_of_nonneg_left h1 hm
    constructor
    · refine Int.not_lt.mp fun q => ?_
      have := Int.mul_neg_of_pos_of_neg hk q
      omega
    · refine Int.not_lt.mp fun q => ?_
      have := Int.mul_lt_mul_of_pos_left q hk
      have e : k * m = m * k := Int.mul_comm _ _
      omega
  refine ⟨up h, fun hm => ?_⟩
  have q := up (m := -m) (t := -t) (by grind) (by omega)
  omega
/-- on the line of two points, the box says what the order says: the first point before the second -/
theorem box_lt {x y z w u v : Int} (hl : (z - x) * (v - y) = (w - y) * (u - x)) (hx : x < z) : (btw x z u && btw y w v) = (!lt2 (u, v) (x, y) && !lt2 (z, w) (u, v)) := by
  have e1 : btw x z u = decide (x ≤ u ∧ u ≤ z) := by
    unfold btw lo hi
    rw [if_neg (by omega), if_pos hx]
    by_cases h1 : x ≤ u <;> simp [h1]
  have e2 : btw y w v = decide ((y ≤ v ∧ v ≤ w) ∨ (w ≤ v ∧ v ≤ y)) := by
    unfold btw lo hi
    by_cases h : w < y
    · rw [if_pos h, if_neg (by omega), ← Bool.decide_and, decide_eq_decide]
      omega
    · by_cases h' : y < w
      · rw [if_neg h, if_pos h', ← Bool.decide_and, decide_eq_decide]
        omega
      · rw [if_neg h, if_neg h', ← Bool.decide_and, decide_eq_decide]
        omega
  rw [e1, e2, ← Bool.decide_and]
  unfold lt2
  rw [← decide_not, ← decide_not, ← Bool.decide_and, decide_eq_decide]
  dsimp only
  constructor
  · rintro ⟨⟨h1, h2⟩, h3⟩
    obtain ⟨s1, s2⟩ := slope (k := z - x) (m := w - y) (s := u - x) (t := v - y) (by omega) hl (by omega) (by omega)
    refine ⟨fun q => ?_, fun q => ?_⟩
    · rcases q with q | ⟨q1, q2⟩
      · omega
      · subst q1
        have : (z - u) * (v - y) = 0 := by rw [hl]; simp
        rcases Int.mul_eq_zero.mp this with k | k <;> omega
    · rcases q with q | ⟨q1, q2⟩
      · omega
      · subst q1
        have : (z - x) * (v - w) = 0 := by grind
        rcases Int.mul_eq_zero.mp this with k | k <;> omega
  · rintro ⟨h1, h2⟩
    have a1 : x ≤ u := Int.not_lt.mp fun q => h1 (.inl q)
    have a2 : u ≤ z := Int.not_lt.mp fun q => h2 (.inl q)
    obtain ⟨s1, s2⟩ := slope (k := z - x) (m := w - y) (s := u - x) (t := v - y) (by omega) hl (by omega) (by omega)
    refine ⟨⟨a1, a2⟩, ?_⟩
    by_cases hm : y ≤ w
    · have := s1 (by omega); omega
    · have := s2 (by omega); omega
theorem box_up {x y w u v : Int} (hu : u = x) (hy : y < w) : (btw x x u && btw y w v) = (!lt2 (u, v) (x, y) && !lt2 (x, w) (u, v)) := by
  subst hu
  have e1 : btw u u u = true := by
    unfold btw lo hi
    simp
  have e2 : btw y w v = decide (y ≤ v ∧ v ≤ w) := by
    unfold btw lo hi
    rw [if_neg (by omega), if_pos hy, ← Bool.decide_and]
  rw [e1, e2, Bool.true_and]
  unfold lt2
  rw [← decide_not, ← decide_not, ← Bool.decide_and, decide_eq_decide]
  dsimp only
  omega
theorem btw_comm (a b e : Int) : btw a b e = btw b a e := by
  unfold btw lo hi
  by_cases h : a < b
  · rw [if_neg (by omega), if_pos h, if_pos h, if_neg (by omega)]
  · by_cases h' : b < a
    · rw [if_pos h', if_neg h, if_neg h, if_pos h']
    · have : a = b := by omega
      subst this
      rfl
theorem lt2_asym {p q : Int × Int} (h : lt2 p q = true) : lt2 q p = false := by
  unfold lt2 at h ⊢
  have := of_decide_eq_true h
  exact decide_eq_false (by omega)
theorem box_eq {p : P4} {e : Int × Int} (hl : (p.2.1 - p.1.1) * (e.2 - p.1.2) = (p.2.2 - p.1.2) * (e.1 - p.1.1)) (hn : ¬(p.1.1 = p.2.1 ∧ p.1.2 = p.2.2)) : onB p e = (!lt2 e (mn p.1 p.2) && !lt2 (mx p.1 p.2) e) := by
  obtain ⟨⟨x, y⟩, ⟨z, w⟩⟩ := p
  obtain ⟨u, v⟩ := e
  simp only at hl hn
  unfold onB
  simp only
  by_cases h1 : x < z
  · have a1 : lt2 (x, y) (z, w) = true := decide_eq_true (.inl h1)
    rw [box_lt hl h1, mn, mx, lt2_asym a1, a1]
    rfl
  · by_cases h2 : z < x
    · have a1 : lt2 (z, w) (x, y) = true := decide_eq_true (.inl h2)
      rw [btw_comm x z, btw_comm y w, box_lt (by grind) h2, mn, mx, lt2_asym a1, a1]
      rfl
    · have e0 : x = z := by omega
      subst e0
      have hw : w ≠ y := fun q => hn ⟨rfl, q.symm⟩
      have hu : u = x := by
        have : (w - y) * (u - x) = 0 := by rw [← hl]; simp
        rcases Int.mul_eq_zero.mp this with k | k <;> omega
      by_cases h3 : y < w
      · have a1 : lt2 (x, y) (x, w) = true := decide_eq_true (.inr ⟨rfl, h3⟩)
        rw [box_up hu h3, mn, mx, lt2_asym a1, a1]
        rfl
      · have h4 : w < y := by omega
        have a1 : lt2 (x, w) (x, y) = true := decide_eq_true (.inr ⟨rfl, h4⟩)
        rw [btw_comm y w, box_up hu h4, mn, mx, lt2_asym a1, a1]
        rfl
end K01
end
section
set_option maxRecDepth 100000
set_option maxHeartbeats 1000000
namespace K01
open PySem L2 MP
theorem lt2_iff {p q : Int × Int} : lt2 p q = true ↔ (p.1 < q.1 ∨ (p.1 = q.1 ∧ p.2 < q.2)) := by
  unfold lt2
  exact decide_eq_true_iff
theorem lt2_not {p q : Int × Int} : lt2 p q = false ↔ ¬(p.1 < q.1 ∨ (p.1 = q.1 ∧ p.2 < q.2)) := by
  unfold lt2
  exact decide_eq_false_iff_not
abbrev le2 (p q : Int × Int) : Prop := lt2 q p = false
theorem le2_mx {x y e : Int × Int} : le2 (mx x y) e ↔ le2 x e ∧ le2 y e := by
  unfold mx
  cases h : lt2 x y with
  | true =>
    simp only [if_true]
    rw [lt2_iff] at h
    simp only [le2, lt2_not]
    omega
  | false =>
    simp only [Bool.false_eq_true, if_false]
    rw [lt2_not] at h
    simp only [le2, lt2_not]
    omega
theorem le2_mn {x y e : Int × Int} : le2 e (mn x y) ↔ le2 e x ∧ le2 e y := by
  unfold mn
  cases h : lt2 y x with
  | true =>
    simp only [if_true]
    rw [lt2_iff] at h
    simp only [le2, lt2_not]
    omega
  | false =>
    simp only [Bool.false_eq_true, if_false]
    rw [lt2_not] at h
    simp only [le2, lt2_not]
    omega
theorem mx_or (x y : Int × Int) : mx x y = x ∨ mx x y = y := by
  unfold mx
  cases lt2 x y <;> simp
theorem mn_or (x y : Int × Int) : mn x y = x ∨ mn x y = y := by
  unfold mn
  cases lt2 y x <;> simp
theorem le2_antisym {x y : Int × Int} (h1 : le2 x y) (h2 : le2 y x) : x = y := by
  obtain ⟨a, b⟩ := x
  obtain ⟨c, d⟩ := y
  simp only [le2, lt2_not] at h1 h2
  rw [Prod.mk.injEq]
  omega
theorem le2_trans {x y z : Int × Int} (h1 : le2 x y) (h2 : le2 y z) : le2 x z := by
  simp only [le2, lt2_not] at h1 h2 ⊢
  omega
theorem le2_refl (x : Int × Int) : le2 x x := by
  simp only [le2, lt2_not]
  omega
theorem lt2_le {x y : Int × Int} (h : lt2 x y = true) : le2 x y := lt2_asym h
theorem two_of {l : List (Int × Int)} {a b : Int × Int} (ha : a ∈ l) (hb : b ∈ l) (h : a ≠ b) : 2 ≤ (sortU (l.map row2)).length := by
  have h1 : row2 a ∈ sortU (l.map row2) := sortU_mem.mpr (List.mem_map_of_mem ha)
  have h2 : row2 b ∈ sortU (l.map row2) := sortU_mem.mpr (List.mem_map_of_mem hb)
  have hne : row2 a ≠ row2 b := fun z => h (by
    unfold row2 at z
    simp at z
    exact Prod.ext z.1 z.2)
  rcases e : sortU (l.map row2) with _ | ⟨r, _ | ⟨r', t⟩⟩
  · rw [e] at h1; cases h1
  · rw [e] at h1 h2
    simp at h1 h2
    exact absurd (h1.trans h2.symm) hne
  · simp
theorem one_of {l : List (Int × Int)} {a : Int × Int} (h : ∀ b ∈ l, b = a) : (sortU (l.map row2)).length ≤ 1 := by
  have hm : ∀ r ∈ sortU (l.map row2), r = row2 a := fun r hr => by
    obtain ⟨b, hb, rfl⟩ := List.mem_map.mp (sortU_mem.mp hr)
    rw [h b hb]
  have hs := sortU_sorted (l.map row2)
  rcases e : sortU (l.map row2) with _ | ⟨r, _ | ⟨r', t⟩⟩
  · simp
  · simp
  · rw [e] at hs hm
    have a1 := hm r (by simp)
    have a2 := hm r' (by simp)
    have := (List.pairwise_cons.mp hs).1 r' (by simp)
    rw [a1, a2, LtL, lex_irr] at this
    cases this
theorem geo {p q : P4} (hp : Pv p) (hq : Pv q) : noCommon q p = alongP p q := by
  have np : ¬(p.1.1 = p.2.1 ∧ p.1.2 = p.2.2) := hp.ne
  have nq : ¬(q.1.1 = q.2.1 ∧ q.1.2 = q.2.2) := hq.ne
  unfold noCommon alongP along
  by_cases hT : (p.2.1 - p.1.1) * (q.2.2 - q.1.2) - (p.2.2 - p.1.2) * (q.2.1 - q.1.1) = 0
  · have hT' : (q.2.1 - q.1.1) * (p.2.2 - p.1.2) - (q.2.2 - q.1.2) * (p.2.1 - p.1.1) = 0 := by grind
    by_cases hS : (p.2.1 - p.1.1) * (q.1.2 - p.1.2) - (p.2.2 - p.1.2) * (q.1.1 - p.1.1) = 0
    · have hS1 : (q.2.1 - q.1.1) * (q.1.2 - p.1.2) = (q.2.2 - q.1.2) * (q.1.1 - p.1.1) := par_side (a := p.2.1 - p.1.1) (b := p.2.2 - p.1.2) (by omega) (by omega) (by omega)
      have hS' : (q.2.1 - q.1.1) * (p.1.2 - q.1.2) = (q.2.2 - q.1.2) * (p.1.1 - q.1.1) := by grind
      -- all four points are on both lines
      have onp : ∀ e ∈ [q.1, q.2, p.1, p.2], (p.2.1 - p.1.1) * (e.2 - p.1.2) = (p.2.2 - p.1.2) * (e.1 - p.1.1) := fun e he => by
        simp only [List.mem_cons, List.not_mem_nil, or_false] at he
        rcases he with rfl | rfl | rfl | rfl
        · omega
        · grind
        · simp
        · grind
      have onq : ∀ e ∈ [q.1, q.2, p.1, p.2], (q.2.1 - q.1.1) * (e.2 - q.1.2) = (q.2.2 - q.1.2) * (e.1 - q.1.1) := fun e he => by
        simp only [List.mem_cons, List.not_mem_nil, or_false] at he
        rcases he with rfl | rfl | rfl | rfl
        · simp
        · grind
        · exact hS'
        · grind
      have sh : ∀ e, e ∈ shared q p ↔ e ∈ [q.1, q.2, p.1, p.2] ∧ le2 (start p.1 p.2 q.1 q.2) e ∧ le2 e (stop p.1 p.2 q.1 q.2) := fun e => by
        unfold shared start stop
        rw [List.mem_filter]
        constructor
        · rintro ⟨h1, h2⟩
          refine ⟨h1, ?_⟩
          rw [box_eq (onp e h1) np, box_eq (onq e h1) nq] at h2
          simp only [Bool.and_eq_true, Bool.not_eq_true'] at h2
          rw [le2_mx, le2_mn]
          exact ⟨⟨h2.2.1, h2.1.1⟩, h2.2.2, h2.1.2⟩
        · rintro ⟨h1, h2, h3⟩
          refine ⟨h1, ?_⟩
          rw [le2_mx] at h2
          rw [le2_mn] at h3
          rw [box_eq (onp e h1) np, box_eq (onq e h1) nq]
          simp only [Bool.and_eq_true, Bool.not_eq_true']
          exact ⟨⟨h2.2, h3.2⟩, h2.1, h3.1⟩
      have st4 : start p.1 p.2 q.1 q.2 ∈ [q.1, q.2, p.1, p.2] := by
        unfold start
        rcases mx_or (mn p.1 p.2) (mn q.1 q.2) with h | h <;> rw [h]
        · rcases mn_or p.1 p.2 with h | h <;> rw [h] <;> simp
        · rcases mn_or q.1 q.2 with h | h <;> rw [h] <;> simp
      have sp4 : stop p.1 p.2 q.1 q.2 ∈ [q.1, q.2, p.1, p.2] := by
        unfold stop
        rcases mn_or (mx p.1 p.2) (mx q.1 q.2) with h | h <;> rw [h]
        · rcases mx_or p.1 p.2 with h | h <;> rw [h] <;> simp
        · rcases mx_or q.1 q.2 with h | h <;> rw [h] <;> simp
      have fin : decide (2 ≤ (sortU ((shared q p).map row2)).length) = lt2 (start p.1 p.2 q.1 q.2) (stop p.1 p.2 q.1 q.2) := by
        cases h : lt2 (start p.1 p.2 q.1 q.2) (stop p.1 p.2 q.1 q.2) with
        | true =>
          refine decide_eq_true (two_of ((sh _).mpr ⟨st4, le2_refl _, lt2_le h⟩) ((sh _).mpr ⟨sp4, lt2_le h, le2_refl _⟩) fun z => ?_)
          rw [z] at h
          have := lt2_asym h
          rw [h] at this
          cases this
        | false =>
          refine decide_eq_false (Nat.not_le.mpr (Nat.lt_succ_of_le (one_of (a := start p.1 p.2 q.1 q.2) fun b hb => ?_)))
          obtain ⟨_, h1, h2⟩ := (sh b).mp hb
          exact le2_antisym (le2_trans h2 h) h1
      rw [decide_eq_true hT, decide_eq_true hT', decide_eq_true hS, decide_eq_true hS', fin]
    · have hS' : ¬ (q.2.1 - q.1.1) * (p.1.2 - q.1.2) = (q.2.2 - q.1.2) * (p.1.1 - q.1.1) := fun z => hS (by
        have := par_side (a := q.2.1 - q.1.1) (b := q.2.2 - q.1.2) (c := p.2.1 - p.1.1) (d := p.2.2 - p.1.2) (e := p.1.1 - q.1.1) (f := p.1.2 - q.1.2) (by omega) z (by omega)
        grind)
      rw [decide_eq_false hS, decide_eq_false hS']
      simp
  · have hT' : ¬ (q.2.1 - q.1.1) * (p.2.2 - p.1.2) - (q.2.2 - q.1.2) * (p.2.1 - p.1.1) = 0 := fun z => hT (by grind)
    rw [decide_eq_false hT, decide_eq_false hT']
    simp
end K01
end
section
set_option maxRecDepth 100000
set_option maxHeartbeats 1000000
namespace K01
open PySem L2 MP
theorem over_eq {st : Sto} {L : Nat} {ro : Bool} {ps : List P4} (h : RowOk st) (hL : st[L]? = some (.lst ro (ps.map pd))) (h1 : L ≠ 1) (hn : ps ≠ []) (h2 : ps.length < 1000) (hp : ∀ p ∈ ps, Pv p) : ∃ q st', g_law_over [.obj 1, .obj L] st = some (.ok (pd q), st') ∧ Pv q ∧ Stp st st' := by
  obtain ⟨k, d, st1, hk, e1, s1, _⟩ := pick_eq h hL h1 (by rw [List.length_map]; exact List.length_pos_iff.mpr hn) (by rw [List.length_map]; omega)
  rw [List.getElem?_map] at hk
  cases e0 : ps[k]? with
  | none => rw [e0] at hk; cases hk
  | some p =>
    rw [e0] at hk
    have ed : pd p = d := Option.some.inj hk
    subst ed
    have pv := hp p (List.mem_of_getElem? e0)
    have s2 : Stp st1 (st1 ++ [.lst false [pcD p.1.1 p.1.2 p.2.1 p.2.2, pcD p.2.1 p.2.2 p.1.1 p.1.2]]) := .push s1.row
    have hne : st1.length ≠ 1 := by
      obtain ⟨ro, ns, a, b, c, e0, e1, _⟩ := s1.row.ex
      have := lt_of_get e1
      omega
    obtain ⟨k2, d2, st3, hk2, e3, s3, _⟩ := pick_eq (L := st1.length) (l := [pcD p.1.1 p.1.2 p.2.1 p.2.2, pcD p.2.1 p.2.2 p.1.1 p.1.2]) s2.row get_push hne (by simp) (by simp)
    have hq : ∃ q : P4, d2 = pd q ∧ Pv q := by
      rcases k2 with _ | _ | k2
      · exact ⟨p, by simpa using hk2.symm, pv⟩
      · exact ⟨(p.2, p.1), by simpa using hk2.symm, ⟨pv.z0, pv.z1, pv.w0, pv.w1, pv.x0, pv.x1, pv.y0, pv.y1, fun z => pv.ne ⟨z.1.symm, z.2.symm⟩⟩⟩
      · simp at hk2
    obtain ⟨q, rfl, qv⟩ := hq
    refine ⟨q, st3, ?_, qv, s1.trans (s2.trans s3)⟩
    simp only [pd, pcD] at e1 e3
    simp [g_law_over, b_law_over, runD, startL, dRet, dVar, bindR, bindS, okD, okL, dApp, evA, fTup, fLst, small, LINE, dThen, dAsg, asgK, asg, asgs, e1, e3]
theorem cut_take {l : List D} {i : Nat} (h : i ≤ l.length) : cutD l none (some (i : Int)) = l.take i := by
  unfold cutD HT.sIx
  have e : ¬ ((i : Nat) : Int) < 0 := by omega
  simp [e]
/-- pieces that make a drawing -/
structure Good (gs : List P4) : Prop where
  pv : ∀ p ∈ gs, Pv p
  len : gs.length ≤ 6
  apart : ∀ i p, gs[i]? = some p → (gs.take i).any (alongP p) = false
def bodyI : Ds := (dIfS (dOr (dBin fEq (dVar 2) (dC (.int 6))) (dOr (dUn fNot (dUn fTru (dApp gis_piece [(dVar 3)]))) (dUn fTru (dApp glies_along_any [(dVar 3), (dSl (dVar 1) none (some (dVar 2)))])))) (dRaise1 "InvalidDrawing" "index" (dVar 2)) dNext)
theorem enum_drop {l : List D} {i : Nat} {d : D} (h : l[i]? = some d) : (enumL l).drop i = .tup [.int (i : Nat), d] :: (enumL l).drop (i + 1) := by
  have hi : i < (enumL l).length := by rw [enumL_len]; exact lt_of_get h
  rw [List.drop_eq_getElem_cons hi]
  have e := enumL_get h
  rw [List.getElem?_eq_getElem hi] at e
  rw [Option.some.inj e]
/-- one good piece -/
theorem body_good {gs : List P4} {rest : List D} {s : D} {i : Nat} {p : P4} {st : Sto} (g : Good gs) (h : RowOk st) (hi : gs[i]? = some p) :
    ∃ st', bodyI [some s, some (.tup (gs.map pd ++ rest)), some (.int (i : Nat)), some (pd p)] st = some (.next, [some s, some (.tup (gs.map pd ++ rest)), some (.int (i : Nat)), some (pd p)], st') ∧ Stp st st' := by
  have hil := lt_of_get hi
  have hlen := g.len
  have pv := g.pv p (List.mem_of_getElem? hi)
  obtain ⟨st1, e1, s1⟩ := isp_yes h pv
  obtain ⟨st2, e2, s2⟩ := any_eq s1.row pv (qs := gs.take i) (fun q hq => g.pv q (List.mem_of_mem_take hq)) (by rw [List.length_take]; omega)
  have et : cutD (gs.map pd ++ rest) none (some (i : Int)) = (gs.map pd).take i := by
    rw [cut_take (by rw [List.length_append, List.length_map]; omega), List.take_append_of_le_length (by rw [List.length_map]; omega)]
  have h6 : ((i : Int) == 6) = false := beq_eq_false_iff_ne.mpr (by omega)
  refine ⟨st2, ?_, s1.trans s2⟩
  rw [g.apart i p hi, List.map_take] at e2
  simp only [pd, pcD] at e1 e2 et ⊢
  simp [bodyI, dIfS, ifK, dOr, fOr, dBin, dUn, dVar, dC, bindR, bindS, okD, fEq, eqD1, h6, dApp, evA, e1, fTru, truD, fNot, dSl, evO, fSl, et, e2, dNext]
/-- the first wrong one -/
def Bad (gs : List P4) (e : D) : Prop := gs.length = 6 ∨ e ∈ odd ∨ ∃ p, e = pd p ∧ Pv p ∧ gs.any (alongP p) = true
theorem body_bad {gs : List P4} {e : D} {rest : List D} {s : D} {st : Sto} (g : Good gs) (h : RowOk st) (hb : Bad gs e) :
    ∃ st', bodyI [some s, some (.tup (gs.map pd ++ e :: rest)), some (.int (gs.length : Nat)), some e] st = some (.exc "InvalidDrawing" [("index", .int (gs.length : Nat))], [some s, some (.tup (gs.map pd ++ e :: rest)), some (.int (gs.length : Nat)), some e], st') ∧ Stp st st' := by
  have hlen := g.len
  by_cases h6 : gs.length = 6
  · refine ⟨st, ?_, .refl h⟩
    have : ((gs.length : Int) == 6) = true := beq_iff_eq.mpr (by omega)
    simp [bodyI, dIfS, ifK, dOr, fOr, dBin, dUn, dVar, dC, bindR, bindS, okD, fEq, eqD1, this, dRaise1, raiseK]
  · have h6' : ((gs.length : Int) == 6) = false := beq_eq_false_iff_ne.mpr (by omega)
    rcases hb with hb | hb | ⟨p, rfl, pv, ha⟩
    · exact absurd hb h6
    · obtain ⟨st1, e1, s1⟩ := isp_no h hb
      refine ⟨st1, ?_, s1⟩
      simp [bodyI, dIfS, ifK, dOr, fOr, dBin, dUn, dVar, dC, bindR, bindS, okD, fEq, eqD1, h6', dApp, evA, e1, fTru, truD, fNot, dRaise1, raiseK]
    · obtain ⟨st1, e1, s1⟩ := isp_yes h pv
      obtain ⟨st2, e2, s2⟩ := any_eq s1.row pv (qs := gs) g.pv (by omega)
      have et : cutD (gs.map pd ++ pd p :: rest) none (some ((gs.length : Nat) : Int)) = gs.map pd := by
        rw [cut_take (by rw [List.length_append, List.length_map]; omega), List.take_append_of_le_length (by rw [List.length_map]; exact Nat.le_refl _)]
        exact List.take_of_length_le (by rw [List.length_map]; exact Nat.le_refl _)
      refine ⟨st2, ?_, s1.trans s2⟩
      rw [ha] at e2
      simp only [pd, pcD] at e1 e2 et ⊢
      simp [bodyI, dIfS, ifK, dOr, fOr, dBin, dUn, dVar, dC, bindR, bindS, okD, fEq, eqD1, h6', dApp, evA, e1, fTru, truD, fNot, dSl, evO, fSl, et, e2, dRaise1, raiseK]
end K01
end
section
set_option maxRecDepth 100000
set_option maxHeartbeats 1000000
namespace K01
open PySem L2 MP
theorem loop_good {gs : List P4} {rest : List D} {s : D} (g : Good gs) : ∀ (n i : Nat) (o2 o3 : Option D) (st : Sto), n = gs.length - i → i ≤ gs.length → RowOk st →
    ∃ p2 p3 st', forD none (.tp [.nm 2, .nm 3]) bodyI ((enumL (gs.map pd ++ rest)).drop i) [some s, some (.tup (gs.map pd ++ rest)), o2, o3] st =
      forD none (.tp [.nm 2, .nm 3]) bodyI ((enumL (gs.map pd ++ rest)).drop gs.length) [some s, some (.tup (gs.map pd ++ rest)), p2, p3] st' ∧ Stp st st' := by
  intro n
  induction n with
  | zero =>
    intro i o2 o3 st hn hi h
    have e : i = gs.length := by omega
    subst e
    exact ⟨o2, o3, st, rfl, .refl h⟩
  | succ n ih =>
    intro i o2 o3 st hn hi h
    have hlt : i < gs.length := by omega
    obtain ⟨p, ep⟩ : ∃ p, gs[i]? = some p := ⟨_, List.getElem?_eq_getElem hlt⟩
    have ed : (gs.map pd ++ rest)[i]? = some (pd p) := by
      rw [List.getElem?_append_left (by rw [List.length_map]; exact hlt), List.getElem?_map, ep]
      rfl
    obtain ⟨st1, e1, s1⟩ := body_good (rest := rest) (s := s) g h ep
    obtain ⟨p2, p3, st2, e2, s2⟩ := ih (i + 1) (some (.int (i : Nat))) (some (pd p)) st1 (by omega) (by omega) s1.row
    refine ⟨p2, p3, st2, ?_, s1.trans s2⟩
    rw [enum_drop ed, forD]
    simp only [gdB, if_true, asg, asgs, List.set_cons_succ, List.set_cons_zero]
    rw [e1]
    exact e2
theorem row_ge {st : Sto} (h : RowOk st) : 2 ≤ st.length := by
  obtain ⟨ro, ns, a, b, c, e0, e1, _⟩ := h.ex
  exact lt_of_get e1
theorem RowOk.set {st : Sto} {k : Nat} {c : Cell} (h : RowOk st) (hk : 2 ≤ k) : RowOk (st.set k c) := by
  obtain ⟨ro, ns, a, b, d, e0, e1, r⟩ := h.ex
  exact ⟨ro, ns, a, b, d, by rw [List.getElem?_set_ne (by omega)]; exact e0, by rw [List.getElem?_set_ne (by omega)]; exact e1, r⟩
theorem make_ok {gs : List P4} {st : Sto} (g : Good gs) (h : RowOk st) : ∃ st', fMake "Drawing" gDrawing___init__ [.tup (gs.map pd)] st = some (.ok (.obj st.length), st') ∧ Stp st st' ∧ st'[st.length]? = some (.ins "Drawing" [("pieces", .tup (gs.map pd))]) := by
  have s0 : Stp st (st ++ [.ins "Drawing" []]) := .push h
  obtain ⟨p2, p3, st1, e1, s1⟩ := loop_good (rest := []) (s := .obj st.length) g gs.length 0 none none (st ++ [.ins "Drawing" []]) (by omega) (by omega) s0.row
  have hi : st1[st.length]? = some (.ins "Drawing" []) := by
    rw [s1.old st.length (by simp) (by have := row_ge h; omega)]
    exact get_push
  have hlen := lt_of_get hi
  have hd : (enumL (gs.map pd ++ [])).drop gs.length = [] := by
    rw [List.drop_eq_nil_iff, enumL_len]
    simp
  rw [hd, List.append_nil, List.drop_zero] at e1
  refine ⟨st1.set st.length (.ins "Drawing" [("pieces", .tup (gs.map pd))]), ?_, ?_, List.getElem?_set_self hlen⟩
  · have hb : bDrawing___init__ [some (.obj st.length), some (.tup (gs.map pd)), none, none] (st ++ [.ins "Drawing" []]) = some (.next, [some (.obj st.length), some (.tup (gs.map pd)), p2, p3], st1.set st.length (.ins "Drawing" [("pieces", .tup (gs.map pd))])) := by
      show dThen (dFor (dAppI fEnum [(dVar 1)]) (.tp [(.nm 2), (.nm 3)]) bodyI) (dSetF cs_pieces "pieces" (dVar 0) (dVar 1)) _ _ = _
      refine (dThen_next (ls1 := [some (.obj st.length), some (.tup (gs.map pd)), p2, p3]) (st1 := st1) ?_).trans ?_
      · simp only [dFor, dAppI, evA, dVar, okD, fEnum, List.getElem?_cons_succ, List.getElem?_cons_zero]
        rw [e1]
        simp [forD, gdB]
      · simp [dSetF, dVar, okD, bindS, setFK, hi, putD]
    unfold fMake
    have hr : gDrawing___init__ [.obj st.length, .tup (gs.map pd)] (st ++ [.ins "Drawing" []]) = some (.ok .non, st1.set st.length (.ins "Drawing" [("pieces", .tup (gs.map pd))])) := by
      unfold gDrawing___init__ runD
      rw [show startL 4 [.obj st.length, .tup (gs.map pd)] = [some (.obj st.length), some (.tup (gs.map pd)), none, none] from rfl, hb]
      rfl
    rw [hr]
    rfl
  · have s2 := s0.trans s1
    refine ⟨by rw [List.length_set]; exact s2.len, fun i hi h1 => ?_, s1.row.set (row_ge h)⟩
    rw [List.getElem?_set_ne (by omega)]
    exact s2.old i hi h1
theorem make_bad {gs : List P4} {e : D} {rest : List D} {st : Sto} (g : Good gs) (h : RowOk st) (hb : Bad gs e) : ∃ st', fMake "Drawing" gDrawing___init__ [.tup (gs.map pd ++ e :: rest)] st = some (.exc "InvalidDrawing" [("index", .int (gs.length : Nat))], st') ∧ Stp st st' := by
  have s0 : Stp st (st ++ [.ins "Drawing" []]) := .push h
  obtain ⟨p2, p3, st1, e1, s1⟩ := loop_good (rest := e :: rest) (s := .obj st.length) g gs.length 0 none none (st ++ [.ins "Drawing" []]) (by omega) (by omega) s0.row
  obtain ⟨st2, e2, s2⟩ := body_bad (rest := rest) (s := .obj st.length) g s1.row hb
  have ed : (gs.map pd ++ e :: rest)[gs.length]? = some e := by
    rw [List.getElem?_append_right (by rw [List.length_map]; exact Nat.le_refl _), List.length_map, Nat.sub_self]
    rfl
  rw [List.drop_zero, enum_drop ed, forD] at e1
  simp only [gdB, if_true, asg, asgs, List.set_cons_succ, List.set_cons_zero] at e1
  rw [e2] at e1
  refine ⟨st2, ?_, s0.trans (s1.trans s2)⟩
  have hbd : bDrawing___init__ [some (.obj st.length), some (.tup (gs.map pd ++ e :: rest)), none, none] (st ++ [.ins "Drawing" []]) = some (.exc "InvalidDrawing" [("index", .int (gs.length : Nat))], [some (.obj st.length), some (.tup (gs.map pd ++ e :: rest)), some (.int (gs.length : Nat)), some e], st2) := by
    show dThen (dFor (dAppI fEnum [(dVar 1)]) (.tp [(.nm 2), (.nm 3)]) bodyI) (dSetF cs_pieces "pieces" (dVar 0) (dVar 1)) _ _ = _
    have hf : dFor (dAppI fEnum [(dVar 1)]) (.tp [(.nm 2), (.nm 3)]) bodyI [some (.obj st.length), some (.tup (gs.map pd ++ e :: rest)), none, none] (st ++ [.ins "Drawing" []]) = some (.exc "InvalidDrawing" [("index", .int (gs.length : Nat))], [some (.obj st.length), some (.tup (gs.map pd ++ e :: rest)), some (.int (gs.length : Nat)), some e], st2) := by
      simp only [dFor, dAppI, evA, dVar, okD, fEnum, List.getElem?_cons_succ, List.getElem?_cons_zero]
      exact e1
    unfold dThen
    rw [hf]
  unfold fMake
  have hr : gDrawing___init__ [.obj st.length, .tup (gs.map pd ++ e :: rest)] (st ++ [.ins "Drawing" []]) = some (.exc "InvalidDrawing" [("index", .int (gs.length : Nat))], st2) := by
    unfold gDrawing___init__ runD
    rw [show startL 4 [.obj st.length, .tup (gs.map pd ++ e :: rest)] = [some (.obj st.length), some (.tup (gs.map pd ++ e :: rest)), none, none] from rfl, hbd]
  rw [hr]
  rfl
end K01
end
section
set_option maxRecDepth 100000
set_option maxHeartbeats 4000000
namespace K01
open PySem L2 MP
theorem lk_InvalidDrawing : ([("LineError", false), ("InvalidDrawing", true), ("UnknownPiece", false), ("SamePiece", false), ("InvalidHalf", false), ("InvalidNumber", false), ("InvalidPiece", false), ("UnlikeCounts", false), ("InvalidPoint", false)] : List (Str × Bool)).lookup ("InvalidDrawing" : Str) = some true := by decide +kernel
theorem lk_UnknownPiece : ([("LineError", false), ("InvalidDrawing", false), ("UnknownPiece", true), ("SamePiece", false), ("InvalidHalf", false), ("InvalidNumber", false), ("InvalidPiece", false), ("UnlikeCounts", false), ("InvalidPoint", false)] : List (Str × Bool)).lookup ("InvalidDrawing" : Str) = some false := by decide +kernel
theorem lk_SamePiece : ([("LineError", false), ("InvalidDrawing", false), ("UnknownPiece", false), ("SamePiece", true), ("InvalidHalf", false), ("InvalidNumber", false), ("InvalidPiece", false), ("UnlikeCounts", false), ("InvalidPoint", false)] : List (Str × Bool)).lookup ("InvalidDrawing" : Str) = some false := by decide +kernel
theorem lk_InvalidHalf : ([("LineError", false), ("InvalidDrawing", false), ("UnknownPiece", false), ("SamePiece", false), ("InvalidHalf", true), ("InvalidNumber", false), ("InvalidPiece", false), ("UnlikeCounts", false), ("InvalidPoint", false)] : List (Str × Bool)).lookup ("InvalidDrawing" : Str) = some false := by decide +kernel
theorem lk_InvalidNumber : ([("LineError", false), ("InvalidDrawing", false), ("UnknownPiece", false), ("SamePiece", false), ("InvalidHalf", false), ("InvalidNumber", true), ("InvalidPiece", false), ("UnlikeCounts", false), ("InvalidPoint", false)] : List (Str × Bool)).lookup ("InvalidDrawing" : Str) = some false := by decide +kernel
theorem lk_InvalidPiece : ([("LineError", false), ("InvalidDrawing", false), ("UnknownPiece", false), ("SamePiece", false), ("InvalidHalf", false), ("InvalidNumber", false), ("InvalidPiece", true), ("UnlikeCounts", false), ("InvalidPoint", false)] : List (Str × Bool)).lookup ("InvalidDrawing" : Str) = some false := by decide +kernel
theorem lk_UnlikeCounts : ([("LineError", false), ("InvalidDrawing", false), ("UnknownPiece", false), ("SamePiece", false), ("InvalidHalf", false), ("InvalidNumber", false), ("InvalidPiece", false), ("UnlikeCounts", true), ("InvalidPoint", false)] : List (Str × Bool)).lookup ("InvalidDrawing" : Str) = some false := by decide +kernel
theorem lk_InvalidPoint : ([("LineError", false), ("InvalidDrawing", false), ("UnknownPiece", false), ("SamePiece", false), ("InvalidHalf", false), ("InvalidNumber", false), ("InvalidPiece", false), ("UnlikeCounts", false), ("InvalidPoint", true)] : List (Str × Bool)).lookup ("InvalidDrawing" : Str) = some false := by decide +kernel
theorem lk_ValueError : ([("LineError", true), ("InvalidDrawing", true), ("UnknownPiece", true), ("SamePiece", true), ("InvalidHalf", true), ("InvalidNumber", true), ("InvalidPiece", true), ("UnlikeCounts", true), ("InvalidPoint", true)] : List (Str × Bool)).lookup ("InvalidDrawing" : Str) = some true := by decide +kernel
theorem lk_all : ([("LineError", true), ("InvalidDrawing", true), ("UnknownPiece", true), ("SamePiece", true), ("InvalidHalf", true), ("InvalidNumber", true), ("InvalidPiece", true), ("UnlikeCounts", true), ("InvalidPoint", true)] : List (Str × Bool)).lookup ("InvalidDrawing" : Str) = some true := by decide +kernel
theorem cs_ok : (["InvalidDrawing"] : List Str).contains ("InvalidDrawing" : Str) = true := by decide +kernel
theorem fs_ok (d : D) : ([("index", d)] : List (Str × D)).lookup ("index" : Str) = some d := by
  have e : (("index" : Str) == ("index" : Str)) = true := by decide +kernel
  rw [List.lookup_cons, e]
abbrev exD (i : Int) : Cell := .exc true "InvalidDrawing" [("index", .int i)]
theorem su_eq (st : Sto) (i : Int) : d_law_raised_su [none, some (.obj st.length), none, none, none] (st ++ [exD i]) = some (.ret (.tup [.str "drawing", .int i]), [none, some (.obj st.length), some (.obj (st.length + 5)), some (.int 0), some (.obj (st.length + 6))], st ++ [exD i, .lst false [.bl true, .bl false, .bl false], .lst false [.bl false, .bl false, .bl false], .lst false [.bl true, .bl false, .bl false, .bl false, .bl false, .bl false], .lst false [.bl false, .bl false], .lst false [.bl true, .bl false, .bl false, .bl false, .bl false, .bl false, .bl false, .bl false], .lst false [.str "drawing", .str "unknown", .str "same", .str "half", .str "number", .str "piece", .str "counts", .str "point"]]) := by
  have gj : ∀ (L : List Cell) (j : Nat), (st ++ L)[st.length + j]? = L[j]? := fun L j => by rw [List.getElem?_append_right (Nat.le_add_right _ _), Nat.add_sub_cancel_left]
  have g0 : ∀ L : List Cell, (st ++ L)[st.length]? = L[0]? := fun L => gj L 0
  unfold d_law_raised_su
  refine (dThen_next (ls1 := [none, some (.obj st.length), some (.obj (st.length + 1)), none, none]) (st1 := st ++ [exD i, .lst false [.bl true, .bl false, .bl false]]) (dAsg_next (d := .obj (st.length + 1)) (by simp [dApp, evA, dUn, dBin, dVar, dC, okD, okL, bindR, fIsE, fLst, fAdd, small, LINE, g0, gj, List.append_assoc, lk_InvalidDrawing, lk_UnknownPiece, lk_SamePiece, lk_InvalidHalf, lk_InvalidNumber, lk_InvalidPiece, lk_UnlikeCounts, lk_InvalidPoint, lk_ValueError]) (by simp [asg]))).trans ?_
  refine (dThen_next (ls1 := [none, some (.obj st.length), some (.obj (st.length + 3)), none, none]) (st1 := st ++ [exD i, .lst false [.bl true, .bl false, .bl false], .lst false [.bl false, .bl false, .bl false], .lst false [.bl true, .bl false, .bl false, .bl false, .bl false, .bl false]]) (dAsg_next (d := .obj (st.length + 3)) (by simp [dApp, evA, dUn, dBin, dVar, dC, okD, okL, bindR, fIsE, fLst, fAdd, small, LINE, g0, gj, List.append_assoc, lk_InvalidDrawing, lk_UnknownPiece, lk_SamePiece, lk_InvalidHalf, lk_InvalidNumber, lk_InvalidPiece, lk_UnlikeCounts, lk_InvalidPoint, lk_ValueError]) (by simp [asg]))).trans ?_
  refine (dThen_next (ls1 := [none, some (.obj st.length), some (.obj (st.length + 5)), none, none]) (st1 := st ++ [exD i, .lst false [.bl true, .bl false, .bl false], .lst false [.bl false, .bl false, .bl false], .lst false [.bl true, .bl false, .bl false, .bl false, .bl false, .bl false], .lst false [.bl false, .bl false], .lst false [.bl true, .bl false, .bl false, .bl false, .bl false, .bl false, .bl false, .bl false]]) (dAsg_next (d := .obj (st.length + 5)) (by simp [dApp, evA, dUn, dBin, dVar, dC, okD, okL, bindR, fIsE, fLst, fAdd, small, LINE, g0, gj, List.append_assoc, lk_InvalidDrawing, lk_UnknownPiece, lk_SamePiece, lk_InvalidHalf, lk_InvalidNumber, lk_InvalidPiece, lk_UnlikeCounts, lk_InvalidPoint, lk_ValueError]) (by simp [asg]))).trans ?_
  refine (dThen_next (ls1 := [none, some (.obj st.length), some (.obj (st.length + 5)), none, none]) (st1 := st ++ [exD i, .lst false [.bl true, .bl false, .bl false], .lst false [.bl false, .bl false, .bl false], .lst false [.bl true, .bl false, .bl false, .bl false, .bl false, .bl false], .lst false [.bl false, .bl false], .lst false [.bl true, .bl false, .bl false, .bl false, .bl false, .bl false, .bl false, .bl false]]) (dIf_false (st1 := st ++ [exD i, .lst false [.bl true, .bl false, .bl false], .lst false [.bl false, .bl false, .bl false], .lst false [.bl true, .bl false, .bl false, .bl false, .bl false, .bl false], .lst false [.bl false, .bl false], .lst false [.bl true, .bl false, .bl false, .bl false, .bl false, .bl false, .bl false, .bl false]]) (by simp [dMeth, isTy, fCount, fIndex, mapO, flD, eqV, List.countP_cons, List.findIdx?_cons, dOr, fOr, fNe, fNot, fTru, truD, eqD1, dApp, evA, dUn, dBin, dVar, dC, okD, okL, bindR, fIsE, fLst, g0, gj, lk_InvalidDrawing, lk_UnknownPiece, lk_SamePiece, lk_InvalidHalf, lk_InvalidNumber, lk_InvalidPiece, lk_UnlikeCounts, lk_InvalidPoint, lk_ValueError]))).trans ?_
  refine (dThen_next (ls1 := [none, some (.obj st.length), some (.obj (st.length + 5)), some (.int 0), none]) (st1 := st ++ [exD i, .lst false [.bl true, .bl false, .bl false], .lst false [.bl false, .bl false, .bl false], .lst false [.bl true, .bl false, .bl false, .bl false, .bl false, .bl false], .lst false [.bl false, .bl false], .lst false [.bl true, .bl false, .bl false, .bl false, .bl false, .bl false, .bl false, .bl false]]) (dAsg_next (d := .int 0) (by simp [dMeth, isTy, fCount, fIndex, mapO, flD, eqV, List.countP_cons, List.findIdx?_cons, dOr, fOr, fNe, fNot, fTru, truD, eqD1, dApp, evA, dUn, dBin, dVar, dC, okD, okL, bindR, fIsE, fLst, g0, gj, lk_InvalidDrawing, lk_UnknownPiece, lk_SamePiece, lk_InvalidHalf, lk_InvalidNumber, lk_InvalidPiece, lk_UnlikeCounts, lk_InvalidPoint, lk_ValueError]) (by simp [asg]))).trans ?_
  refine (dThen_next (ls1 := [none, some (.obj st.length), some (.obj (st.length + 5)), some (.int 0), some (.obj (st.length + 6))]) (st1 := st ++ [exD i, .lst false [.bl true, .bl false, .bl false], .lst false [.bl false, .bl false, .bl false], .lst false [.bl true, .bl false, .bl false, .bl false, .bl false, .bl false], .lst false [.bl false, .bl false], .lst false [.bl true, .bl false, .bl false, .bl false, .bl false, .bl false, .bl false, .bl false], .lst false [.str "drawing", .str "unknown", .str "same", .str "half", .str "number", .str "piece", .str "counts", .str "point"]]) (dAsg_next (d := .obj (st.length + 6)) (by simp [dApp, evA, dC, okD, okL, fLst, small, LINE]) (by simp [asg]))).trans ?_
  exact dRet_ok (by simp [dIf, fIf, fEq, eqD1, dApp, evA, dUn, dBin, dVar, dC, okD, bindR, fTup, small, LINE, fIx, L2.atI, L2.ixN, fXf, cs_ok, fs_ok, g0, gj])
end K01
end
section
set_option maxRecDepth 100000
set_option maxHeartbeats 1000000
namespace K01
open PySem L2 MP
abbrev tblA : List (Str × Bool) := [("LineError", true), ("InvalidDrawing", true), ("UnknownPiece", true), ("SamePiece", true), ("InvalidHalf", true), ("InvalidNumber", true), ("InvalidPiece", true), ("UnlikeCounts", true), ("InvalidPoint", true)]
/-- behind a raise: rows are as they were -/
structure StpL (st st' : Sto) : Prop where
  old : ∀ i ro l, i ≠ 1 → st[i]? = some (.lst ro l) → st'[i]? = some (.lst ro l)
  row : RowOk st'
theorem Stp.toL {a b : Sto} (h : Stp a b) : StpL a b := ⟨fun i ro l hi e => (h.old i (lt_of_get e) hi).trans e, h.row⟩
theorem StpL.trans {a b c : Sto} (h : StpL a b) (k : StpL b c) : StpL a c := ⟨fun i ro l hi e => k.old i ro l hi (h.old i ro l hi e), k.row⟩
theorem RowOk.dead {st : Sto} (h : RowOk st) : RowOk (st.map Cell.dead) := by
  obtain ⟨ro, ns, a, b, c, e0, e1, r⟩ := h.ex
  exact ⟨ro, ns, a, b, c, by rw [List.getElem?_map, e0]; rfl, by rw [List.getElem?_map, e1]; rfl, r⟩
theorem RowOk.app {st : Sto} {L : List Cell} (h : RowOk st) : RowOk (st ++ L) := by
  obtain ⟨ro, ns, a, b, d, h0, h1, h⟩ := h.ex
  refine ⟨ro, ns, a, b, d, ?_, ?_, h⟩
  · rw [List.getElem?_append_left (lt_of_get h0)]; exact h0
  · rw [List.getElem?_append_left (lt_of_get h1)]; exact h1
theorem StpL.dead {st : Sto} {L : List Cell} (h : RowOk st) : StpL st ((st ++ L).map Cell.dead) := by
  refine ⟨fun i ro l hi e => ?_, h.app.dead⟩
  rw [List.getElem?_map, List.getElem?_append_left (lt_of_get e), e]
  rfl
theorem raised_ok {d : D} {st : Sto} : raisedD tblA 5 1 d_law_raised_su (some (.ok d, st)) = okD .non st := rfl
theorem raised_bad {st : Sto} {i : Int} (h : RowOk st) : ∃ st', raisedD tblA 5 1 d_law_raised_su (some (.exc "InvalidDrawing" [("index", .int i)], st)) = some (.ok (.tup [.str "drawing", .int i]), st') ∧ StpL st st' := by
  refine ⟨(st ++ [exD i, .lst false [.bl true, .bl false, .bl false], .lst false [.bl false, .bl false, .bl false], .lst false [.bl true, .bl false, .bl false, .bl false, .bl false, .bl false], .lst false [.bl false, .bl false], .lst false [.bl true, .bl false, .bl false, .bl false, .bl false, .bl false, .bl false, .bl false], .lst false [.str "drawing", .str "unknown", .str "same", .str "half", .str "number", .str "piece", .str "counts", .str "point"]]).map Cell.dead, ?_, .dead h⟩
  have e := su_eq st i
  unfold raisedD
  simp only [lk_all]
  rw [show (List.replicate 5 (none : Option D)).set 1 (some (.obj st.length)) = [none, some (.obj st.length), none, none, none] from rfl]
  rw [e]
  rfl
/-! ### comparing -/
theorem eqv_ints : ∀ r s : List Int, PyData.eqvAll (r.map .int) (s.map .int) = decide (r = s)
  | [], [] => by simp [PyData.eqvAll]
  | [], _ :: _ => by simp [PyData.eqvAll]
  | _ :: _, [] => by simp [PyData.eqvAll]
  | a :: r, b :: s => by
    rw [List.map_cons, List.map_cons, PyData.eqvAll, eqv_ints r s]
    by_cases h : a = b <;> by_cases h2 : r = s <;> simp [PyData.eqv, h, h2]
theorem eqv_rows : ∀ r s : List (List Int), PyData.eqvAll (r.map rowP) (s.map rowP) = decide (r = s)
  | [], [] => by simp [PyData.eqvAll]
  | [], _ :: _ => by simp [PyData.eqvAll]
  | _ :: _, [] => by simp [PyData.eqvAll]
  | a :: r, b :: s => by
    rw [List.map_cons, List.map_cons, PyData.eqvAll, eqv_rows r s]
    by_cases h : a = b <;> by_cases h2 : r = s <;> simp [rowP, PyData.eqv, eqv_ints, h, h2]
def row4 (p : P4) : List Int := [p.1.1, p.1.2, p.2.1, p.2.2]
theorem pd_rows (ps : List P4) : ps.map pd = (ps.map row4).map tupI := by
  rw [List.map_map]
  rfl
theorem row4_inj {p q : P4} (h : row4 p = row4 q) : p = q := by
  obtain ⟨⟨a, b⟩, ⟨c, d⟩⟩ := p
  obtain ⟨⟨a', b'⟩, ⟨c', d'⟩⟩ := q
  simp [row4] at h
  simp [h]
theorem map_row4 : ∀ ps qs : List P4, ps.map row4 = qs.map row4 ↔ ps = qs
  | [], [] => by simp
  | [], _ :: _ => by simp
  | _ :: _, [] => by simp
  | p :: ps, q :: qs => by
    rw [List.map_cons, List.map_cons, List.cons.injEq, List.cons.injEq, map_row4 ps qs]
    exact ⟨fun h => ⟨row4_inj h.1, h.2⟩, fun h => ⟨by rw [h.1], h.2⟩⟩
theorem eqD_ps (st : Sto) (ps qs : List P4) : eqD st (.tup (ps.map pd)) (.tup (qs.map pd)) = some (decide (ps = qs)) := by
  have e : ∀ rows : List (List Int), toP st DEEP (.tup (rows.map tupI)) = some (.tuple (rows.map rowP)) := fun rows => by
    show toP st 8 (.tup _) = _
    simp only [toP, toP_rows st 5 rows]
  have s1 : ∀ rows : List (List Int), SeqAt.shaped (.tuple (rows.map rowP)) = true := fun rows => by
    have := dep_rows rows
    simp [SeqAt.shaped, PyData.canLay0, lay_rows, PyData.depth]
    omega
  rw [pd_rows, pd_rows]
  simp only [eqD, e, s1, Bool.and_self, if_true]
  rw [PyData.eqv, eqv_rows]
  by_cases h : ps = qs
  · simp [h]
  · have h2 : ¬ ps.map row4 = qs.map row4 := fun z => h ((map_row4 ps qs).mp z)
    simp [h, h2]
theorem eqD_mark (st : Sto) (i : Int) : eqD st (.tup [.str "drawing", .int i]) (.tup [.str "drawing", .int i]) = some true := by
  have e : (("drawing" : Str) == ("drawing" : Str)) = true := by decide +kernel
  have e2 : PyData.strOk ("drawing" : Str) = true := by decide +kernel
  simp [eqD, toP, DEEP, mapO, PyData.eqv, PyData.eqvAll, SeqAt.shaped, PyData.canLay0, PyData.canLayAll0, PyData.depth, PyData.depthAll, e, e2]
theorem eqD_non (st : Sto) : eqD st .non .non = some true := by
  simp [eqD, toP, DEEP, PyData.eqv, SeqAt.shaped, PyData.canLay0, PyData.depth]
/-! ### two drawings -/
abbrev insD (ps : List P4) : Cell := .ins "Drawing" [("pieces", .tup (ps.map pd))]
theorem css : cs_pieces.contains ("Drawing" : Str) = true := by decide +kernel
theorem fsp (d : D) : ([("pieces", d)] : List (Str × D)).lookup ("pieces" : Str) = some d := by
  have e : (("pieces" : Str) == ("pieces" : Str)) = true := by decide +kernel
  rw [List.lookup_cons, e]
theorem dwd : (("Drawing" : Str) == ("Drawing" : Str)) = true := by decide +kernel
theorem ne_ins {st : Sto} {n m : Nat} {ps qs : List P4} (h : st[n]? = some (insD ps)) (h' : st[m]? = some (insD qs)) : fNeO "Drawing" gDrawing___eq__ (.obj n) (.obj m) st = okD (.bl (!decide (ps = qs))) st := by
  have g : gDrawing___eq__ [.obj n, .obj m] st = okD (.bl (decide (ps = qs))) st := by
    simp [gDrawing___eq__, bDrawing___eq__, runD, startL, dRet, dAnd, dBin, dUn, dVar, bindR, bindS, okD, fAnd, fIsI, fFld, h, h', css, fsp, fEq, eqD_ps, dwd, List.lookup_cons]
  simp [fNeO, isIns, h, h', dwd, g, bindO, okD, blK]
theorem len_ins {st : Sto} {n : Nat} {ps : List P4} (hl : ps.length < 1000) (h : st[n]? = some (insD ps)) : fLenO "Drawing" gDrawing___len__ [.obj n] st = okD (.int (ps.length : Nat)) st := by
  have g : gDrawing___len__ [.obj n] st = okD (.int (ps.length : Nat)) st := by
    simp [gDrawing___len__, bDrawing___len__, runD, startL, dRet, dUn, dVar, bindR, bindS, okD, dApp, evA, fLen, fFld, h, css, fsp]
  have h1 : (ps.length : Int) < 9223372036854775808 := by omega
  simp [fLenO, isIns, h, dwd, g, bindO, okD, natK, h1]
end K01
end
section
set_option maxRecDepth 100000
set_option maxHeartbeats 1000000
namespace K01
open PySem L2 MP
/-! ### the other way round -/
theorem mn_comm (p q : Int × Int) : mn p q = mn q p := by
  unfold mn
  cases h1 : lt2 q p <;> cases h2 : lt2 p q <;> simp only [if_true, if_false, Bool.false_eq_true]
  · exact le2_antisym h1 h2
  · rw [lt2_asym h1] at h2
    cases h2
theorem mx_comm (p q : Int × Int) : mx p q = mx q p := by
  unfold mx
  cases h1 : lt2 q p <;> cases h2 : lt2 p q <;> simp only [if_true, if_false, Bool.false_eq_true]
  · exact le2_antisym h1 h2
  · rw [lt2_asym h1] at h2
    cases h2
def sw (p : P4) : P4 := (p.2, p.1)
theorem sw_pv {p : P4} (h : Pv p) : Pv (sw p) := ⟨h.z0, h.z1, h.w0, h.w1, h.x0, h.x1, h.y0, h.y1, fun z => h.ne ⟨z.1.symm, z.2.symm⟩⟩
theorem sw_ne {p : P4} (h : Pv p) : sw p ≠ p := fun z => by
  have z1 : p.2 = p.1 := congrArg Prod.fst z
  exact h.ne ⟨by rw [z1], by rw [z1]⟩
theorem along_sw (p q : P4) : alongP (sw p) q = alongP p q := by
  obtain ⟨⟨a, b⟩, ⟨c, d⟩⟩ := p
  obtain ⟨⟨x, y⟩, ⟨z, w⟩⟩ := q
  unfold alongP along sw
  simp only [start, stop]
  rw [mn_comm (c, d) (a, b), mx_comm (c, d) (a, b)]
  have e1 : ((a - c) * (w - y) - (b - d) * (z - x) = 0) = ((c - a) * (w - y) - (d - b) * (z - x) = 0) := propext ⟨fun h => by grind, fun h => by grind⟩
  have e2 : ((a - c) * (y - d) - (b - d) * (x - c) = 0) = ((c - a) * (y - b) - (d - b) * (x - a) = 0) := propext ⟨fun h => by grind, fun h => by grind⟩
  simp only [e1, e2]
theorem Good.init {gs : List P4} {p : P4} (g : Good (gs ++ [p])) : Good gs := by
  refine ⟨fun q hq => g.pv q (List.mem_append_left _ hq), by have := g.len; rw [List.length_append] at this; omega, fun i q hi => ?_⟩
  have hl := lt_of_get hi
  have := g.apart i q (by rw [List.getElem?_append_left hl]; exact hi)
  rwa [List.take_append_of_le_length (Nat.le_of_lt hl)] at this
theorem Good.snoc {gs : List P4} {p : P4} (g : Good gs) (h : Pv p) (hl : gs.length < 6) (ha : gs.any (alongP p) = false) : Good (gs ++ [p]) := by
  refine ⟨fun q hq => ?_, by rw [List.length_append]; simp; omega, fun i q hi => ?_⟩
  · rcases List.mem_append.mp hq with h1 | h1
    · exact g.pv q h1
    · rw [List.mem_singleton.mp h1]
      exact h
  · by_cases hk : i < gs.length
    · rw [List.getElem?_append_left hk] at hi
      rw [List.take_append_of_le_length (Nat.le_of_lt hk)]
      exact g.apart i q hi
    · have e := lt_of_get hi
      rw [List.length_append] at e
      simp at e
      have ei : i = gs.length := by omega
      subst ei
      have eq : p = q := by simpa using hi
      subst eq
      rw [List.take_append_of_le_length (Nat.le_refl _), List.take_length]
      exact ha
theorem Good.swap {gs : List P4} {p : P4} (g : Good (gs ++ [p])) : Good (gs ++ [sw p]) := by
  have hl := g.len
  rw [List.length_append] at hl
  simp at hl
  refine g.init.snoc (sw_pv (g.pv p (by simp))) (by omega) ?_
  have := g.apart gs.length p (by simp)
  rw [List.take_append_of_le_length (Nat.le_refl _), List.take_length] at this
  rw [← this]
  congr 1
  funext q
  exact along_sw p q
theorem good_nil : Good [] := ⟨fun _ h => (by cases h), (by simp), fun i p h => (by simp at h)⟩
/-! ### rows of whatever was drawn -/
def Ent (d : D) : Prop := d ∈ odd ∨ ∃ p, d = pd p
def entP (d : D) : PyData := match toP [] 7 d with | some p => p | none => .none
theorem ent_toP {d : D} (h : Ent d) (st : Sto) : toP st 7 d = some (entP d) ∧ (entP d).canLay0 = true ∧ (entP d).depth ≤ 1 := by
  rcases h with h | ⟨p, rfl⟩
  · simp only [odd, List.mem_cons, List.not_mem_nil, or_false] at h
    rcases h with rfl | rfl | rfl | rfl | rfl | rfl | rfl | rfl <;> refine ⟨rfl, ?_, ?_⟩ <;> simp [entP, toP, mapO, PyData.canLay0, PyData.canLayAll0, PyData.depth, PyData.depthAll]
  · refine ⟨rfl, ?_, ?_⟩ <;> simp [entP, toP, mapO, PyData.canLay0, PyData.canLayAll0, PyData.depth, PyData.depthAll]
theorem ents_toP (st : Sto) : ∀ {l : List D}, (∀ d ∈ l, Ent d) → mapO (toP st 7) l = some (l.map entP) ∧ PyData.canLayAll0 (l.map entP) = true ∧ PyData.depthAll (l.map entP) ≤ 1
  | [], _ => by simp [mapO, PyData.canLayAll0, PyData.depthAll]
  | d :: l, h => by
    obtain ⟨a, b, c⟩ := ent_toP (h d (List.mem_cons_self ..)) st
    obtain ⟨a', b', c'⟩ := ents_toP st (l := l) fun x hx => h x (List.mem_cons_of_mem _ hx)
    refine ⟨by rw [mapO, a, a']; rfl, by rw [List.map_cons, PyData.canLayAll0, b, b']; rfl, ?_⟩
    rw [List.map_cons, PyData.depthAll]
    exact Nat.max_le.mpr ⟨c, c'⟩
theorem eqD_ents {st : Sto} {n m : Nat} {ro ro' : Bool} {l : List D} (hl : ∀ d ∈ l, Ent d) (h : st[n]? = some (.lst ro l)) (h' : st[m]? = some (.lst ro' [])) : eqD st (.obj n) (.obj m) = some l.isEmpty := by
  obtain ⟨a, b, c⟩ := ents_toP st hl
  have e1 : toP st DEEP (.obj n) = some (.list (l.map entP)) := by
    show toP st 8 (.obj n) = _
    simp only [toP, h, a]
  have e2 : toP st DEEP (.obj m) = some (.list []) := by
    show toP st 8 (.obj m) = _
    simp only [toP, h', mapO]
  have s1 : SeqAt.shaped (.list (l.map entP)) = true := by
    simp [SeqAt.shaped, PyData.canLay0, b, PyData.depth]
    omega
  have s2 : SeqAt.shaped (.list []) = true := by
    simp [SeqAt.shaped, PyData.canLay0, PyData.canLayAll0, PyData.depth, PyData.depthAll]
  simp only [eqD, e1, e2, s1, s2, Bool.and_self, if_true]
  cases l with
  | nil => simp [PyData.eqv, PyData.eqvAll]
  | cons r t => simp [PyData.eqv, PyData.eqvAll]
end K01
end
section
set_option maxRecDepth 100000
set_option maxHeartbeats 2000000
namespace K01
open PySem L2 MP
abbrev commonT : De := dBin fIs (dApp g_law_common [(dVar 11), (dVar 6)]) (dC .non)
theorem compD_common {k : Nat} {full : List D} {p : P4} (hp : Pv p) {o0 o1 o2 o3 o4 o5 o7 o8 o9 o10 : Option D} (hk3 : k ≠ 3) (hk1 : 2 ≤ k) : ∀ (xs : List P4) (st : Sto) (acc : List D), RowOk st → st[3]? = some (.lst false full) → st[k]? = some (.lst false acc) → (∀ q ∈ xs, Pv q) → acc.length + xs.length < LINE →
    ∃ st', compD (some (3, full)) (.nm 11) commonT (dVar 11) k [o0, o1, o2, o3, o4, o5, some (pd p), o7, o8, o9, o10, none] (xs.map pd) st = okD (.obj k) st' ∧ st'[k]? = some (.lst false (acc ++ (xs.filter fun q => noCommon q p).map pd)) ∧ RowOk st' ∧ st.length ≤ st'.length ∧ ∀ j, j < st.length → j ≠ 1 → j ≠ k → st'[j]? = st[j]? := by
  have hg : ∀ st : Sto, st[3]? = some (.lst false full) → gdB (some (3, full)) st = true := fun st h => by
    unfold gdB
    simp only [h]
    exact beqDs_refl full
  intro xs
  induction xs with
  | nil =>
    intro st acc h h3 hk _ _
    exact ⟨st, by simp [compD, hg st h3], by simpa using hk, h, Nat.le_refl _, fun _ _ _ _ => rfl⟩
  | cons q xs ih =>
    intro st acc h h3 hk hv hl
    obtain ⟨d, st1, e1, n1, s1⟩ := common_eq h (hv q (List.mem_cons_self ..)) hp
    have hk' : st1[k]? = some (.lst false acc) := (s1.old k (lt_of_get hk) (by omega)).trans hk
    have h3' : st1[3]? = some (.lst false full) := (s1.old 3 (lt_of_get h3) (by decide)).trans h3
    have hl' : acc.length < LINE := by simp at hl; omega
    have et : commonT [o0, o1, o2, o3, o4, o5, some (pd p), o7, o8, o9, o10, some (pd q)] st = okD (.bl (noCommon q p)) st1 := by
      simp only [pd] at e1
      simp [commonT, dBin, dApp, evA, dVar, dC, okD, bindR, e1, fIs, n1]
    rw [List.map_cons, compD]
    simp only [hg st h3, if_true, asg, List.set_cons_succ, List.set_cons_zero]
    rw [et]
    cases hc : noCommon q p with
    | false =>
      obtain ⟨st2, e2, k2, r2, l2, o2⟩ := ih st1 acc s1.row h3' hk' (fun x hx => hv x (List.mem_cons_of_mem _ hx)) (by simp at hl; omega)
      refine ⟨st2, ?_, ?_, r2, Nat.le_trans s1.len l2, fun j hj h1 hjk => (o2 j (Nat.lt_of_lt_of_le hj s1.len) h1 hjk).trans (s1.old j hj h1)⟩
      · simp only [okD, bindO]
        exact e2
      · rw [k2, List.filter_cons, hc]
        simp
    | true =>
      have hkl := lt_of_get hk'
      obtain ⟨st2, e2, k2, r2, l2, o2⟩ := ih (st1.set k (.lst false (acc ++ [pd q]))) (acc ++ [pd q]) (s1.row.set hk1) (by rw [List.getElem?_set_ne hk3]; exact h3') (List.getElem?_set_self hkl) (fun x hx => hv x (List.mem_cons_of_mem _ hx)) (by simp at hl ⊢; omega)
      rw [List.length_set] at l2 o2
      refine ⟨st2, ?_, ?_, r2, Nat.le_trans s1.len l2, fun j hj h1 hjk => (o2 j (Nat.lt_of_lt_of_le hj s1.len) h1 hjk).trans ((List.getElem?_set_ne (Ne.symm hjk)).trans (s1.old j hj h1))⟩
      · simp only [okD, bindO, dVar, List.getElem?_cons_succ, List.getElem?_cons_zero, hk', hl', if_true]
        exact e2
      · rw [k2, List.filter_cons, hc]
        simp
/-- the pieces that lie along the new one -/
theorem lc_common {gs : List P4} {p : P4} {o0 o1 o2 o4 o5 o7 o8 o9 o10 o11 : Option D} {st : Sto} (hp : Pv p) (hv : ∀ q ∈ gs, Pv q) (hl : gs.length < 1000) (h : RowOk st) (h3 : st[3]? = some (.lst false (gs.map pd))) :
    ∃ st', dBin fNe (dLc (dSeq (dVar 3)) (.nm 11) commonT (dVar 11) [11]) (dApp fLst []) [o0, o1, o2, some (.obj 3), o4, o5, some (pd p), o7, o8, o9, o10, o11] st = okD (.bl (gs.any (alongP p))) st' ∧ Stp st st' := by
  have l3 := lt_of_get h3
  obtain ⟨st1, e1, k1, r1, l1, x1⟩ := compD_common (k := st.length) (full := gs.map pd) (o0 := o0) (o1 := o1) (o2 := o2) (o3 := some (.obj 3)) (o4 := o4) (o5 := o5) (o7 := o7) (o8 := o8) (o9 := o9) (o10 := o10) hp (by omega) (by omega) gs (st ++ [.lst false []]) [] h.app (by rw [List.getElem?_append_left l3]; exact h3) get_push hv (by simp [LINE]; omega)
  have s1 : Stp st st1 := ⟨by simp at l1; omega, fun i hi h1 => (x1 i (by simp; omega) h1 (by omega)).trans (List.getElem?_append_left hi), r1⟩
  refine ⟨st1 ++ [.lst false []], ?_, s1.trans (.push r1)⟩
  rw [List.nil_append] at k1
  have eq := eqD_ents (st := st1 ++ [.lst false []]) (n := st.length) (m := st1.length) (l := (gs.filter fun q => noCommon q p).map pd) (fun d hd => by
    obtain ⟨q, _, rfl⟩ := List.mem_map.mp hd
    exact .inr ⟨q, rfl⟩) (by rw [List.getElem?_append_left (lt_of_get k1)]; exact k1) get_push
  have ea : (!((gs.filter fun q => noCommon q p).map pd).isEmpty) = gs.any (alongP p) := by
    clear eq k1 e1 h3
    induction gs with
    | nil => rfl
    | cons q gs ih =>
      have hq := geo hp (hv q (List.mem_cons_self ..))
      rw [List.filter_cons, List.any_cons, ← hq]
      cases hc : noCommon q p with
      | true => simp
      | false =>
        simp only [Bool.false_or, Bool.false_eq_true, if_false]
        exact ih (fun x hx => hv x (List.mem_cons_of_mem _ hx)) (by simp at hl; omega)
  have ed : dLc (dSeq (dVar 3)) (.nm 11) commonT (dVar 11) [11] [o0, o1, o2, some (.obj 3), o4, o5, some (pd p), o7, o8, o9, o10, o11] st = okD (.obj st.length) st1 := by
    refine (by simp [dLc, dSeq, dVar, okD, bindI, fSeq, h3, wipeL] : _ = _).trans e1
  unfold dBin
  rw [ed]
  simp only [bindR, okD, dApp, evA, fLst, small, LINE, okL, List.length_nil]
  rw [← ea]
  simp [fNe, okL, okD, eq]
end K01
end
section
set_option maxRecDepth 100000
set_option maxHeartbeats 2000000
namespace K01
open PySem L2 MP
/-- what was drawn, and the first wrong one -/
inductive Inv (i : Nat) : List D → D → Prop
  | good (gs : List P4) : Good gs → gs.length = i → Inv i (gs.map pd) .non
  | bad (gs : List P4) (e : D) (rest : List D) : Good gs → Bad gs e → (∀ d ∈ gs.map pd ++ e :: rest, Ent d) → (gs.map pd ++ e :: rest).length = i → Inv i (gs.map pd ++ e :: rest) (.int (gs.length : Nat))
theorem Inv.len {i : Nat} {l : List D} {b : D} (h : Inv i l b) : l.length = i := by
  cases h with
  | good gs g e => rw [List.length_map]; exact e
  | bad gs e r g b z hl => exact hl
theorem Inv.ent {i : Nat} {l : List D} {b : D} (h : Inv i l b) : ∀ d ∈ l, Ent d := by
  cases h with
  | good gs g e =>
      intro d hd
      obtain ⟨q, _, rfl⟩ := List.mem_map.mp hd
      exact .inr ⟨q, rfl⟩
  | bad gs e r g b z hl => exact z
/-- what one round drew -/
def New (k : Int) (d : D) : Prop := (k = 0 ∧ d ∈ odd) ∨ (k ≠ 0 ∧ ∃ q, d = pd q ∧ Pv q)
def d1 : Ds := dAsg (dApp g_law_piece [(dVar 1), (dC (.int 60))]) (.nm 6)
def d2 : Ds := dAsg (dApp g_law_taken [(dVar 1), (dC (.int 9))]) (.nm 7)
def d3 : Ds := dIfS (dBin fEq (dVar 7) (dC (.int 0))) (dAsg (dApp g_law_pick [(dVar 1), (dVar 2)]) (.nm 6)) dNext
def d4 : Ds := dIfS (dAnd (dBin fEq (dVar 7) (dC (.int 1))) (dAnd (dBin fNe (dVar 3) (dApp fLst [])) (dBin fIs (dVar 4) (dC .non)))) (dAsg (dApp g_law_over [(dVar 1), (dVar 3)]) (.nm 6)) dNext
def d5 : Ds := dAsg (dOr (dBin fEq (dVar 7) (dC (.int 0))) (dAnd (dBin fIs (dVar 4) (dC .non)) (dBin fNe (dLc (dSeq (dVar 3)) (.nm 11) commonT (dVar 11) [11]) (dApp fLst [])))) (.nm 8)
def d6 : Ds := dAsg (dIf (dAnd (dBin fIs (dVar 4) (dC .non)) (dOr (dUn fTru (dVar 8)) (dBin fEq (dVar 5) (dC (.int 6))))) (dVar 5) (dVar 4)) (.nm 4)
def d7 : Ds := dExpr (dMeth "list" fAppend (dVar 3) [(dVar 6)])
def body : Ds := dThen d1 (dThen d2 (dThen d3 (dThen d4 (dThen d5 (dThen d6 d7)))))
variable {o0 o6 o7 o8 o9 o10 o11 : Option D}
theorem new_eq {i : Nat} {l : List D} {b : D} {o5 : Option D} {st : Sto} {rest : Ds} (h : RowOk st) (h2 : st[2]? = some (.lst false odd)) (h3 : st[3]? = some (.lst false l)) (v : Inv i l b) (hi : i ≤ 7) :
    ∃ k d st', dThen d1 (dThen d2 (dThen d3 (dThen d4 rest))) [o0, some (.obj 1), some (.obj 2), some (.obj 3), some b, o5, o6, o7, o8, o9, o10, o11] st = rest [o0, some (.obj 1), some (.obj 2), some (.obj 3), some b, o5, some d, some (.int k), o8, o9, o10, o11] st' ∧ New k d ∧ Stp st st' := by
  obtain ⟨x, y, z, w, st1, e1, p1, s1⟩ := piece_eq h
  obtain ⟨k, st2, e2, k0, k9, s2, _⟩ := taken_eq (n := 9) s1.row (by decide) (by decide)
  have s12 := s1.trans s2
  have r1 : d1 [o0, some (.obj 1), some (.obj 2), some (.obj 3), some b, o5, o6, o7, o8, o9, o10, o11] st = some (.next, [o0, some (.obj 1), some (.obj 2), some (.obj 3), some b, o5, some (pcD x y z w), o7, o8, o9, o10, o11], st1) :=
    dAsg_next (d := pcD x y z w) (by simp [dApp, evA, dVar, dC, okD, e1]) (by simp [asg])
  have r2 : d2 [o0, some (.obj 1), some (.obj 2), some (.obj 3), some b, o5, some (pcD x y z w), o7, o8, o9, o10, o11] st1 = some (.next, [o0, some (.obj 1), some (.obj 2), some (.obj 3), some b, o5, some (pcD x y z w), some (.int k), o8, o9, o10, o11], st2) :=
    dAsg_next (d := .int k) (by simp [dApp, evA, dVar, dC, okD, e2]) (by simp [asg])
  have h2' : st2[2]? = some (.lst false odd) := (s12.old 2 (lt_of_get h2) (by decide)).trans h2
  have h3' : st2[3]? = some (.lst false l) := (s12.old 3 (lt_of_get h3) (by decide)).trans h3
  by_cases hk : k = 0
  · subst hk
    obtain ⟨j, d, st3, hj, e3, s3, _⟩ := pick_eq s2.row h2' (by decide) (by simp [odd]) (by simp [odd])
    refine ⟨0, d, st3, ?_, .inl ⟨rfl, List.mem_of_getElem? hj⟩, s12.trans s3⟩
    refine (dThen_next r1).trans ((dThen_next r2).trans ?_)
    refine (dThen_next (ls1 := [o0, some (.obj 1), some (.obj 2), some (.obj 3), some b, o5, some d, some (.int 0), o8, o9, o10, o11]) (st1 := st3) ?_).trans ?_
    · exact (dIf_true (st1 := st2) (by simp [dBin, dVar, dC, bindR, okD, fEq, eqD1])).trans (dAsg_next (d := d) (by simp [dApp, evA, dVar, okD, e3]) (by simp [asg]))
    · exact dThen_next ((dIf_false (st1 := st3) (by simp [dAnd, fAnd, dBin, dVar, dC, bindR, okD, fEq, eqD1])).trans rfl)
  · have hk' : (k == 0) = false := beq_eq_false_iff_ne.mpr hk
    have r3 : d3 [o0, some (.obj 1), some (.obj 2), some (.obj 3), some b, o5, some (pcD x y z w), some (.int k), o8, o9, o10, o11] st2 = some (.next, [o0, some (.obj 1), some (.obj 2), some (.obj 3), some b, o5, some (pcD x y z w), some (.int k), o8, o9, o10, o11], st2) :=
      (dIf_false (st1 := st2) (by simp [dBin, dVar, dC, bindR, okD, fEq, eqD1, hk'])).trans rfl
    have fin : ∀ (q : P4) (st3 : Sto), Pv q → Stp st2 st3 → d4 [o0, some (.obj 1), some (.obj 2), some (.obj 3), some b, o5, some (pcD x y z w), some (.int k), o8, o9, o10, o11] st2 = some (.next, [o0, some (.obj 1), some (.obj 2), some (.obj 3), some b, o5, some (pd q), some (.int k), o8, o9, o10, o11], st3) →
        ∃ k d st', dThen d1 (dThen d2 (dThen d3 (dThen d4 rest))) [o0, some (.obj 1), some (.obj 2), some (.obj 3), some b, o5, o6, o7, o8, o9, o10, o11] st = rest [o0, some (.obj 1), some (.obj 2), some (.obj 3), some b, o5, some d, some (.int k), o8, o9, o10, o11] st' ∧ New k d ∧ Stp st st' := fun q st3 hq s3 r4 =>
      ⟨k, pd q, st3, (dThen_next r1).trans ((dThen_next r2).trans ((dThen_next r3).trans (dThen_next r4))), .inr ⟨hk, q, rfl, hq⟩, s12.trans s3⟩
    have pv : Pv ((x, y), (z, w)) := p1
    by_cases hk1 : k = 1
    · subst hk1
      have sp : Stp st2 (st2 ++ [.lst false []]) := .push s2.row
      have e3 : (st2 ++ [Cell.lst false []])[3]? = some (.lst false l) := (sp.old 3 (lt_of_get h3') (by decide)).trans h3'
      have eq := eqD_ents (st := st2 ++ [.lst false []]) v.ent e3 get_push
      cases hl : l with
      | nil =>
        subst hl
        exact fin ((x, y), (z, w)) _ pv sp ((dIf_false (st1 := st2 ++ [.lst false []]) (by
          simp at eq
          simp [dAnd, fAnd, dBin, dVar, dC, bindR, okD, okL, fEq, eqD1, fNe, dApp, evA, fLst, small, LINE, eq])).trans rfl)
      | cons a t =>
        have hne : l.isEmpty = false := by rw [hl]; rfl
        rw [hne] at eq
        cases v with
        | good gs g e =>
          have hlen := g.len
          obtain ⟨q, st4, e4, qv, s4⟩ := over_eq sp.row e3 (by decide) (fun z => by rw [z] at hl; cases hl) (by omega) g.pv
          refine fin q st4 qv (sp.trans s4) ((dIf_true (st1 := st2 ++ [.lst false []]) (by
            simp [dAnd, fAnd, dBin, dVar, dC, bindR, okD, okL, fEq, eqD1, fNe, dApp, evA, fLst, small, LINE, eq, fIs, MP.isNon])).trans (dAsg_next (d := pd q) (by simp [dApp, evA, dVar, okD, e4]) (by simp [asg])))
        | bad gs e r g b' zz hl' =>
          exact fin ((x, y), (z, w)) _ pv sp ((dIf_false (st1 := st2 ++ [.lst false []]) (by
            simp [dAnd, fAnd, dBin, dVar, dC, bindR, okD, okL, fEq, eqD1, fNe, dApp, evA, fLst, small, LINE, eq, fIs, MP.isNon])).trans rfl)
    · have hk1' : (k == 1) = false := beq_eq_false_iff_ne.mpr hk1
      exact fin ((x, y), (z, w)) st2 pv (.refl s2.row) ((dIf_false (st1 := st2) (by simp [dAnd, fAnd, dBin, dVar, dC, bindR, okD, fEq, eqD1, hk1'])).trans rfl)
end K01
end
section
set_option maxRecDepth 100000
set_option maxHeartbeats 2000000
namespace K01
open PySem L2 MP
variable {o0 o6 o7 o8 o9 o10 o11 : Option D}
/-- behind a round: rows but the script's, the pieces' -/
structure StpP (st st' : Sto) : Prop where
  len : st.length ≤ st'.length
  old : ∀ i, i < st.length → i ≠ 1 → i ≠ 3 → st'[i]? = st[i]?
  row : RowOk st'
theorem StpP.trans {a b c : Sto} (h : StpP a b) (k : StpP b c) : StpP a c := ⟨Nat.le_trans h.len k.len, fun i hi h1 h3 => (k.old i (Nat.lt_of_lt_of_le hi h.len) h1 h3).trans (h.old i hi h1 h3), k.row⟩
theorem Stp.toP {a b : Sto} (h : Stp a b) : StpP a b := ⟨h.len, fun i hi h1 _ => h.old i hi h1, h.row⟩
theorem app_eq {b d k8 : D} {k : Int} {i : Int} {l : List D} {st : Sto} (h : RowOk st) (h3 : st[3]? = some (.lst false l)) (hl : l.length < 1000) :
    d7 [o0, some (.obj 1), some (.obj 2), some (.obj 3), some b, some (.int i), some d, some (.int k), some k8, o9, o10, o11] st = some (.next, [o0, some (.obj 1), some (.obj 2), some (.obj 3), some b, some (.int i), some d, some (.int k), some k8, o9, o10, o11], st.set 3 (.lst false (l ++ [d]))) ∧ StpP st (st.set 3 (.lst false (l ++ [d]))) := by
  have h1 : l.length < LINE := by simp [LINE]; omega
  refine ⟨?_, ⟨by simp, fun j hj _ h3 => List.getElem?_set_ne (Ne.symm h3), h.set (by decide)⟩⟩
  simp [d7, dExpr, dMeth, dVar, dApp, evA, okD, bindR, bindS, isTy, fAppend, h3, h1]
theorem new_ent {k : Int} {d : D} (h : New k d) : Ent d := by
  rcases h with ⟨_, h⟩ | ⟨_, q, rfl, _⟩
  · exact .inl h
  · exact .inr ⟨q, rfl⟩
theorem tail_eq {i : Nat} {k : Int} {l : List D} {b d : D} {st : Sto} (h : RowOk st) (h3 : st[3]? = some (.lst false l)) (v : Inv i l b) (hi : i ≤ 7) (hn : New k d) :
    ∃ b' k8 st', dThen d5 (dThen d6 d7) [o0, some (.obj 1), some (.obj 2), some (.obj 3), some b, some (.int (i : Nat)), some d, some (.int k), o8, o9, o10, o11] st =
      some (.next, [o0, some (.obj 1), some (.obj 2), some (.obj 3), some b', some (.int (i : Nat)), some d, some (.int k), some k8, o9, o10, o11], st') ∧ st'[3]? = some (.lst false (l ++ [d])) ∧ Inv (i + 1) (l ++ [d]) b' ∧ StpP st st' := by
  have hlen := v.len
  have fin : ∀ (b' k8 : D) (st1 : Sto), Stp st st1 → Inv (i + 1) (l ++ [d]) b' →
      d5 [o0, some (.obj 1), some (.obj 2), some (.obj 3), some b, some (.int (i : Nat)), some d, some (.int k), o8, o9, o10, o11] st = some (.next, [o0, some (.obj 1), some (.obj 2), some (.obj 3), some b, some (.int (i : Nat)), some d, some (.int k), some k8, o9, o10, o11], st1) →
      d6 [o0, some (.obj 1), some (.obj 2), some (.obj 3), some b, some (.int (i : Nat)), some d, some (.int k), some k8, o9, o10, o11] st1 = some (.next, [o0, some (.obj 1), some (.obj 2), some (.obj 3), some b', some (.int (i : Nat)), some d, some (.int k), some k8, o9, o10, o11], st1) →
      ∃ b' k8 st', dThen d5 (dThen d6 d7) [o0, some (.obj 1), some (.obj 2), some (.obj 3), some b, some (.int (i : Nat)), some d, some (.int k), o8, o9, o10, o11] st =
      some (.next, [o0, some (.obj 1), some (.obj 2), some (.obj 3), some b', some (.int (i : Nat)), some d, some (.int k), some k8, o9, o10, o11], st') ∧ st'[3]? = some (.lst false (l ++ [d])) ∧ Inv (i + 1) (l ++ [d]) b' ∧ StpP st st' := fun b' k8 st1 s1 iv r5 r6 => by
    have h3' : st1[3]? = some (.lst false l) := (s1.old 3 (lt_of_get h3) (by decide)).trans h3
    obtain ⟨r7, s7⟩ := app_eq (o0 := o0) (o9 := o9) (o10 := o10) (o11 := o11) (b := b') (d := d) (k8 := k8) (k := k) (i := (i : Nat)) s1.row h3' (by omega)
    exact ⟨b', k8, _, (dThen_next r5).trans ((dThen_next r6).trans r7), List.getElem?_set_self (lt_of_get h3'), iv, s1.toP.trans s7⟩
  cases v with
  | good gs g e =>
    have glen := g.len
    -- a wrong one now
    have wrong : ∀ k8b (st1 : Sto), Stp st st1 → Bad gs d → (k8b = true ∨ i = 6) →
        d5 [o0, some (.obj 1), some (.obj 2), some (.obj 3), some .non, some (.int (i : Nat)), some d, some (.int k), o8, o9, o10, o11] st = some (.next, [o0, some (.obj 1), some (.obj 2), some (.obj 3), some .non, some (.int (i : Nat)), some d, some (.int k), some (.bl k8b), o9, o10, o11], st1) → _ := fun k8b st1 s1 hb hw r5 =>
      fin (.int (i : Nat)) (.bl k8b) st1 s1 (by
        have := Inv.bad (i := i + 1) gs d [] g hb (fun x hx => by
          rcases List.mem_append.mp hx with hx | hx
          · obtain ⟨q, _, rfl⟩ := List.mem_map.mp hx
            exact .inr ⟨q, rfl⟩
          · rw [List.mem_singleton.mp hx]
            exact new_ent hn) (by simp; exact e)
        rw [e] at this
        exact this) r5 (dAsg_next (d := .int (i : Nat)) (by
          rcases hw with rfl | hw
          · simp [dIf, fIf, dAnd, fAnd, dOr, fOr, dBin, dUn, dVar, dC, bindR, okD, fIs, MP.isNon, fTru, truD]
          · subst hw
            cases k8b <;> simp [dIf, fIf, dAnd, fAnd, dOr, fOr, dBin, dUn, dVar, dC, bindR, okD, fIs, MP.isNon, fTru, truD, fEq, eqD1]) (by simp [asg]))
    rcases hn with ⟨rfl, hd⟩ | ⟨hk, q, rfl, qv⟩
    · exact wrong true st (.refl h) (.inr (.inl hd)) (.inl rfl) (dAsg_next (d := .bl true) (by simp [dOr, fOr, dBin, dVar, dC, bindR, okD, fEq, eqD1]) (by simp [asg]))
    · have hk' : (k == 0) = false := beq_eq_false_iff_ne.mpr hk
      obtain ⟨st1, e1, s1⟩ := lc_common (o0 := o0) (o1 := some (.obj 1)) (o2 := some (.obj 2)) (o4 := some .non) (o5 := some (.int (i : Nat))) (o7 := some (.int k)) (o8 := o8) (o9 := o9) (o10 := o10) (o11 := o11) qv g.pv (by omega) h h3
      have r5 : d5 [o0, some (.obj 1), some (.obj 2), some (.obj 3), some .non, some (.int (i : Nat)), some (pd q), some (.int k), o8, o9, o10, o11] st = some (.next, [o0, some (.obj 1), some (.obj 2), some (.obj 3), some .non, some (.int (i : Nat)), some (pd q), some (.int k), some (.bl (gs.any (alongP q))), o9, o10, o11], st1) := by
        refine dAsg_next (d := .bl (gs.any (alongP q))) ?_ (by simp [asg])
        refine Eq.trans ?_ e1
        unfold dOr dAnd
        simp [dVar, dC, bindR, okD, fEq, eqD1, hk', fOr, fAnd, fIs, MP.isNon, show ∀ (f : D → D → Sto → Rt) (a b : De) ls st, dBin f a b ls st = bindR (a ls st) fun x st1 => bindR (b ls st1) fun y st2 => f x y st2 from fun _ _ _ _ _ => rfl]
      cases ha : gs.any (alongP q) with
      | true =>
        rw [ha] at r5
        exact wrong true st1 s1 (.inr (.inr ⟨q, rfl, qv, ha⟩)) (.inl rfl) r5
      | false =>
        rw [ha] at r5
        by_cases h6 : i = 6
        · exact wrong false st1 s1 (.inl (e.trans h6)) (.inr h6) r5
        · have h6' : ((i : Int) == 6) = false := beq_eq_false_iff_ne.mpr (by omega)
          refine fin .non (.bl false) st1 s1 ?_ r5 (dAsg_next (d := .non) (by simp [dIf, fIf, dAnd, fAnd, dOr, fOr, dBin, dUn, dVar, dC, bindR, okD, fIs, MP.isNon, fTru, truD, fEq, eqD1, h6']) (by simp [asg]))
          have := Inv.good (i := i + 1) (gs ++ [q]) (g.snoc qv (by omega) ha) (by simp; exact e)
          rw [List.map_append] at this
          exact this
  | bad gs e r g hb hz hl =>
    have iv : Inv (i + 1) ((gs.map pd ++ e :: r) ++ [d]) (.int (gs.length : Nat)) := by
      have := Inv.bad (i := i + 1) gs e (r ++ [d]) g hb (fun x hx => by
        rw [← List.cons_append, ← List.append_assoc] at hx
        rcases List.mem_append.mp hx with hx | hx
        · exact hz x hx
        · rw [List.mem_singleton.mp hx]
          exact new_ent hn) (by rw [← List.cons_append, ← List.append_assoc, List.length_append, hl]; rfl)
      rw [← List.cons_append, ← List.append_assoc] at this
      exact this
    have r6 : ∀ x : Bool, d6 [o0, some (.obj 1), some (.obj 2), some (.obj 3), some (.int (gs.length : Nat)), some (.int (i : Nat)), some d, some (.int k), some (.bl x), o9, o10, o11] st = some (.next, [o0, some (.obj 1), some (.obj 2), some (.obj 3), some (.int (gs.length : Nat)), some (.int (i : Nat)), some d, some (.int k), some (.bl x), o9, o10, o11], st) := fun x =>
      dAsg_next (d := .int (gs.length : Nat)) (by simp [dIf, fIf, dAnd, fAnd, dBin, dVar, dC, bindR, okD, fIs, MP.isNon]) (by simp [asg])
    rcases hn with ⟨rfl, hd⟩ | ⟨hk, q, rfl, qv⟩
    · exact fin _ (.bl true) st (.refl h) iv (dAsg_next (d := .bl true) (by simp [dOr, fOr, dBin, dVar, dC, bindR, okD, fEq, eqD1]) (by simp [asg])) (r6 true)
    · have hk' : (k == 0) = false := beq_eq_false_iff_ne.mpr hk
      exact fin _ (.bl false) st (.refl h) iv (dAsg_next (d := .bl false) (by simp [dOr, fOr, dAnd, fAnd, dBin, dVar, dC, bindR, okD, fEq, eqD1, hk', fIs, MP.isNon]) (by simp [asg])) (r6 false)
end K01
end
section
set_option maxRecDepth 100000
set_option maxHeartbeats 2000000
namespace K01
open PySem L2 MP
variable {o0 o9 o10 o11 : Option D}
def numD (j : Nat) : D := .int (j : Nat)
theorem loop_eq : ∀ (m i : Nat) (l : List D) (b : D) (o5 o6 o7 o8 : Option D) (st : Sto), i + m ≤ 8 → RowOk st → st[2]? = some (.lst false odd) → st[3]? = some (.lst false l) → Inv i l b →
    ∃ l' b' p5 p6 p7 p8 st', forD none (.nm 5) body ((List.range' i m).map numD) [o0, some (.obj 1), some (.obj 2), some (.obj 3), some b, o5, o6, o7, o8, o9, o10, o11] st =
      some (.next, [o0, some (.obj 1), some (.obj 2), some (.obj 3), some b', p5, p6, p7, p8, o9, o10, o11], st') ∧ st'[3]? = some (.lst false l') ∧ Inv (i + m) l' b' ∧ RowOk st' := by
  intro m
  induction m with
  | zero =>
    intro i l b o5 o6 o7 o8 st _ h _ h3 v
    exact ⟨l, b, o5, o6, o7, o8, st, by simp [forD, gdB], h3, v, h⟩
  | succ m ih =>
    intro i l b o5 o6 o7 o8 st hi h h2 h3 v
    obtain ⟨k, d, st1, e1, hn, s1⟩ := new_eq (o0 := o0) (o6 := o6) (o7 := o7) (o8 := o8) (o9 := o9) (o10 := o10) (o11 := o11) (o5 := some (.int (i : Nat))) (rest := dThen d5 (dThen d6 d7)) h h2 h3 v (by omega)
    have h2' : st1[2]? = some (.lst false odd) := (s1.old 2 (lt_of_get h2) (by decide)).trans h2
    have h3' : st1[3]? = some (.lst false l) := (s1.old 3 (lt_of_get h3) (by decide)).trans h3
    obtain ⟨b1, k8, st2, e2, g3, v2, s2⟩ := tail_eq (o0 := o0) (o8 := o8) (o9 := o9) (o10 := o10) (o11 := o11) s1.row h3' v (by omega) hn
    have g2 : st2[2]? = some (.lst false odd) := (s2.old 2 (lt_of_get h2') (by decide) (by decide)).trans h2'
    obtain ⟨l3, b3, p5, p6, p7, p8, st3, e3, g, v3, r3⟩ := ih (i + 1) (l ++ [d]) b1 (some (.int (i : Nat))) (some d) (some (.int k)) (some k8) st2 (by omega) s2.row g2 g3 v2
    refine ⟨l3, b3, p5, p6, p7, p8, st3, ?_, g, by rw [show i + (m + 1) = i + 1 + m from by omega]; exact v3, r3⟩
    rw [List.range'_succ, List.map_cons, forD]
    simp only [gdB, if_true, asg, numD, List.set_cons_succ, List.set_cons_zero]
    have eb : body [o0, some (.obj 1), some (.obj 2), some (.obj 3), some b, some (.int (i : Nat)), o6, o7, o8, o9, o10, o11] st = some (.next, [o0, some (.obj 1), some (.obj 2), some (.obj 3), some b1, some (.int (i : Nat)), some d, some (.int k), some k8, o9, o10, o11], st2) := e1.trans e2
    rw [eb]
    exact e3
theorem bin_eq {f : D → D → Sto → Rt} {da db : De} {ls : Ls} {st st1 st2 : Sto} {x y : D} (ha : da ls st = okD x st1) (hb : db ls st1 = okD y st2) : dBin f da db ls st = f x y st2 := by
  unfold dBin
  rw [ha]
  simp only [bindR, okD]
  rw [hb]
  rfl
theorem app1_eq {f : List D → Sto → Rt} {da : De} {ls : Ls} {st st1 : Sto} {x : D} (ha : da ls st = okD x st1) : dApp f [da] ls st = f [x] st1 := by
  unfold dApp
  simp only [evA]
  rw [ha]
  rfl
theorem and_t {da db : De} {ls : Ls} {st st1 : Sto} (ha : da ls st = okD (.bl true) st1) : dAnd da db ls st = db ls st1 := by
  unfold dAnd
  rw [ha]
  rfl
theorem or_f {da db : De} {ls : Ls} {st st1 : Sto} (ha : da ls st = okD (.bl false) st1) : dOr da db ls st = db ls st1 := by
  unfold dOr
  rw [ha]
  rfl
theorem cut_init (l : List D) (d : D) : cutD (l ++ [d]) none (some (-1)) = l := by
  unfold cutD HT.sIx
  have e : (-1 + ((l.length : Int) + 1)).toNat = l.length := by omega
  simp [e]
theorem at_last (l : List D) (d : D) : L2.atI (l ++ [d]) (-1) = some d := by
  have e : (-1 + ((l.length : Int) + 1)).toNat = l.length := by omega
  have e1 : (1 : Int) ≤ (l.length : Int) + 1 := by omega
  unfold L2.atI L2.ixN
  simp [e, e1]
def r4 : Ds := dAsg (dApp (fMake "Drawing" gDrawing___init__) [(dVar 10)]) (.nm 11)
def r5 : Ds := dIfS (dOr (dBin fNe (dUn (fFld cs_pieces "pieces") (dVar 11)) (dVar 10)) (dOr (dBin fNe (dApp (fLenO "Drawing" gDrawing___len__) [(dVar 11)]) (dApp (fLenO "Drawing" gDrawing___len__) [(dVar 10)])) (dBin (fNeO "Drawing" gDrawing___eq__) (dVar 11) (dApp (fMake "Drawing" gDrawing___init__) [(dVar 10)])))) (dRet (dC (.bl false))) dNext
def r6 : Ds := dRet (dOr (dBin fEq (dVar 10) (dApp fTup [])) (dAnd (dBin (fNeO "Drawing" gDrawing___eq__) (dVar 11) (dApp (fMake "Drawing" gDrawing___init__) [(dSl (dVar 10) none (some (dUn fNeg (dC (.int 1)))))])) (dBin (fNeO "Drawing" gDrawing___eq__) (dVar 11) (dApp (fMake "Drawing" gDrawing___init__) [(dBin fAdd (dSl (dVar 10) none (some (dUn fNeg (dC (.int 1))))) (dApp fTup [(dBin fAdd (dSl (dBin fIx (dVar 10) (dUn fNeg (dC (.int 1)))) (some (dC (.int 2))) none) (dSl (dBin fIx (dVar 10) (dUn fNeg (dC (.int 1)))) none (some (dC (.int 2)))))]))]))))
theorem swap_d (p : P4) : D.tup [.int p.2.1, .int p.2.2, .int p.1.1, .int p.1.2] = pd (sw p) := rfl
theorem last_eq {gs : List P4} {o1 o2 o3 o4 o5 o6 o7 o8 : Option D} {st : Sto} (g : Good gs) (h : RowOk st) :
    ∃ ls' st', dThen r4 (dThen r5 r6) [o0, o1, o2, o3, o4, o5, o6, o7, o8, o9, some (.tup (gs.map pd)), o11] st = some (.ret (.bl true), ls', st') ∧ RowOk st' := by
  have hlen := g.len
  obtain ⟨st1, e1, s1, c1⟩ := make_ok g h
  obtain ⟨st2, e2, s2, c2⟩ := make_ok g s1.row
  have h2 := row_ge h
  have c1' : st2[st.length]? = some (insD gs) := (s2.old _ (lt_of_get c1) (by omega)).trans c1
  have n2 := ne_ins c1' c2
  have k1 := len_ins (by omega) c1
  have q4 : r4 [o0, o1, o2, o3, o4, o5, o6, o7, o8, o9, some (.tup (gs.map pd)), o11] st = some (.next, [o0, o1, o2, o3, o4, o5, o6, o7, o8, o9, some (.tup (gs.map pd)), some (.obj st.length)], st1) :=
    dAsg_next (d := .obj st.length) (by simp only [dApp, evA, dVar, okD, List.getElem?_cons_succ, List.getElem?_cons_zero, e1]) (by simp [asg])
  have q5 : r5 [o0, o1, o2, o3, o4, o5, o6, o7, o8, o9, some (.tup (gs.map pd)), some (.obj st.length)] st1 = some (.next, [o0, o1, o2, o3, o4, o5, o6, o7, o8, o9, some (.tup (gs.map pd)), some (.obj st.length)], st2) := by
    refine (dIf_false (st1 := st2) ?_).trans rfl
    have f1 : dBin fNe (dUn (fFld cs_pieces "pieces") (dVar 11)) (dVar 10) [o0, o1, o2, o3, o4, o5, o6, o7, o8, o9, some (.tup (gs.map pd)), some (.obj st.length)] st1 = okD (.bl false) st1 := by
      simp only [dBin, dUn, dVar, okD, bindR, List.getElem?_cons_succ, List.getElem?_cons_zero, fFld, c1, css, fsp, if_true, fNe, eqD_ps]
      simp
    have f2 : dBin fNe (dApp (fLenO "Drawing" gDrawing___len__) [(dVar 11)]) (dApp (fLenO "Drawing" gDrawing___len__) [(dVar 10)]) [o0, o1, o2, o3, o4, o5, o6, o7, o8, o9, some (.tup (gs.map pd)), some (.obj st.length)] st1 = okD (.bl false) st1 := by
      simp only [dBin, dApp, evA, dVar, okD, bindR, List.getElem?_cons_succ, List.getElem?_cons_zero, k1]
      simp [fLenO, isIns, fLen, okD, fNe, eqD1]
    have f3 : dBin (fNeO "Drawing" gDrawing___eq__) (dVar 11) (dApp (fMake "Drawing" gDrawing___init__) [(dVar 10)]) [o0, o1, o2, o3, o4, o5, o6, o7, o8, o9, some (.tup (gs.map pd)), some (.obj st.length)] st1 = okD (.bl false) st2 := by
      simp only [dBin, dApp, evA, dVar, okD, bindR, List.getElem?_cons_succ, List.getElem?_cons_zero, e2, n2]
      simp
    simp only [dOr, f1, bindR, okD, fOr]
    simp only [f2, bindR, okD, fOr]
    exact f3
  have fin : ∀ {st3 : Sto}, RowOk st3 → (dOr (dBin fEq (dVar 10) (dApp fTup [])) (dAnd (dBin (fNeO "Drawing" gDrawing___eq__) (dVar 11) (dApp (fMake "Drawing" gDrawing___init__) [(dSl (dVar 10) none (some (dUn fNeg (dC (.int 1)))))])) (dBin (fNeO "Drawing" gDrawing___eq__) (dVar 11) (dApp (fMake "Drawing" gDrawing___init__) [(dBin fAdd (dSl (dVar 10) none (some (dUn fNeg (dC (.int 1))))) (dApp fTup [(dBin fAdd (dSl (dBin fIx (dVar 10) (dUn fNeg (dC (.int 1)))) (some (dC (.int 2))) none) (dSl (dBin fIx (dVar 10) (dUn fNeg (dC (.int 1)))) none (some (dC (.int 2)))))]))])))) [o0, o1, o2, o3, o4, o5, o6, o7, o8, o9, some (.tup (gs.map pd)), some (.obj st.length)] st2 = okD (.bl true) st3 →
      ∃ ls' st', dThen r4 (dThen r5 r6) [o0, o1, o2, o3, o4, o5, o6, o7, o8, o9, some (.tup (gs.map pd)), o11] st = some (.ret (.bl true), ls', st') ∧ RowOk st' := fun hr he =>
    ⟨_, _, (dThen_next q4).trans ((dThen_next q5).trans (dRet_ok he)), hr⟩
  rcases List.eq_nil_or_concat gs with rfl | ⟨init, p, rfl⟩
  · refine fin (st3 := st2) s2.row ?_
    have := eqD_ps st2 [] []
    simp at this
    simp [dOr, fOr, dBin, dVar, dApp, evA, fTup, okD, bindR, fEq, this, small, LINE]
  · rw [List.concat_eq_append] at *
    obtain ⟨st3, e3, s3, c3⟩ := make_ok g.init s2.row
    obtain ⟨st4, e4, s4, c4⟩ := make_ok g.swap s3.row
    have c1a : st3[st.length]? = some (insD (init ++ [p])) := (s3.old _ (lt_of_get c1') (by omega)).trans c1'
    have c1b : st4[st.length]? = some (insD (init ++ [p])) := (s4.old _ (lt_of_get c1a) (by omega)).trans c1a
    have n3 := ne_ins c1a c3
    have n4 := ne_ins c1b c4
    have ne3 : ¬ init ++ [p] = init := fun z => by
      have := congrArg List.length z
      simp at this
    have ne4 : ¬ init ++ [p] = init ++ [sw p] := fun z => by
      have := List.append_cancel_left z
      exact sw_ne (g.pv p (by simp)) (List.cons.inj this).1.symm
    have ee := eqD_ps st2 (init ++ [p]) []
    rw [decide_eq_false (by simp)] at ee
    rw [decide_eq_false ne3] at n3
    rw [decide_eq_false ne4] at n4
    rw [List.map_nil] at ee
    refine fin (st3 := st4) s4.row ?_
    have em : (init ++ [p]).map pd = init.map pd ++ [pd p] := by simp
    have em2 : (init ++ [sw p]).map pd = init.map pd ++ [pd (sw p)] := by simp
    rw [em] at ee ⊢
    rw [em2] at e4
    have f3 : dBin (fNeO "Drawing" gDrawing___eq__) (dVar 11) (dApp (fMake "Drawing" gDrawing___init__) [(dSl (dVar 10) none (some (dUn fNeg (dC (.int 1)))))]) [o0, o1, o2, o3, o4, o5, o6, o7, o8, o9, some (.tup (init.map pd ++ [pd p])), some (.obj st.length)] st2 = okD (.bl true) st3 := by
      have ei : (dSl (dVar 10) none (some (dUn fNeg (dC (.int 1))))) [o0, o1, o2, o3, o4, o5, o6, o7, o8, o9, some (.tup (init.map pd ++ [pd p])), some (.obj st.length)] st2 = okD (.tup (init.map pd)) st2 := by
        simp [dSl, evO, dVar, dUn, dC, okD, bindR, fNeg, fSl, cut_init]
      simp only [dBin, dApp, evA, ei, bindR, okD, dVar, List.getElem?_cons_succ, List.getElem?_cons_zero, e3, n3]
      simp
    have f4 : dBin (fNeO "Drawing" gDrawing___eq__) (dVar 11) (dApp (fMake "Drawing" gDrawing___init__) [(dBin fAdd (dSl (dVar 10) none (some (dUn fNeg (dC (.int 1))))) (dApp fTup [(dBin fAdd (dSl (dBin fIx (dVar 10) (dUn fNeg (dC (.int 1)))) (some (dC (.int 2))) none) (dSl (dBin fIx (dVar 10) (dUn fNeg (dC (.int 1)))) none (some (dC (.int 2)))))]))]) [o0, o1, o2, o3, o4, o5, o6, o7, o8, o9, some (.tup (init.map pd ++ [pd p])), some (.obj st.length)] st3 = okD (.bl true) st4 := by
      have ei : (dBin fAdd (dSl (dVar 10) none (some (dUn fNeg (dC (.int 1))))) (dApp fTup [(dBin fAdd (dSl (dBin fIx (dVar 10) (dUn fNeg (dC (.int 1)))) (some (dC (.int 2))) none) (dSl (dBin fIx (dVar 10) (dUn fNeg (dC (.int 1)))) none (some (dC (.int 2)))))])) [o0, o1, o2, o3, o4, o5, o6, o7, o8, o9, some (.tup (init.map pd ++ [pd p])), some (.obj st.length)] st3 = okD (.tup (init.map pd ++ [pd (sw p)])) st3 := by
        have hl6 : init.length ≤ 5 := by
          rw [List.length_append] at hlen
          simp at hlen
          omega
        simp [dSl, evO, dVar, dBin, dApp, evA, dUn, dC, okD, bindR, fNeg, fSl, cut_init, fIx, at_last, cut_l, cut_r, fAdd, fTup, small, LINE, sw]
        omega
      refine (bin_eq (x := .obj st.length) (st1 := st3) rfl ((app1_eq ei).trans e4)).trans ?_
      rw [n4]
      rfl
    refine (or_f ?_).trans ((and_t f3).trans f4)
    refine (bin_eq (x := .tup (init.map pd ++ [pd p])) (y := .tup []) (st1 := st2) (st2 := st2) rfl rfl).trans ?_
    simp only [fEq, ee]
end K01
end
section
set_option maxRecDepth 100000
set_option maxHeartbeats 2000000
namespace K01
open PySem L2 MP
def a1 : Ds := dAsg (dApp fLst [(dVar 0), (dC (.int 0)), (dC (.int 0)), (dC (.int 0))]) (.nm 1)
def a2 : Ds := dAsg (dApp fLst [(dApp fTup []), (dApp fTup [(dC (.int 0)), (dC (.int 0)), (dC (.int 5))]), (dApp fTup [(dC (.int 0)), (dC (.int 0)), (dC (.int 5)), (dC (.int 5)), (dC (.int 5))]), (dApp fTup [(dC (.int 0)), (dC (.int 0)), (dC (.int 0)), (dC (.int 0))]), (dApp fTup [(dC (.int 7)), (dC (.int 9)), (dC (.int 7)), (dC (.int 9))]), (dApp fTup [(dUn fNeg (dC (.int 1))), (dC (.int 0)), (dC (.int 5)), (dC (.int 5))]), (dApp fTup [(dC (.int 0)), (dC (.int 61)), (dC (.int 5)), (dC (.int 5))]), (dApp fTup [(dC (.bl true)), (dC (.int 0)), (dC (.int 5)), (dC (.int 5))])]) (.nm 2)
def a3 : Ds := dAsg (dApp fTup [(dApp fLst []), (dC .non)]) (.tp [(.nm 3), (.nm 4)])
def a4 : Ds := dFor (dAppI fRange [(dApp g_law_pick [(dVar 1), (dApp fLst [(dC (.int 1)), (dC (.int 3)), (dC (.int 6)), (dC (.int 8))])])]) (.nm 5) body
def r1 : Ds := dAsg (dIf (dBin fIsNot (dVar 4) (dC .non)) (dApp fTup [(dC (.str "drawing")), (dVar 4)]) (dC .non)) (.nm 9)
def r2 : Ds := dIfS (dBin fNe (dRaised tblA 5 1 d_law_raised_su (dApp (fMake "Drawing" gDrawing___init__) [(dApp fTuple [(dVar 3)])])) (dVar 9)) (dRet (dC (.bl false))) dNext
def r3 : Ds := dAsg (dApp fTuple [(dIf (dBin fIsNot (dVar 4) (dC .non)) (dSl (dVar 3) none (some (dVar 4))) (dVar 3))]) (.nm 10)
theorem blaw_eq : blaw = dThen a1 (dThen a2 (dThen a3 (dThen a4 (dThen r1 (dThen r2 (dThen r3 (dThen r4 (dThen r5 r6)))))))) := rfl
theorem rg_eq (m : Nat) : rgD 0 m = (List.range' 0 m).map numD := by
  unfold rgD
  rw [List.range_eq_range']
  apply List.map_congr_left
  intro j _
  simp [numD]
variable {o0 o9 o10 o11 : Option D}
theorem end_eq {i : Nat} {l : List D} {b : D} {o1 o2 o5 o6 o7 o8 : Option D} {st : Sto} (h : RowOk st) (h3 : st[3]? = some (.lst false l)) (v : Inv i l b) (hi : i ≤ 8) :
    ∃ ls' st', dThen r1 (dThen r2 (dThen r3 (dThen r4 (dThen r5 r6)))) [o0, o1, o2, some (.obj 3), some b, o5, o6, o7, o8, o9, o10, o11] st = some (.ret (.bl true), ls', st') ∧ RowOk st' := by
  cases v with
  | good gs g e =>
    obtain ⟨st1, e1, s1, c1⟩ := make_ok g h
    have h3' : st1[3]? = some (.lst false (gs.map pd)) := (s1.old 3 (lt_of_get h3) (by decide)).trans h3
    obtain ⟨ls', st', e2, h2⟩ := last_eq (o0 := o0) (o1 := o1) (o2 := o2) (o3 := some (.obj 3)) (o4 := some .non) (o5 := o5) (o6 := o6) (o7 := o7) (o8 := o8) (o9 := some .non) (o11 := o11) g s1.row
    refine ⟨ls', st', ?_, h2⟩
    refine (dThen_next (ls1 := [o0, o1, o2, some (.obj 3), some .non, o5, o6, o7, o8, some .non, o10, o11]) (st1 := st) (dAsg_next (d := .non) (by simp [dIf, fIf, dBin, dVar, dC, okD, bindR, fIsNot, MP.isNon]) (by simp [asg]))).trans ?_
    refine (dThen_next (ls1 := [o0, o1, o2, some (.obj 3), some .non, o5, o6, o7, o8, some .non, o10, o11]) (st1 := st1) ((dIf_false (st1 := st1) ?_).trans rfl)).trans ?_
    · refine (bin_eq (x := .non) (y := .non) (st1 := st1) (st2 := st1) ?_ rfl).trans (by simp only [fNe, eqD_non]; rfl)
      show raisedD tblA 5 1 d_law_raised_su _ = _
      rw [app1_eq (x := .tup (gs.map pd)) (st1 := st) ((app1_eq (x := .obj 3) (st1 := st) rfl).trans (by simp only [fTuple, h3]))]
      rw [e1]
      rfl
    refine (dThen_next (ls1 := [o0, o1, o2, some (.obj 3), some .non, o5, o6, o7, o8, some .non, some (.tup (gs.map pd)), o11]) (st1 := st1) (dAsg_next (d := .tup (gs.map pd)) ?_ (by simp [asg]))).trans e2
    exact (app1_eq (x := .obj 3) (st1 := st1) (by simp [dIf, fIf, dBin, dVar, dC, okD, bindR, fIsNot, MP.isNon])).trans (by simp only [fTuple, h3'])
  | bad gs e r g hb hz hl =>
    obtain ⟨st1, e1, s1⟩ := make_bad (rest := r) g h hb
    obtain ⟨st2, e2, s2⟩ := raised_bad (i := (gs.length : Nat)) s1.row
    have h3' : st1[3]? = some (.lst false (gs.map pd ++ e :: r)) := (s1.old 3 (lt_of_get h3) (by decide)).trans h3
    have h3'' := s2.old 3 _ _ (by decide) h3'
    have ct : cutD (gs.map pd ++ e :: r) none (some ((gs.length : Nat) : Int)) = gs.map pd := by
      rw [cut_take (by rw [List.length_append, List.length_map]; omega), List.take_append_of_le_length (by rw [List.length_map]; exact Nat.le_refl _)]
      exact List.take_of_length_le (by rw [List.length_map]; exact Nat.le_refl _)
    have hlen := g.len
    obtain ⟨ls', st', e3, h4⟩ := last_eq (o0 := o0) (o1 := o1) (o2 := o2) (o3 := some (.obj 3)) (o4 := some (.int (gs.length : Nat))) (o5 := o5) (o6 := o6) (o7 := o7) (o8 := o8) (o9 := some (.tup [.str "drawing", .int (gs.length : Nat)])) (o11 := o11) g (RowOk.app (L := [.lst false (gs.map pd)]) s2.row)
    refine ⟨ls', st', ?_, h4⟩
    refine (dThen_next (ls1 := [o0, o1, o2, some (.obj 3), some (.int (gs.length : Nat)), o5, o6, o7, o8, some (.tup [.str "drawing", .int (gs.length : Nat)]), o10, o11]) (st1 := st) (dAsg_next (d := .tup [.str "drawing", .int (gs.length : Nat)]) (by simp [dIf, fIf, dBin, dVar, dC, okD, bindR, fIsNot, MP.isNon, dApp, evA, fTup, small, LINE]) (by simp [asg]))).trans ?_
    refine (dThen_next (ls1 := [o0, o1, o2, some (.obj 3), some (.int (gs.length : Nat)), o5, o6, o7, o8, some (.tup [.str "drawing", .int (gs.length : Nat)]), o10, o11]) (st1 := st2) ((dIf_false (st1 := st2) ?_).trans rfl)).trans ?_
    · refine (bin_eq (x := .tup [.str "drawing", .int (gs.length : Nat)]) (y := .tup [.str "drawing", .int (gs.length : Nat)]) (st1 := st2) (st2 := st2) ?_ rfl).trans (by simp only [fNe, eqD_mark]; rfl)
      show raisedD tblA 5 1 d_law_raised_su _ = _
      rw [app1_eq (x := .tup (gs.map pd ++ e :: r)) (st1 := st) ((app1_eq (x := .obj 3) (st1 := st) rfl).trans (by simp only [fTuple, h3]))]
      rw [e1]
      exact e2
    refine (dThen_next (ls1 := [o0, o1, o2, some (.obj 3), some (.int (gs.length : Nat)), o5, o6, o7, o8, some (.tup [.str "drawing", .int (gs.length : Nat)]), some (.tup (gs.map pd)), o11]) (st1 := st2 ++ [.lst false (gs.map pd)]) (dAsg_next (d := .tup (gs.map pd)) ?_ (by simp [asg]))).trans e3
    have hsm : gs.length ≤ 1000 := by omega
    refine (app1_eq (x := .obj st2.length) (st1 := st2 ++ [.lst false (gs.map pd)]) ?_).trans (by simp only [fTuple, get_push])
    simp [dIf, fIf, dBin, dVar, dC, okD, okL, bindR, fIsNot, MP.isNon, dSl, evO, fSl, h3'', ct]
theorem says : Says glaw := by
  intro ro ns hn
  have h0 : RowOk ([.lst ro (ns.map .int), .lst false [.obj 0, .int 0, .int 0, .int 0], .lst false odd, .lst false []] ++ [.lst false [.int 1, .int 3, .int 6, .int 8]]) := ⟨ro, ns, 0, 0, 0, rfl, rfl, by decide, by decide, by decide, by decide⟩
  obtain ⟨j, d, st1, hj, e1, s1, _⟩ := pick_eq (L := 4) (l := [.int 1, .int 3, .int 6, .int 8]) h0 rfl (by decide) (by simp) (by simp)
  have hd : ∃ m : Nat, d = .int (m : Nat) ∧ m ≤ 8 := by
    rcases j with _ | _ | _ | _ | j
    · exact ⟨1, by simpa using hj.symm, by decide⟩
    · exact ⟨3, by simpa using hj.symm, by decide⟩
    · exact ⟨6, by simpa using hj.symm, by decide⟩
    · exact ⟨8, by simpa using hj.symm, by decide⟩
    · simp at hj
  obtain ⟨m, rfl, hm⟩ := hd
  have g2 : st1[2]? = some (.lst false odd) := (s1.old 2 (by simp) (by decide)).trans rfl
  have g3 : st1[3]? = some (.lst false []) := (s1.old 3 (by simp) (by decide)).trans rfl
  obtain ⟨l, b, p5, p6, p7, p8, st2, e2, k3, v, r2⟩ := loop_eq (o0 := some (.obj 0)) (o9 := none) (o10 := none) (o11 := none) m 0 [] .non none none none none st1 (by omega) s1.row g2 g3 (Inv.good [] good_nil rfl)
  obtain ⟨ls', st', e3, h3⟩ := end_eq (o0 := some (.obj 0)) (o1 := some (.obj 1)) (o2 := some (.obj 2)) (o5 := p5) (o6 := p6) (o7 := p7) (o8 := p8) (o9 := none) (o10 := none) (o11 := none) r2 k3 v (by omega)
  refine ⟨st', by have := row_ge h3; omega, ?_⟩
  show runD 12 blaw _ _ = _
  refine run_ret (ls := ls') ?_
  rw [blaw_eq]
  refine (dThen_next (ls1 := [some (.obj 0), some (.obj 1), none, none, none, none, none, none, none, none, none, none]) (st1 := [.lst ro (ns.map .int), .lst false [.obj 0, .int 0, .int 0, .int 0]]) (dAsg_next (d := .obj 1) (by simp [startL, dApp, evA, dVar, dC, okD, okL, fLst, small, LINE]) (by simp [asg, startL]))).trans ?_
  refine (dThen_next (ls1 := [some (.obj 0), some (.obj 1), some (.obj 2), none, none, none, none, none, none, none, none, none]) (st1 := [.lst ro (ns.map .int), .lst false [.obj 0, .int 0, .int 0, .int 0], .lst false odd]) (dAsg_next (d := .obj 2) (by simp [dApp, evA, dUn, dVar, dC, okD, okL, bindR, fNeg, fLst, fTup, small, LINE, odd]) (by simp [asg]))).trans ?_
  refine (dThen_next (ls1 := [some (.obj 0), some (.obj 1), some (.obj 2), some (.obj 3), some .non, none, none, none, none, none, none, none]) (st1 := [.lst ro (ns.map .int), .lst false [.obj 0, .int 0, .int 0, .int 0], .lst false odd, .lst false []]) (dAsg_next (d := .tup [.obj 3, .non]) (by simp [dApp, evA, dVar, dC, okD, okL, fLst, fTup, small, LINE]) (by simp [asg, asgs]))).trans ?_
  refine (dThen_next (ls1 := [some (.obj 0), some (.obj 1), some (.obj 2), some (.obj 3), some b, p5, p6, p7, p8, none, none, none]) (st1 := st2) ?_).trans e3
  have hr : rangeOk (m : Nat) = true := by
    unfold rangeOk
    have h1 : decide (-(2 ^ 62) ≤ ((m : Nat) : Int)) = true := decide_eq_true (by omega)
    have h2 : decide (((m : Nat) : Int) < 2 ^ 62) = true := decide_eq_true (by omega)
    rw [h1, h2]
    rfl
  rw [← rg_eq] at e2
  simp only [List.cons_append, List.nil_append] at e1
  show dFor (dAppI fRange [_]) _ _ _ _ = _
  simp only [dFor, dAppI, evA, dApp, dVar, dC, okD, fLst, okL, small, LINE, List.getElem?_cons_succ, List.getElem?_cons_zero]
  simp [e1, fRange, hr, okL, okD, e2]
end K01
end
open PySem PySem.W PyProof.Rows in
set_option maxRecDepth 100000 in
set_option maxHeartbeats 0 in
theorem PySem.Challenge.cw_ledlines_k01_drawings_validated_holds : PySem.Challenge.rw_ledlines_k01_drawings_validated.Holds := by
  w_on; o_law; k_head; (case hw => w_witness2)
  k_fill
  refine LamX.walk_ofTs (l := PySem.Challenge.rw_ledlines_k01_drawings_validated) (n := 63) (k := 8) (x := "_law_script") (CX := fun w => L2.CX (PySem.Challenge.rw_ledlines_k01_drawings_validated).prog w) rfl (by decide) rfl ⟨rfl, by decide, by decide⟩ (fun w h Y => PySem.W.km_in_of Y) ?F (fun w H s e s' z => by obtain ⟨_, _, _, _, _, _, _, _, _, _, _, _, z⟩ := z; exact z.elim)
  case F =>
    intro w mg fa h Y KX G hmg
    refine' K01.all_mk K01.says KX G hmg (PySem.W.km_tabs_of Y _ (List.mem_singleton.mpr rfl)) ?a_LineError ?a_InvalidDrawing ?a_UnknownPiece ?a_SamePiece ?a_InvalidHalf ?a_InvalidNumber ?a_InvalidPiece ?a_UnlikeCounts ?a_InvalidPoint ?a_Drawing ?a_f_way_of ?l_way_of ?c_way_of ?k_way_of ?a_f_shared_stretch ?l_shared_stretch ?c_shared_stretch ?k_shared_stretch ?a_f_cross ?l_cross ?c_cross ?k_cross ?a_f_way_between ?l_way_between ?c_way_between ?k_way_between ?a_f_lies_along ?l_lies_along ?c_lies_along ?k_lies_along ?a_f_lies_along_any ?l_lies_along_any ?c_lies_along_any ?k_lies_along_any ?a_f_is_number ?l_is_number ?c_is_number ?k_is_number ?c_GREATEST_COORDINATE ?a_f_is_piece ?l_is_piece ?c_is_piece ?k_is_piece ?c_MOST_PIECES ?m_InvalidDrawing___init__ ?l_InvalidDrawing___init__ ?c_InvalidDrawing___init__ ?k_InvalidDrawing___init__ ?t_InvalidDrawing___init__ ?o_InvalidDrawing ?v_InvalidDrawing ?b1 ?b2 ?m_Drawing___init__ ?i_Drawing___init__ ?l_Drawing___init__ ?c_Drawing___init__ ?k_Drawing___init__ ?b3 ?m_Drawing___eq__ ?i_Drawing___eq__ ?l_Drawing___eq__ ?c_Drawing___eq__ ?k_Drawing___eq__ ?m_Drawing___len__ ?i_Drawing___len__ ?l_Drawing___len__ ?c_Drawing___len__ ?k_Drawing___len__ ?a_f__law_taken ?l__law_taken ?c__law_taken ?k__law_taken ?a_f__law_pick ?l__law_pick ?c__law_pick ?k__law_pick ?a_f__law_number ?l__law_number ?c__law_number ?k__law_number ?a_f__law_piece ?l__law_piece ?c__law_piece ?k__law_piece ?a_f__law_is_on ?l__law_is_on ?c__law_is_on ?k__law_is_on ?a_f__law_common ?l__law_common ?c__law_common ?k__law_common ?b4 ?b5 ?b6 ?b7 ?b8 ?b9 ?b10 ?b11 ?b12 ?b13 ?a_f__law_raised ?l__law_raised ?c__law_raised ?k__law_raised ?a_f__law_over ?l__law_over ?c__law_over ?k__law_over ?b14 ?b15 ?b16 ?b0 ?a_law ?l_law ?c_law ?hd ?nT
    (case a_LineError => k_is)
    (case a_InvalidDrawing => k_is)
    (case a_UnknownPiece => k_is)
    (case a_SamePiece => k_is)
    (case a_InvalidHalf => k_is)
    (case a_InvalidNumber => k_is)
    (case a_InvalidPiece => k_is)
    (case a_UnlikeCounts => k_is)
    (case a_InvalidPoint => k_is)
    (case a_Drawing => k_is)
    (case a_f_way_of => k_is)
    (case l_way_of => k_is)
    (case c_way_of => k_is)
    (case k_way_of => k_is)
    (case a_f_shared_stretch => k_is)
    (case l_shared_stretch => k_is)
    (case c_shared_stretch => k_is)
    (case k_shared_stretch => k_is)
    (case a_f_cross => k_is)
    (case l_cross => k_is)
    (case c_cross => k_is)
    (case k_cross => k_is)
    (case a_f_way_between => k_is)
    (case l_way_between => k_is)
    (case c_way_between => k_is)
    (case k_way_between => k_is)
    (case a_f_lies_along => k_is)
    (case l_lies_along => k_is)
    (case c_lies_along => k_is)
    (case k_lies_along => k_is)
    (case a_f_lies_along_any => k_is)
    (case l_lies_along_any => k_is)
    (case c_lies_along_any => k_is)
    (case k_lies_along_any => k_is)
    (case a_f_is_number => k_is)
    (case l_is_number => k_is)
    (case c_is_number => k_is)
    (case k_is_number => k_is)
    (case c_GREATEST_COORDINATE => k_is)
    (case a_f_is_piece => k_is)
    (case l_is_piece => k_is)
    (case c_is_piece => k_is)
    (case k_is_piece => k_is)
    (case c_MOST_PIECES => k_is)
    (case m_InvalidDrawing___init__ => k_is)
    (case l_InvalidDrawing___init__ => k_is)
    (case c_InvalidDrawing___init__ => k_is)
    (case k_InvalidDrawing___init__ => k_is)
    (case t_InvalidDrawing___init__ => k_is)
    (case o_InvalidDrawing => k_is)
    (case v_InvalidDrawing => decide +kernel)
    (case b1 => exact Eq.refl true)
    (case b2 => exact Eq.refl true)
    (case m_Drawing___init__ => k_is)
    (case i_Drawing___init__ => k_is)
    (case l_Drawing___init__ => k_is)
    (case c_Drawing___init__ => k_is)
    (case k_Drawing___init__ => k_is)
    (case b3 => exact Eq.refl true)
    (case m_Drawing___eq__ => k_is)
    (case i_Drawing___eq__ => k_is)
    (case l_Drawing___eq__ => k_is)
    (case c_Drawing___eq__ => k_is)
    (case k_Drawing___eq__ => k_is)
    (case m_Drawing___len__ => k_is)
    (case i_Drawing___len__ => k_is)
    (case l_Drawing___len__ => k_is)
    (case c_Drawing___len__ => k_is)
    (case k_Drawing___len__ => k_is)
    (case a_f__law_taken => k_is)
    (case l__law_taken => k_is)
    (case c__law_taken => k_is)
    (case k__law_taken => k_is)
    (case a_f__law_pick => k_is)
    (case l__law_pick => k_is)
    (case c__law_pick => k_is)
    (case k__law_pick => k_is)
    (case a_f__law_number => k_is)
    (case l__law_number => k_is)
    (case c__law_number => k_is)
    (case k__law_number => k_is)
    (case a_f__law_piece => k_is)
    (case l__law_piece => k_is)
    (case c__law_piece => k_is)
    (case k__law_piece => k_is)
    (case a_f__law_is_on => k_is)
    (case l__law_is_on => k_is)
    (case c__law_is_on => k_is)
    (case k__law_is_on => k_is)
    (case a_f__law_common => k_is)
    (case l__law_common => k_is)
    (case c__law_common => k_is)
    (case k__law_common => k_is)
    (case b4 => exact Eq.refl true)
    (case b5 => exact Eq.refl true)
    (case b6 => exact Eq.refl true)
    (case b7 => exact Eq.refl true)
    (case b8 => exact Eq.refl true)
    (case b9 => exact Eq.refl true)
    (case b10 => exact Eq.refl true)
    (case b11 => exact Eq.refl true)
    (case b12 => exact Eq.refl true)
    (case b13 => exact Eq.refl true)
    (case a_f__law_raised => k_is)
    (case l__law_raised => k_is)
    (case c__law_raised => k_is)
    (case k__law_raised => k_is)
    (case a_f__law_over => k_is)
    (case l__law_over => k_is)
    (case c__law_over => k_is)
    (case k__law_over => k_is)
    (case b14 => exact Eq.refl true)
    (case b15 => exact Eq.refl true)
    (case b16 => exact Eq.refl true)
    (case b0 => exact Eq.refl true)
    (case a_law => k_is)
    (case l_law => k_is)
    (case c_law => k_is)
    (case hd => exact Eq.refl true)
    (case nT => exact Eq.refl none)
