import PyProof.Rows.All
import PySem.Challenge.RW_ledlines_k35_pieces_told_by_cells
import HandS.ForMost
import HandS.EndTab
import PyProof.DictMoreH
import KE.KeyNested
import Wide.All
import OpenK.AllK
import Wide.FinOn
import HandS.Exc
import HandS.TryOnly
import HandS.ExcOwn
import HandS.WordsExc
import HandS.TupAny
import HandS.Lambda
import HandS.Iter
import HandS.TupLe
import HandS.Deep
import HandS.CallSlots
import HandS.IsInst
import HandS.Zip
import HandS.ExcInit
import KE.DataMinMax
import KE.SortData
import KE.GoesEnum
import HandS.TupSets
import HandS.NamedTupSort
import HandS.Comp
import HandS.ExcIs
import HandS.ExcField
import HandS.SetFor
import HandS.OwnEq
import PyProof.InstEq
import HandS.Gcd
import HandS.Style
import PyProof.Rows.TupTab
import HandS.Dict
import KE.GoesZip
import KE.KDictSum
import HandS.Conv
import HandS.RevTup
import HandS.Strs
import HandS.DictComp
import HandS.Rev
import HandS.Flow
import HandS.DictEq
import PyProof.P3Eq
import PyProof.EqLayable
import PyProof.TupleOfSeq
import KE.KDictCopyH
import KE.KUnpack
set_option Elab.async false
set_option linter.all false
section
set_option maxRecDepth 100000
set_option maxHeartbeats 1000000
namespace MP
open PySem PySem.Spec
/-! ### dicts whose count of new keys is the number of their entries -/
section
variable {prog : Program} {w : World} {κ : Type} [DecidableEq κ] {kn : HeapKind prog w κ} {B : Around} {Ex : Value → Shared → Prop} {t : Shared}
def DictE (kn : HeapKind prog w κ) (g : Heap) (d : Addr) (ys : List (κ × Addr × Value)) : Prop :=
  ∃ ob rows, g.get? d = some ob ∧ ob.ExactDict ∧ ob.data = .dict rows rows.size ∧ rows.toList = ys.map (entryOfKey kn) ∧ (∀ y ∈ ys, kn.is g y.1 y.2.1) ∧ (ys.map (·.1)).Nodup
theorem DictE.of {g : Heap} {d : Addr} {ys : List (κ × Addr × Value)} : DictE kn g d ys → g.DictOfH kn d ys := fun ⟨ob, rows, a, b, c, r⟩ => ⟨ob, rows, _, a, b, c, r⟩
theorem new_row {g : Heap} {d c : Addr} {ob : Obj} {rows : Array DictEntry} {ys : List (κ × Addr × Value)} {k : κ} {u : Value} {f : Array DictEntry → Array DictEntry} (e1 : g.get? d = some ob) (e2 : ob.ExactDict) (e3 : ob.data = .dict rows rows.size)
    (e4 : rows.toList = ys.map (entryOfKey kn)) (e5 : ∀ y ∈ ys, kn.is g y.1 y.2.1) (e6 : (ys.map (·.1)).Nodup) (hk : kn.is g k c) (no : atKey ys k = none) (nk : k ∉ ys.map (·.1)) (hf : f rows = rows.push ⟨kn.hash k, .ref c, u⟩) : DictE kn (g.update d (Obj.mapDictKeys f)) d (storedH ys k c u) := by
  rw [storedH_new no]
  have z : (ob.mapDictKeys f).data = .dict (f rows) (rows.size + 1) := Obj.data_mapDictKeys e3 f
  refine ⟨_, f rows, Heap.get?_update_self _ e1 (Obj.isFreed_of_dict z), e2.mapDictKeys _, z.trans (by rw [hf, Array.size_push]), by rw [hf]; simp [e4, entryOfKey], fun y hy => ?_, ?_⟩
  · rcases List.mem_append.mp hy with q | q
    · exact kn.keeps (e5 y q) e1 e3 (Heap.SameBut.update ..)
    · cases List.mem_singleton.mp q
      exact kn.keeps hk e1 e3 (Heap.SameBut.update ..)
  · rw [List.map_append, List.nodup_append]
    exact ⟨e6, by simp, fun a ha b hb q => nk (by have z := List.mem_singleton.mp hb; rw [q, z] at ha; exact ha)⟩
theorem old_row {g : Heap} {d c : Addr} {ob : Obj} {rows : Array DictEntry} {ys : List (κ × Addr × Value)} {k : κ} {u : Value} {j : Nat} {p : Addr × Value} (e1 : g.get? d = some ob) (e2 : ob.ExactDict) (e3 : ob.data = .dict rows rows.size)
    (e4 : rows.toList = ys.map (entryOfKey kn)) (e5 : ∀ y ∈ ys, kn.is g y.1 y.2.1) (e6 : (ys.map (·.1)).Nodup) (hj : ys[j]? = some (k, p)) :
    DictE kn (g.update d (Obj.mapDict fun q => q.modify j fun e => { e with val := u })) d (storedH ys k c u) := by
  rw [storedH_old (atKey_of_get e6 hj)]
  have z := Obj.data_mapDict e3 fun q => q.modify j fun e => { e with val := u }
  refine ⟨_, _, Heap.get?_update_self _ e1 (Obj.isFreed_of_dict z), e2.mapDict _, z.trans (by rw [Array.size_modify]), ?_, fun y hy => ?_, by rw [keys_map_putAt]; exact e6⟩
  · have q := modify_map_putAt (entryOfKey kn) (fun e : DictEntry => { e with val := u }) k u (fun _ _ => rfl) e6 hj
    rw [← e4] at q
    obtain ⟨rl⟩ := rows
    simpa using q
  · obtain ⟨y0, h0, rfl⟩ := List.mem_map.mp hy
    unfold putAt
    split <;> exact kn.keeps (e5 y0 h0) e1 e3 (Heap.SameBut.update ..)
theorem set_E {d c : Addr} {ys : List (κ × Addr × Value)} {k : κ} {u : Value} {R : Unit → Shared → Prop} (rm : kn.room B) (hk : kn.is t.heap k c) (m0 : DictE kn t.heap d ys) (few : ys.length ≤ sizeLine)
    (fin : ∀ g, DictE kn g d (storedH ys k c u) → Heap.SameBut d t.heap g → R () { t with heap := g, toks := t.toks + kn.draws k }) : wpAny (model prog w) B (dictSet d (.ref c) u) R Ex t := by
  obtain ⟨ob, rows, e1, e2, e3, e4, e5, e6⟩ := m0
  unfold dictSet
  refine wpAny_holding (wpAny_bind (kn.pyHash rm hk ?_))
  unfold dictSetHashed
  refine wpAny_holding (wpAny_bind (wpAny_dictFind_heap (s := { t with toks := t.toks + kn.draws k }) rm hk e1 e3 e4 e5 e6 (fun no => ?_) fun j p hj => ?_))
  · exact wpAny_bind (wpAny_rule (wpAny_updateDictKeys (hz := by have := size_of_entries e4; omega) (s := { t with toks := t.toks + kn.draws k }) e1 e3
      (fin _ (new_row e1 e2 e3 e4 e5 e6 hk (atKey_none_of_get no) (not_mem_keys_of_get no) rfl) (Heap.SameBut.update ..))))
  · exact wpAny_bind (wpAny_rule (wpAny_bind (wpAny_updateDict (s := { t with toks := t.toks + kn.draws k }) e1 e3 (wpAny_point (fin _ (old_row e1 e2 e3 e4 e5 e6 hj) (Heap.SameBut.update ..))))))
theorem item_E {d c : Addr} {ys : List (κ × Addr × Value)} {k : κ} {u : Value} {R : Unit → Shared → Prop} (rm : kn.room B.in1) (hk : kn.is t.heap k c) (m0 : DictE kn t.heap d ys) (few : ys.length ≤ sizeLine)
    (fin : ∀ g, DictE kn g d (storedH ys k c u) → Heap.SameBut d t.heap g → R () { t with heap := g, toks := t.toks + kn.draws k }) : wpAny (model prog w) B (setItem (.ref d) (.ref c) u) R Ex t := by
  have ty : t.TypeIs (.ref d) "dict" := m0.of.typeIs
  unfold setItem
  refine wpAny_holding (wpAny_bind (wpAny_sequenceKey ty (by decide) ?_))
  refine wpAny_bind (wpAny_callSpecial?_slot (name := Str.ofString "__setitem__") ty slot_dict_setitem (wpAny_call_entry slot_dict_setitem ty entry_dict_setitem ?_ (args_dict_setitem _ _ _)))
  show wpAny _ _ (Builtin.Dict.notOrdered "__setitem__" ⟨[.ref d, .ref c, u], []⟩ >>= _) _ _ t
  refine wpAny_bind (wpAny_notOrdered_dict ty ?_)
  show wpAny _ _ (dictSet d (.ref c) u >>= _) _ _ t
  exact wpAny_bind (set_E rm hk m0 few fun g a b => wpAny_pure ⟨.none, rfl, wpAny_pure (fin g a b)⟩)
theorem default_E {d c : Addr} {ys : List (κ × Addr × Value)} {k : κ} {u : Value} {R : Value → Shared → Prop} (rm : kn.room B) (hk : kn.is t.heap k c) (m0 : DictE kn t.heap d ys) (few : ys.length ≤ sizeLine)
    (h1 : ∀ p, atKey ys k = some p → R p.2 { t with toks := t.toks + kn.draws k })
    (h2 : atKey ys k = none → ∀ g, DictE kn g d (storedH ys k c u) → Heap.SameBut d t.heap g → R u { t with heap := g, toks := t.toks + kn.draws k }) : wpAny (model prog w) B (dictSetDefault d (.ref c) u) R Ex t := by
  obtain ⟨ob, rows, e1, e2, e3, e4, e5, e6⟩ := m0
  unfold dictSetDefault
  refine wpAny_holding (wpAny_bind (kn.pyHash rm hk ?_))
  refine wpAny_bind (wpAny_dictFind_heap (s := { t with toks := t.toks + kn.draws k }) rm hk e1 e3 e4 e5 e6 (fun no => ?_) fun j p hj => ?_)
  · exact wpAny_bind (wpAny_rule (wpAny_bind (wpAny_updateDictKeys (hz := by have := size_of_entries e4; omega) (s := { t with toks := t.toks + kn.draws k }) e1 e3
      (wpAny_pure (h2 (atKey_none_of_get no) _ (new_row e1 e2 e3 e4 e5 e6 hk (atKey_none_of_get no) (not_mem_keys_of_get no) rfl) (Heap.SameBut.update ..))))))
  · refine wpAny_bind (wpAny_dictEntries (s := { t with toks := t.toks + kn.draws k }) e1 e3 ?_)
    rw [entry_at e4 j, hj]
    exact wpAny_bind (wpAny_rule (wpAny_pure (h1 p (atKey_of_get e6 hj))))
theorem call_default_E {d c : Addr} {ys : List (κ × Addr × Value)} {k : κ} {u : Value} {R : Value → Shared → Prop} (rm : kn.room B.in1) (hk : kn.is t.heap k c) (big : (d == sysModules) = false) (m0 : DictE kn t.heap d ys) (few : ys.length ≤ sizeLine)
    (h1 : ∀ p, atKey ys k = some p → R p.2 { t with toks := t.toks + kn.draws k })
    (h2 : atKey ys k = none → ∀ g, DictE kn g d (storedH ys k c u) → Heap.SameBut d t.heap g → R u { t with heap := g, toks := t.toks + kn.draws k }) : wpAny (model prog w) B (call (.builtin "dict.setdefault") [.ref d, .ref c, u]) R Ex t := by
  have mt : MeetsIn prog w (Builtin.«dict.setdefault» ⟨[.ref d, .ref c, u], []⟩) (fun A R s => kn.room A.in1 ∧ ∃ k xs, kn.is s.heap k c ∧ DictE kn s.heap d xs ∧ xs.length ≤ sizeLine ∧
      (∀ p, atKey xs k = some p → R (.ok (.ret p.2)) { s with toks := s.toks + kn.draws k }) ∧ (atKey xs k = none → ∀ g, DictE kn g d (storedH xs k c u) → Heap.SameBut d s.heap g → R (.ok (.ret u)) { s with heap := g, toks := s.toks + kn.draws k })) :=
    .of_wp fun A R s ⟨hu, k, xs, hkey, hm, hz, q1, q2⟩ => by
      unfold Builtin.«dict.setdefault»
      refine wpAny_bind ?_
      unfold Builtin.Dict.keyAndDefault
      refine wpAny_bind (wpAny_notOrdered_dict hm.of.typeIs ?_)
      show wpAny _ _ (pure (d, Value.ref c, some u)) _ _ s
      refine wpAny_pure ?_
      show wpAny _ _ (if (d == sysModules) = true then _ else (dictSetDefault d (.ref c) u >>= _)) _ _ s
      rw [if_neg (by rw [big]; exact Bool.false_ne_true)]
      exact wpAny_bind (default_E hu hkey hm hz (fun p hp => wpAny_pure ⟨p.2, rfl, q1 p hp⟩) fun hn g a b => wpAny_pure ⟨u, rfl, q2 hn g a b⟩)
  exact call_meetsIn F.slot_dict_setdefault m0.of.typeIs F.entry_dict_setdefault (F.args_dict_setdefault_3 _ _ _) mt ⟨rm, k, ys, hk, m0, few, h1, h2⟩
end
end MP
end
section
set_option maxRecDepth 100000
set_option maxHeartbeats 1000000
namespace MP
open PySem L2

/-- plain data; obj n: the n-th thing of the store -/
inductive D where
  | non | bl (b : Bool) | int (i : Int) | str (s : Str) | tup (l : List D) | obj (n : Nat)
/-- a thing that may change -/
inductive Cell where
  | lst (ro : Bool) (l : List D)
  | ins (c : Str) (fs : List (Str × D))
  | exc (live : Bool) (c : Str) (fs : List (Str × D))
  | dct (ps : List (D × D))
  | rng (lo c : Int) (n : Nat)
  | dki (ps : List (Int × Int))
abbrev Sto := List Cell
abbrev Ls := List (Option D)

structure Gam where
  K : PySem.W.Frag
  cl : Str → Addr
  /-- the exceptions that are held in suites -/
  ex : List (Addr × Str × Option Addr) := []
  /-- the tables of code objects that lambdas are laid into, and the lambdas' names -/
  T : List (Addr × Str) := []

mutual
inductive Rv (K : PySem.W.Frag) (m : Nat → Addr) (L : Nat) (H : Hp) : D → V → Prop
  | non : Rv K m L H .non .non
  | bl (b : Bool) : Rv K m L H (.bl b) (.bl b)
  | int (i : Int) : Rv K m L H (.int i) (.int i)
  | str (s : Str) : Rv K m L H (.str s) (.str s)
  | tup {a : Addr} {vs : List V} {ds : List D} : SqT K H a vs → RvL K m L H ds vs → Rv K m L H (.tup ds) (.ref a)
  | obj {n : Nat} : n < L → Rv K m L H (.obj n) (.ref (m n))
inductive RvL (K : PySem.W.Frag) (m : Nat → Addr) (L : Nat) (H : Hp) : List D → List V → Prop
  | nil : RvL K m L H [] []
  | cons {d : D} {v : V} {ds : List D} {vs : List V} : Rv K m L H d v → RvL K m L H ds vs → RvL K m L H (d :: ds) (v :: vs)
end

structure Keep (H H' : Hp) : Prop where
  tup : ∀ b xs, H b = some (.tup xs) → H' b = some (.tup xs)
  frz : ∀ b o u, H b = some (.frz o u) → H' b = some (.frz o u)
  xd : ∀ b vs, H b = some (.xd vs) → H' b = some (.xd vs)
theorem Keep.refl (H : Hp) : Keep H H := ⟨fun _ _ h => h, fun _ _ _ h => h, fun _ _ h => h⟩
theorem Keep.trans {H H1 H2 : Hp} (a : Keep H H1) (b : Keep H1 H2) : Keep H H2 := ⟨fun c xs h => b.tup c xs (a.tup c xs h), fun c o u h => b.frz c o u (a.frz c o u h), fun c vs h => b.xd c vs (a.xd c vs h)⟩
theorem Keep.new {H : Hp} {p : Addr} {o : HO} (h : H p = none) : Keep H (upd H p o) :=
  ⟨fun b xs e => by rw [upd_ne (ne_of_none e h)]; exact e, fun b o u e => by rw [upd_ne (ne_of_none e h)]; exact e, fun b xs e => by rw [upd_ne (ne_of_none e h)]; exact e⟩
/-- what may be written -/
structure Plain (u : HO) : Prop where
  tup : ∀ xs, u ≠ .tup xs
  frz : ∀ o w, u ≠ .frz o w
  tbl : ∀ ps, u ≠ .tbl ps
  ext : ∀ c q, u ≠ LamX.CodeO c q
  xd : ∀ vs, u ≠ .xd vs
theorem Plain.lst {xs : List V} : Plain (.lst xs) := ⟨(fun _ z => by cases z), (fun _ _ z => by cases z), (fun _ z => by cases z), (fun _ _ z => by cases z), (fun _ z => by cases z)⟩
theorem Plain.ins {C dx : Addr} {fs : List (Str × V)} : Plain (.ins C dx fs) := ⟨(fun _ z => by cases z), (fun _ _ z => by cases z), (fun _ z => by cases z), (fun _ _ z => by cases z), (fun _ z => by cases z)⟩
theorem Plain.dK {xs : List (Key × V)} : Plain (.dK xs) := ⟨(fun _ z => by cases z), (fun _ _ z => by cases z), (fun _ z => by cases z), (fun _ _ z => by cases z), (fun _ z => by cases z)⟩
theorem Plain.dT {xs : List (List Key × V)} : Plain (.dT xs) := ⟨(fun _ z => by cases z), (fun _ _ z => by cases z), (fun _ z => by cases z), (fun _ _ z => by cases z), (fun _ z => by cases z)⟩
theorem Keep.put {H : Hp} {p : Addr} {o u : HO} (h : H p = some u) (n : Plain u) : Keep H (upd H p o) :=
  ⟨fun b xs e => by rw [upd_ne (ne_of e h (fun z => n.tup xs z.symm))]; exact e, fun b ob w e => by rw [upd_ne (ne_of e h (fun z => n.frz ob w z.symm))]; exact e, fun b xs e => by rw [upd_ne (ne_of e h (fun z => n.xd xs z.symm))]; exact e⟩
theorem tabs_put {T : List (Addr × Str)} {H : Hp} {p : Addr} {o u : HO} (h : H p = some u) (n : Plain u) (t : LamX.Tabs T H) : LamX.Tabs T (upd H p o) := fun q hq => by
  obtain ⟨ps, h1, h2, h3⟩ := t q hq
  exact ⟨ps, by rw [upd_ne (ne_of h1 h (fun z => n.tbl ps z.symm))]; exact h1, h2, fun pos cv hc => let ⟨c, e1, e2⟩ := h3 pos cv hc; ⟨c, e1, by rw [upd_ne (ne_of e2 h (fun z => n.ext _ _ z.symm))]; exact e2⟩⟩
theorem tabs_new {T : List (Addr × Str)} {H : Hp} {p : Addr} {o : HO} (h : H p = none) (t : LamX.Tabs T H) : LamX.Tabs T (upd H p o) := t.ext fun b u e => by rw [upd_ne (ne_of_none e h)]; exact e
theorem Keep.sqT {K : PySem.W.Frag} {H H' : Hp} {a : Addr} {xs : List V} (k : Keep H H') (h : SqT K H a xs) : SqT K H' a xs := by
  rcases h with (h | ⟨o, h⟩) | h
  · exact .inl (.inl (k.tup _ _ h))
  · exact .inl (.inr ⟨o, k.frz _ _ _ h⟩)
  · exact .inr h
/-! dicts whose keys are tuples of numbers and of such tuples -/
mutual
def keyD : D → NestedKey
  | .int i => .num i
  | .tup l => .tup (keyDs l)
  | _ => .none
def keyDs : List D → List NestedKey
  | [] => []
  | d :: r => keyD d :: keyDs r
end
mutual
def hashK : NestedKey → Int
  | .num i => hashInt i
  | .tup ks => reduceHash (Builtin.Tuple.tupleHashOf (hashKs ks))
  | .none => reduceHash 0xFCA86420
  | .text _ => 0
def hashKs : List NestedKey → List Int
  | [] => []
  | k :: ks => hashK k :: hashKs ks
end
/-- the dict of the keys k, which stand at b, and the values v -/
def dctO (a : Addr) (qs : List (NestedKey × Addr × V)) : HO := .ext fun h => qs.length ≤ sizeLine ∧ (a == sysModules) = false ∧
  ∃ xs : List (NestedKey × Addr × Value), Paired (fun (q : NestedKey × Addr × V) (x : NestedKey × Addr × Value) => q.1 = x.1 ∧ q.2.1 = x.2.1 ∧ RelV q.2.2 x.2.2) qs xs ∧
    ∃ o es ep, h.get? a = some o ∧ o.ExactDict ∧ o.data = .dict es ep ∧ es.toList = xs.map (fun x => (⟨hashK x.1, .ref x.2.1, x.2.2⟩ : DictEntry)) ∧ (xs.map (·.1)).Nodup ∧ ep = es.size
theorem dctO_ne {a c : Addr} {qs : List (NestedKey × Addr × V)} {q : Str} : dctO a qs ≠ LamX.CodeO c q := fun z => by
  have e : (dctO a qs) = LamX.CodeO c q := z
  unfold dctO LamX.CodeO at e
  injection e with e
  let ob : Obj := { cls := .none, dict := none, data := .fields #[.none, .str q default] }
  let h : Heap := { objs := Array.replicate (c + 1) ob }
  have g : ∀ b, h.get? b = if b < c + 1 then some ob else none := fun b => by
    by_cases hb : b < c + 1
    · have z : h.objs[b]? = some ob := by simp only [h, Array.getElem?_replicate, if_pos hb]
      unfold Heap.get?
      rw [z, if_pos hb]
    · have z : h.objs[b]? = none := by simp only [h, Array.getElem?_replicate, if_neg hb]
      unfold Heap.get?
      rw [z, if_neg hb]
  have h2 := congrFun e h
  have h3 : (∃ (oc : Obj) (vs : Array Value) (t : Tok), h.get? c = some oc ∧ oc.data = .fields vs ∧ vs[1]? = some (.str q t)) := ⟨ob, _, default, by rw [g, if_pos (Nat.lt_succ_self _)], rfl, rfl⟩
  rw [← h2] at h3
  obtain ⟨_, _, _, _, o, es, ep, e1, _, e2, _⟩ := h3
  rw [g] at e1
  split at e1
  · cases e1
    cases e2
  · cases e1
theorem Plain.dct {a : Addr} {qs : List (NestedKey × Addr × V)} : Plain (dctO a qs) := ⟨(fun _ z => by cases z), (fun _ _ z => by cases z), (fun _ z => by cases z), (fun _ _ z => dctO_ne z), (fun _ z => by cases z)⟩
/-- a range object: lo, lo + c, .. (n of them) -/
def rgO (a : Addr) (lo c : Int) (n : Nat) : HO := .ext fun h => ∃ j t u v, RgC lo j c n ∧ h.get? a = some { cls := .type "range", data := .fields #[.int lo t, .int j u, .int c v] }
theorem rgO_ne {a c : Addr} {lo k : Int} {n : Nat} {q : Str} : rgO a lo k n ≠ LamX.CodeO c q := fun z => by
  have e : (rgO a lo k n) = LamX.CodeO c q := z
  unfold rgO LamX.CodeO at e
  injection e with e
  let ob : Obj := { cls := .none, dict := none, data := .fields #[.none, .str q default] }
  let h : Heap := { objs := Array.replicate (c + 1) ob }
  have g : ∀ b, h.get? b = if b < c + 1 then some ob else none := fun b => by
    by_cases hb : b < c + 1
    · have z : h.objs[b]? = some ob := by simp only [h, Array.getElem?_replicate, if_pos hb]
      unfold Heap.get?
      rw [z, if_pos hb]
    · have z : h.objs[b]? = none := by simp only [h, Array.getElem?_replicate, if_neg hb]
      unfold Heap.get?
      rw [z, if_neg hb]
  have h2 := congrFun e h
  have h3 : (∃ (oc : Obj) (vs : Array Value) (t : Tok), h.get? c = some oc ∧ oc.data = .fields vs ∧ vs[1]? = some (.str q t)) := ⟨ob, _, default, by rw [g, if_pos (Nat.lt_succ_self _)], rfl, rfl⟩
  rw [← h2] at h3
  obtain ⟨_, _, _, _, _, e1⟩ := h3
  rw [g] at e1
  split at e1
  · exact nomatch (show Value.none = Value.type "range" from congrArg Obj.cls (Option.some.inj e1))
  · exact nomatch e1
theorem Plain.rng {a : Addr} {lo c : Int} {n : Nat} : Plain (rgO a lo c n) := ⟨(fun _ z => by cases z), (fun _ _ z => by cases z), (fun _ z => by cases z), (fun _ _ z => rgO_ne z), (fun _ z => by cases z)⟩
def Ext (m : Nat → Addr) (L : Nat) (m' : Nat → Addr) : Prop := ∀ n, n < L → m' n = m n
theorem Ext.refl (m : Nat → Addr) (L : Nat) : Ext m L m := fun _ _ => rfl
theorem Ext.trans {m m1 m2 : Nat → Addr} {L L1 : Nat} (a : Ext m L m1) (b : Ext m1 L1 m2) (h : L ≤ L1) : Ext m L m2 := fun n hn => (b n (Nat.lt_of_lt_of_le hn h)).trans (a n hn)
theorem Ext.less {m m1 : Nat → Addr} {L L1 : Nat} (a : Ext m L1 m1) (h : L ≤ L1) : Ext m L m1 := fun n hn => a n (Nat.lt_of_lt_of_le hn h)

section
variable {K : PySem.W.Frag} {m m' : Nat → Addr} {L L' : Nat} {H H' : Hp}
mutual
theorem Rv.mono (e : Ext m L m') (hL : L ≤ L') (k : Keep H H') : ∀ {d : D} {v : V}, Rv K m L H d v → Rv K m' L' H' d v
  | _, _, .non => .non
  | _, _, .bl b => .bl b
  | _, _, .int i => .int i
  | _, _, .str s => .str s
  | _, _, .tup h r => .tup (k.sqT h) (RvL.mono e hL k r)
  | _, _, .obj (n := n) h => by
    have q := Rv.obj (K := K) (m := m') (H := H') (Nat.lt_of_lt_of_le h hL)
    rw [e n h] at q
    exact q
theorem RvL.mono (e : Ext m L m') (hL : L ≤ L') (k : Keep H H') : ∀ {ds : List D} {vs : List V}, RvL K m L H ds vs → RvL K m' L' H' ds vs
  | _, _, .nil => .nil
  | _, _, .cons r rs => .cons (Rv.mono e hL k r) (RvL.mono e hL k rs)
end
theorem RvL.length : ∀ {ds : List D} {vs : List V}, RvL K m L H ds vs → ds.length = vs.length
  | _, _, .nil => rfl
  | _, _, .cons _ rs => by rw [List.length_cons, List.length_cons, RvL.length rs]
theorem RvL.get : ∀ {ds : List D} {vs : List V} {i : Nat} {d : D}, RvL K m L H ds vs → ds[i]? = some d → ∃ v, vs[i]? = some v ∧ Rv K m L H d v
  | _, _, 0, _, .cons r _, e => ⟨_, rfl, by cases e; exact r⟩
  | _, _, i + 1, d, .cons _ rs, e => RvL.get (i := i) rs (by simpa using e)
theorem RvL.app : ∀ {ds es : List D} {vs ws : List V}, RvL K m L H ds vs → RvL K m L H es ws → RvL K m L H (ds ++ es) (vs ++ ws)
  | _, _, _, _, .nil, s => s
  | _, _, _, _, .cons r rs, s => .cons r (RvL.app rs s)
theorem RvL.snoc {ds : List D} {vs : List V} {d : D} {v : V} (r : RvL K m L H ds vs) (q : Rv K m L H d v) : RvL K m L H (ds ++ [d]) (vs ++ [v]) := r.app (.cons q .nil)
theorem RvL.take : ∀ {ds : List D} {vs : List V} (n : Nat), RvL K m L H ds vs → RvL K m L H (ds.take n) (vs.take n)
  | _, _, 0, _ => .nil
  | _, _, _ + 1, .nil => .nil
  | _, _, n + 1, .cons r rs => .cons r (RvL.take n rs)
theorem RvL.drop : ∀ {ds : List D} {vs : List V} (n : Nat), RvL K m L H ds vs → RvL K m L H (ds.drop n) (vs.drop n)
  | _, _, 0, r => r
  | _, _, _ + 1, .nil => .nil
  | _, _, n + 1, .cons _ rs => RvL.drop n rs
theorem RvL.set : ∀ {ds : List D} {vs : List V} (i : Nat) {d : D} {v : V}, RvL K m L H ds vs → Rv K m L H d v → RvL K m L H (ds.set i d) (vs.set i v)
  | _, _, _, _, _, .nil, _ => .nil
  | _, _, 0, _, _, .cons _ rs, q => .cons q rs
  | _, _, i + 1, _, _, .cons r rs, q => .cons r (RvL.set i rs q)
theorem RvL.getV : ∀ {ds : List D} {vs : List V} {i : Nat} {v : V}, RvL K m L H ds vs → vs[i]? = some v → ∃ d, ds[i]? = some d ∧ Rv K m L H d v
  | _, _, 0, _, .cons r _, e => ⟨_, rfl, by cases e; exact r⟩
  | _, _, i + 1, v, .cons _ rs, e => RvL.getV (i := i) rs (by simpa using e)
end

/-- fields -/
inductive FsR (K : PySem.W.Frag) (m : Nat → Addr) (L : Nat) (H : Hp) : List (Str × D) → List (Str × V) → Prop
  | nil : FsR K m L H [] []
  | cons {f : Str} {d : D} {v : V} {fs : List (Str × D)} {vs : List (Str × V)} : Rv K m L H d v → FsR K m L H fs vs → FsR K m L H ((f, d) :: fs) ((f, v) :: vs)
/-- a list that stands still for ever -/
def RoL (K : PySem.W.Frag) (H : Hp) (a : Addr) (xs : List V) : Prop := (∃ o, H a = some (.frz o (.lst xs))) ∨
    ∃ (o : Obj) (its : Array Value) (n : Nat), K.lookup a = some o ∧ o.cls = .type "list" ∧ o.dict = none ∧ o.data = .seq its n ∧ its.size ≤ sizeLine ∧ Vals xs its.toList
theorem RoL.sq {K : PySem.W.Frag} {H : Hp} {a : Addr} {xs : List V} (h : RoL K H a xs) : SqL K H a xs := by
  rcases h with ⟨o, h⟩ | h
  · exact .inl (.inr ⟨o, h⟩)
  · exact .inr h
theorem Keep.roL {K : PySem.W.Frag} {H H' : Hp} {a : Addr} {xs : List V} (k : Keep H H') (h : RoL K H a xs) : RoL K H' a xs := by
  rcases h with ⟨o, h⟩ | h
  · exact .inl ⟨o, k.frz _ _ _ h⟩
  · exact .inr h
theorem FsR.mono' {Γ : Gam} {m m' : Nat → Addr} {L L' : Nat} {H H' : Hp} (e : Ext m L m') (hL : L ≤ L') (k : Keep H H') : ∀ {fs : List (Str × D)} {vs : List (Str × V)}, FsR Γ.K m L H fs vs → FsR Γ.K m' L' H' fs vs
  | _, _, .nil => .nil
  | _, _, .cons r rs => .cons (r.mono e hL k) (FsR.mono' e hL k rs)
/-- the dict of an exception with fields fs -/
def ExcR (Γ : Gam) (m : Nat → Addr) (L : Nat) (H : Hp) (fs : List (Str × D)) (dd : Option Addr) : Prop :=
  (fs = [] ∧ dd = none) ∨ (fs ≠ [] ∧ ∃ a vs, dd = some a ∧ H a = some (.xd vs) ∧ FsR Γ.K m L H fs vs)
theorem ExcR.mono {Γ : Gam} {m m' : Nat → Addr} {L L' : Nat} {H H' : Hp} (e : Ext m L m') (hL : L ≤ L') (k : Keep H H') {fs : List (Str × D)} {dd : Option Addr} (h : ExcR Γ m L H fs dd) : ExcR Γ m' L' H' fs dd := by
  rcases h with h | ⟨h, a, vs, h1, h2, h3⟩
  · exact .inl h
  · exact .inr ⟨h, a, vs, h1, k.xd _ _ h2, FsR.mono' (Γ := Γ) e hL k h3⟩
/-- what may be a key -/
def okKey : Nat → D → Bool
  | _, .int _ => true
  | n + 1, .tup l => l.all (okKey n)
  | _, _ => false
def isTupD : D → Bool
  | .tup _ => true
  | _ => false
def okTop (d : D) : Bool := isTupD d && okKey 8 d
inductive DctR (K : PySem.W.Frag) (m : Nat → Addr) (L : Nat) (H : Hp) : List (D × D) → List (NestedKey × Addr × V) → Prop
  | nil : DctR K m L H [] []
  | cons {k d : D} {b : Addr} {v : V} {ps : List (D × D)} {qs : List (NestedKey × Addr × V)} : okTop k = true → Rv K m L H k (.ref b) → Rv K m L H d v → DctR K m L H ps qs → DctR K m L H ((k, d) :: ps) ((keyD k, b, v) :: qs)
theorem DctR.mono {K : PySem.W.Frag} {m m' : Nat → Addr} {L L' : Nat} {H H' : Hp} (e : Ext m L m') (hL : L ≤ L') (k : Keep H H') : ∀ {ps : List (D × D)} {qs : List (NestedKey × Addr × V)}, DctR K m L H ps qs → DctR K m' L' H' ps qs
  | _, _, .nil => .nil
  | _, _, .cons o r1 r2 rs => .cons o (r1.mono e hL k) (r2.mono e hL k) (DctR.mono e hL k rs)
def CellR (Γ : Gam) (m : Nat → Addr) (L : Nat) (H : Hp) (a : Addr) : Cell → Prop
  | .dct ps => ∃ qs, H a = some (dctO a qs) ∧ DctR Γ.K m L H ps qs
  | .rng lo c n => H a = some (rgO a lo c n)
  | .dki ps => H a = some (.dK (ps.map fun p => (Sum.inl p.1, V.int p.2)))
  | .lst true l => ∃ vs, RoL Γ.K H a vs ∧ RvL Γ.K m L H l vs
  | .lst false l => ∃ vs, H a = some (.lst vs) ∧ RvL Γ.K m L H l vs
  | .ins c fs => ∃ dx vs, H a = some (.ins (Γ.cl c) dx vs) ∧ FsR Γ.K m L H fs vs
  | .exc true c fs => ∃ d, (a, c, d) ∈ Γ.ex ∧ ExcR Γ m L H fs d
  | .exc false _ _ => True
def Cell.mut : Cell → Bool
  | .lst true _ => false
  | .exc _ _ _ => false
  | _ => true
structure StR (Γ : Gam) (m : Nat → Addr) (st : Sto) (H : Hp) : Prop where
  cell : ∀ n c, st[n]? = some c → CellR Γ m st.length H (m n) c
  inj : ∀ i j c d, st[i]? = some c → st[j]? = some d → c.mut = true → d.mut = true → m i = m j → i = j
  tabs : LamX.Tabs Γ.T H
structure LsR (Γ : Gam) (m : Nat → Addr) (L : Nat) (H : Hp) (ls : Ls) (σ : L2.St) : Prop where
  len : ls.length = σ.length
  at_ : ∀ (i : Nat) d, ls[i]? = some (some d) → ∃ v, σ[i]? = some (some v) ∧ Rv Γ.K m L H d v

section
variable {Γ : Gam} {m m' : Nat → Addr} {L L' : Nat} {H H' : Hp}
theorem FsR.mono (e : Ext m L m') (hL : L ≤ L') (k : Keep H H') : ∀ {fs : List (Str × D)} {vs : List (Str × V)}, FsR Γ.K m L H fs vs → FsR Γ.K m' L' H' fs vs
  | _, _, .nil => .nil
  | _, _, .cons r rs => .cons (r.mono e hL k) (FsR.mono e hL k rs)
theorem LsR.mono {ls : Ls} {σ : L2.St} (h : LsR Γ m L H ls σ) (e : Ext m L m') (hL : L ≤ L') (k : Keep H H') : LsR Γ m' L' H' ls σ :=
  ⟨h.len, fun i d q => let ⟨v, a, b⟩ := h.at_ i d q; ⟨v, a, b.mono e hL k⟩⟩
theorem LsR.set {ls : Ls} {σ : L2.St} (h : LsR Γ m L H ls σ) (i : Nat) {d : D} {v : V} (r : Rv Γ.K m L H d v) : LsR Γ m L H (ls.set i (some d)) (σ.set i (some v)) := by
  refine ⟨by rw [List.length_set, List.length_set, h.len], fun j e q => ?_⟩
  by_cases hj : i = j
  · subst hj
    have hi : i < ls.length := by
      by_cases c : i < ls.length
      · exact c
      · rw [List.getElem?_eq_none (by simpa using c)] at q
        cases q
    rw [List.getElem?_set_self hi] at q
    cases q
    exact ⟨v, by rw [List.getElem?_set_self (by rw [← h.len]; exact hi)], r⟩
  · rw [List.getElem?_set_ne hj] at q
    obtain ⟨w, a, b⟩ := h.at_ j e q
    exact ⟨w, by rw [List.getElem?_set_ne hj]; exact a, b⟩
end

/-! ### results -/
inductive Rs where
  | ok (d : D)
  | exc (c : Str) (fs : List (Str × D))
abbrev Rt := Option (Rs × Sto)
/-- what an expression does with the names and the store -/
abbrev De := Ls → Sto → Rt
def AfterOk (Γ : Gam) (m : Nat → Addr) (L : Nat) (H : Hp) (st' : Sto) (d : D) (Q : VK) : Prop :=
  ∀ m' H' v, Ext m L m' → Keep H H' → StR Γ m' st' H' → Rv Γ.K m' st'.length H' d v → Q v H'
def AfterExc (Γ : Gam) (m : Nat → Addr) (L : Nat) (H : Hp) (st' : Sto) (c : Str) (fs : List (Str × D)) (E : XK) : Prop :=
  ∀ m' H' dd, Ext m L m' → Keep H H' → StR Γ m' st' H' → ExcR Γ m' st'.length H' fs dd → E (.ref (Γ.cl c)) dd H'
def Res (Γ : Gam) (m : Nat → Addr) (L : Nat) (H : Hp) (r : Rt) (Q : VK) (E : XK) : Prop :=
  match r with
  | none => False
  | some (.ok d, st') => L ≤ st'.length ∧ AfterOk Γ m L H st' d Q
  | some (.exc c fs, st') => L ≤ st'.length ∧ AfterExc Γ m L H st' c fs E
section
variable {Γ : Gam} {m m' : Nat → Addr} {L L' : Nat} {H H' : Hp} {r : Rt} {Q Q' : VK} {E : XK}
theorem Res.mono (h : Res Γ m L H r Q E) (e : Ext m L m') (k : Keep H H') (hL : L ≤ L') (hr : ∀ a st', r = some (a, st') → L' ≤ st'.length) : Res Γ m' L' H' r Q E := by
  match r, h, hr with
  | some (.ok d, st'), ⟨_, h⟩, hr => exact ⟨hr _ _ rfl, fun m2 H2 v e2 k2 s2 r2 => h m2 H2 v (e.trans e2 hL) (k.trans k2) s2 r2⟩
  | some (.exc c fs, st'), ⟨_, h⟩, hr => exact ⟨hr _ _ rfl, fun m2 H2 v e2 k2 s2 r2 => h m2 H2 v (e.trans e2 hL) (k.trans k2) s2 r2⟩
end
/-- the store never shrinks -/
def Mono (de : De) : Prop := ∀ ls st r st', de ls st = some (r, st') → st.length ≤ st'.length
def bindR (r : Rt) (f : D → Sto → Rt) : Rt :=
  match r with
  | some (.ok d, st') => f d st'
  | r => r
def MonoF (f : D → Sto → Rt) : Prop := ∀ d st r st', f d st = some (r, st') → st.length ≤ st'.length

/-- what is true while a value d, seen as v, is in flight -/
theorem Res.bind {Γ : Gam} {m : Nat → Addr} {st : Sto} {H : Hp} {r : Rt} {f : D → Sto → Rt} {Q : VK} {E : XK} (h : Res Γ m st.length H (bindR r f) Q E) (hm : ∀ a st', r = some (a, st') → st.length ≤ st'.length) (hf : MonoF f) :
    Res Γ m st.length H r (fun v H1 => ∃ m1 d st1, Ext m st.length m1 ∧ Keep H H1 ∧ st.length ≤ st1.length ∧ StR Γ m1 st1 H1 ∧ Rv Γ.K m1 st1.length H1 d v ∧ Res Γ m1 st1.length H1 (f d st1) Q E) E := by
  match r, h, hm with
  | some (.ok d, st1), h, hm =>
    have hl := hm _ _ rfl
    refine ⟨hl, fun m1 H1 v e k s rv => ⟨m1, d, st1, e, k, hl, s, rv, ?_⟩⟩
    have h : Res Γ m st.length H (f d st1) Q E := h
    exact h.mono e k hl fun a st' q => hf d st1 a st' q
  | some (.exc c fs, st1), h, hm => exact h

/-- the readings -/
def tD (Γ : Gam) (W : WX) (de : De) : TE := fun σ H Q => ∃ m ls st, StR Γ m st H ∧ LsR Γ m st.length H ls σ ∧ Res Γ m st.length H (de ls st) Q (fun c d H' => W c d σ H')
structure Sim (X : Cx) (Γ : Gam) (W : WX) (e : Expr) (de : De) : Prop where
  mono : Mono de
  pe : PE X e (tD Γ W de)
theorem _root_.L2.PE.imp {X : Cx} {e : Expr} {t t' : TE} (h : PE X e t) (q : ∀ σ H Q, t' σ H Q → t σ H Q) : PE X e t' := ⟨fun pins s σ H Q I w => h.run pins s σ H Q I (q σ H Q w)⟩
theorem _root_.L2.PT.imp {X : Cx} {e : Expr} {t t' : TT} (h : PT X e t) (q : ∀ σ H Q, t' σ H Q → t σ H Q) : PT X e t' := ⟨fun pins s σ H Q I w => h.run pins s σ H Q I (q σ H Q w)⟩
theorem _root_.L2.PW.imp {X : Cx} {e : Expr} {t t' : TT} (h : PW X e t) (q : ∀ σ H Q, t' σ H Q → t σ H Q) : PW X e t' := ⟨fun wh pins s σ H Q I w => h.run wh pins s σ H Q I (q σ H Q w)⟩
theorem _root_.L2.PA.imp {X : Cx} {es : List Expr} {t t' : TA} (h : PA X es t) (q : ∀ σ H Q, t' σ H Q → t σ H Q) : PA X es t' := ⟨fun pos pins s σ H Q I w => h.run pos pins s σ H Q I (q σ H Q w)⟩
theorem _root_.L2.PS.imp {X : Cx} {e : Stmt} {t t' : TS} (h : PS X e t) (q : ∀ D σ H, t' D σ H → t D σ H) : PS X e t' := ⟨fun pins s σ H D I w => h.run pins s σ H D I (q D σ H w)⟩
theorem _root_.L2.PSs.imp {X : Cx} {e : List Stmt} {t t' : TS} (h : PSs X e t) (q : ∀ D σ H, t' D σ H → t D σ H) : PSs X e t' := ⟨fun pins s σ H D I w => h.run pins s σ H D I (q D σ H w)⟩

/-! ### names, constants -/
def okD (d : D) (st : Sto) : Rt := some (.ok d, st)
def dVar (i : Nat) : De := fun ls st => match ls[i]? with | some (some d) => okD d st | _ => none
def dC (d : D) : De := fun _ st => okD d st
section
variable {X : Cx} {Γ : Gam} {W : WX} {e a b c : Expr} {da db dc : De} {pos : Pos}
theorem Res.ok {m : Nat → Addr} {st : Sto} {H : Hp} {d : D} {v : V} {Q : VK} {E : XK} (h : Res Γ m st.length H (okD d st) Q E) (s : StR Γ m st H) (r : Rv Γ.K m st.length H d v) : Q v H := h.2 m H v (Ext.refl _ _) (Keep.refl _) s r
theorem mono_var {i : Nat} : Mono (dVar i) := fun ls st r st' h => by
  unfold dVar at h
  split at h
  · cases h; exact Nat.le_refl _
  · cases h
theorem mono_c {d : D} : Mono (dC d) := fun ls st r st' h => by cases h; exact Nat.le_refl _
theorem sim_var {i : Nat} {x : Str} (hN : X.N[i]? = some x) (hv : Vis X.env.scope x) (hd : (x == ("__debug__" : Str)) = false) (hcd : (x == ("__classdict__" : Str)) = false) : Sim X Γ W (.Name x pos) (dVar i) := by
  refine ⟨mono_var, (pe_var hN hv hd hcd).imp fun σ H Q h => ?_⟩
  obtain ⟨m, ls, st, s, l, h⟩ := h
  unfold dVar at h
  split at h
  · rename_i d e
    obtain ⟨v, a, b⟩ := l.at_ i d e
    exact ⟨v, a, h.ok s b⟩
  · exact h.elim
theorem sim_int {i : Int} {j} : Sim X Γ W (.Constant (.int i) j pos) (dC (.int i)) := ⟨mono_c, pe_int.imp fun σ H Q ⟨m, ls, st, s, l, h⟩ => h.ok s (.int i)⟩
theorem sim_bl {i : Bool} {j} : Sim X Γ W (.Constant (.bool i) j pos) (dC (.bl i)) := ⟨mono_c, pe_bl.imp fun σ H Q ⟨m, ls, st, s, l, h⟩ => h.ok s (.bl i)⟩
theorem sim_str {i : Str} {j} : Sim X Γ W (.Constant (.str i) j pos) (dC (.str i)) := ⟨mono_c, pe_str.imp fun σ H Q ⟨m, ls, st, s, l, h⟩ => h.ok s (.str i)⟩
theorem sim_non {j} : Sim X Γ W (.Constant .none j pos) (dC .non) := ⟨mono_c, pe_non.imp fun σ H Q ⟨m, ls, st, s, l, h⟩ => h.ok s .non⟩
/-- a module's constant -/
theorem sim_glob {x : Str} {d : D} {v : V} {u : Value} (hg : Gl X x) (hm : X.mg x = some u) (r : RelV v u) (q : ∀ m L H, Rv Γ.K m L H d v) (hd : (x == ("__debug__" : Str)) = false) : Sim X Γ W (.Name x pos) (dC d) :=
  ⟨mono_c, (pe_glob hg hm r hd).imp fun σ H Q ⟨m, ls, st, s, l, h⟩ => h.ok s (q m st.length H)⟩

/-! ### two operands -/
def dBin (f : D → D → Sto → Rt) (da db : De) : De := fun ls st => bindR (da ls st) fun x st1 => bindR (db ls st1) fun y st2 => f x y st2
/-- an operation on data is the operation on values -/
def OpSim (Γ : Gam) (r : R2) (f : D → D → Sto → Rt) : Prop :=
  ∀ (m : Nat → Addr) (st : Sto) (H : Hp) (x y : V) (d e : D) (Q : VK) (E : XK), StR Γ m st H → Rv Γ.K m st.length H d x → Rv Γ.K m st.length H e y → Res Γ m st.length H (f d e st) Q E → r x y H Q
def MonoF2 (f : D → D → Sto → Rt) : Prop := ∀ d e st r st', f d e st = some (r, st') → st.length ≤ st'.length
theorem bindR_mono {r : Rt} {f : D → Sto → Rt} {n : Nat} (h : ∀ a st', r = some (a, st') → n ≤ st'.length) (hf : MonoF f) : ∀ a st', bindR r f = some (a, st') → n ≤ st'.length := fun a st' q => by
  match r, h, q with
  | some (.ok d, st1), h, q => exact Nat.le_trans (h _ _ rfl) (hf d st1 a st' q)
  | some (.exc c fs, st1), h, q => exact h _ _ q
theorem monoF_bind {f : D → Sto → Rt} {ls : Ls} {db : De} (mb : Mono db) (hf : MonoF f) : MonoF fun _ st1 => bindR (db ls st1) f := fun d st r st' q => bindR_mono (fun a s h => mb ls st a s h) hf r st' q
theorem mono_bin {f : D → D → Sto → Rt} (ma : Mono da) (mb : Mono db) (hf : MonoF2 f) : Mono (dBin f da db) := fun ls st r st' q =>
  bindR_mono (fun a s h => ma ls st a s h) (fun d s a s' h => bindR_mono (fun b z h => mb ls s b z h) (fun e s a s' h => hf d e s a s' h) a s' h) r st' q
theorem tD_bin {f : D → D → Sto → Rt} {r : R2} (ma : Mono da) (mb : Mono db) (hf : MonoF2 f) (ho : OpSim Γ r f) {σ : L2.St} {H : Hp} {Q : VK} (h : tD Γ W (dBin f da db) σ H Q) : tOp r (tD Γ W da) (tD Γ W db) σ H Q := by
  obtain ⟨m, ls, st, s, l, h⟩ := h
  refine ⟨m, ls, st, s, l, ?_⟩
  have h1 := Res.bind (r := da ls st) h (fun a st' q => ma ls st a st' q) (fun d s a s' q => bindR_mono (fun b z h => mb ls s b z h) (fun e s a s' h => hf d e s a s' h) a s' q)
  match da ls st, h1 with
  | some (.exc c fs, st'), h1 => exact h1
  | some (.ok d0, st0), ⟨hl0, h1⟩ =>
    refine ⟨hl0, fun m' H' v e k s' rv => ?_⟩
    obtain ⟨m1, d, st1, e1, k1, hl, s1, r1, h2⟩ := h1 m' H' v e k s' rv
    refine ⟨m1, ls, st1, s1, l.mono e1 hl k1, ?_⟩
    have h3 := Res.bind (r := db ls st1) h2 (fun a st' q => mb ls st1 a st' q) (fun e s a s' h => hf d e s a s' h)
    match db ls st1, h3 with
    | some (.exc c fs, st'), h3 => exact h3
    | some (.ok d0, st0), ⟨hl0, h3⟩ =>
      refine ⟨hl0, fun m' H' w e k s' rv => ?_⟩
      obtain ⟨m2, d2, st2, e2, k2, hl2, s2, r2, h4⟩ := h3 m' H' w e k s' rv
      exact ho m2 st2 H' v w d d2 Q _ s2 (r1.mono e2 hl2 k2) r2 h4
theorem sim_op {op : Operator} {r : R2} {f : D → D → Sto → Rt} (hr : OpR X (binaryOp op) r) (ho : OpSim Γ r f) (hf : MonoF2 f) (ha : Sim X Γ W a da) (hb : Sim X Γ W b db) : Sim X Γ W (.BinOp a op b pos) (dBin f da db) :=
  ⟨mono_bin ha.mono hb.mono hf, (pe_op hr ha.pe hb.pe).imp fun σ H Q h => tD_bin ha.mono hb.mono hf ho h⟩
theorem sim_cmp {op : CmpOp} {r : R2} {f : D → D → Sto → Rt} (hr : OpR X (compareOp op) r) (ho : OpSim Γ r f) (hf : MonoF2 f) (ha : Sim X Γ W a da) (hb : Sim X Γ W b db) (hm : behindInMarks op b = false) : Sim X Γ W (.Compare a [op] [b] pos) (dBin f da db) :=
  ⟨mono_bin ha.mono hb.mono hf, (pe_cmpR hr ha.pe hb.pe hm).imp fun σ H Q h => tD_bin ha.mono hb.mono hf ho h⟩
theorem sim_ix {r : R2} {f : D → D → Sto → Rt} (hr : IxR X r) (ho : OpSim Γ r f) (hf : MonoF2 f) (ha : Sim X Γ W a da) (hb : Sim X Γ W b db) (hs : PlainIx b) : Sim X Γ W (.Subscript a b pos) (dBin f da db) :=
  ⟨mono_bin ha.mono hb.mono hf, (pe_ix hr ha.pe hb.pe hs).imp fun σ H Q h => tD_bin ha.mono hb.mono hf ho h⟩
end
end MP
end
section
set_option maxRecDepth 100000
set_option maxHeartbeats 1000000
namespace MP
open PySem L2

/-! ### the store -/
def extM (m : Nat → Addr) (L : Nat) (p : Addr) : Nat → Addr := fun n => if n = L then p else m n
theorem extM_new {m : Nat → Addr} {L : Nat} {p : Addr} : extM m L p L = p := if_pos rfl
theorem extM_old {m : Nat → Addr} {L n : Nat} {p : Addr} (h : n ≠ L) : extM m L p n = m n := if_neg h
theorem extM_ext {m : Nat → Addr} {L : Nat} {p : Addr} : Ext m L (extM m L p) := fun n hn => extM_old (Nat.ne_of_lt hn)
section
variable {Γ : Gam} {m m' : Nat → Addr} {L L' : Nat} {H H' : Hp} {st : Sto} {p : Addr} {n : Nat} {c c' : Cell} {o u : HO} {l : List D}
theorem CellR.mono {a : Addr} (e : Ext m L m') (hL : L ≤ L') (k : Keep H H') (ha : ∀ o, H a = some o → H' a = some o) : ∀ {c : Cell}, CellR Γ m L H a c → CellR Γ m' L' H' a c
  | .lst true l, ⟨vs, h, r⟩ => ⟨vs, k.roL h, r.mono e hL k⟩
  | .lst false l, ⟨vs, h, r⟩ => ⟨vs, ha _ h, r.mono e hL k⟩
  | .ins c fs, ⟨dx, vs, h, r⟩ => ⟨dx, vs, ha _ h, FsR.mono (Γ := Γ) e hL k r⟩
  | .exc true c fs, ⟨d, h, r⟩ => ⟨d, h, r.mono e hL k⟩
  | .exc false _ _, _ => trivial
  | .dct ps, ⟨qs, h, r⟩ => ⟨qs, ha _ h, r.mono e hL k⟩
  | .rng _ _ _, h => ha _ h
  | .dki _, h => ha _ h
/-- a cell that may change stands at a tracked thing, no tuple, not frozen -/
theorem CellR.obj {a : Addr} (hc : CellR Γ m L H a c) (hm : c.mut = true) : ∃ u, H a = some u ∧ Plain u := by
  match c, hc, hm with
  | .lst true l, hc, hm => cases hm
  | .exc _ _ _, hc, hm => cases hm
  | .lst false l, ⟨vs, h, r⟩, _ => exact ⟨_, h, .lst⟩
  | .ins c fs, ⟨dx, vs, h, r⟩, _ => exact ⟨_, h, .ins⟩
  | .dct ps, ⟨qs, h, r⟩, _ => exact ⟨_, h, .dct⟩
  | .rng _ _ _, h, _ => exact ⟨_, h, .rng⟩
  | .dki _, h, _ => exact ⟨_, h, .dK⟩
theorem get_lt {α : Type} {l : List α} {n : Nat} {c : α} (h : l[n]? = some c) : n < l.length := (List.getElem?_eq_some_iff.mp h).1
theorem get_snoc {α : Type} {l : List α} {n : Nat} {c d : α} (h : (l ++ [d])[n]? = some c) : (n < l.length ∧ l[n]? = some c) ∨ (n = l.length ∧ c = d) := by
  by_cases hn : n < l.length
  · rw [List.getElem?_append_left hn] at h
    exact .inl ⟨hn, h⟩
  · rw [List.getElem?_append_right (by omega)] at h
    have z := get_lt h
    rw [List.length_singleton] at z
    have e : n - l.length = 0 := by omega
    rw [e] at h
    exact .inr ⟨by omega, by cases h; rfl⟩
/-- a new thing is laid -/
theorem StR.push (s : StR Γ m st H) (hp : H p = none) (hc : CellR Γ (extM m st.length p) (st.length + 1) (upd H p o) p c) : StR Γ (extM m st.length p) (st ++ [c]) (upd H p o) := by
  have hlen : (st ++ [c]).length = st.length + 1 := by rw [List.length_append, List.length_singleton]
  refine ⟨fun i d h => ?_, fun i j d e hi hj md me q => ?_, tabs_new hp s.tabs⟩
  · rw [hlen]
    rcases get_snoc h with ⟨hi, h⟩ | ⟨hi, e⟩
    · rw [extM_old (Nat.ne_of_lt hi)]
      exact (s.cell i d h).mono extM_ext (Nat.le_succ _) (.new hp) fun o q => by rw [upd_ne (ne_of_none q hp)]; exact q
    · subst hi e
      rw [extM_new]
      exact hc
  · have fr : ∀ {k : Nat} {x : Cell}, st[k]? = some x → x.mut = true → m k ≠ p := fun {k x} hk mx z => by
      obtain ⟨u, e, _⟩ := (s.cell k x hk).obj mx
      rw [z, hp] at e
      cases e
    rcases get_snoc hi with ⟨hi', h1⟩ | ⟨hi', e1⟩
    · rcases get_snoc hj with ⟨hj', h2⟩ | ⟨hj', e2⟩
      · rw [extM_old (Nat.ne_of_lt hi'), extM_old (Nat.ne_of_lt hj')] at q
        exact s.inj i j d e h1 h2 md me q
      · subst hj'
        rw [extM_old (Nat.ne_of_lt hi'), extM_new] at q
        exact absurd q (fr h1 md)
    · rcases get_snoc hj with ⟨hj', h2⟩ | ⟨hj', e2⟩
      · subst hi'
        rw [extM_old (Nat.ne_of_lt hj'), extM_new] at q
        exact absurd q.symm (fr h2 me)
      · rw [hi', hj']
/-- a thing is changed -/
theorem StR.put (s : StR Γ m st H) (hn : st[n]? = some c) (mc : c.mut = true) (mc' : c'.mut = true) (hc : CellR Γ m st.length (upd H (m n) o) (m n) c') : StR Γ m (st.set n c') (upd H (m n) o) := by
  obtain ⟨u, hu, n1⟩ := (s.cell n c hn).obj mc
  have hl : (st.set n c').length = st.length := List.length_set
  have old : ∀ {i : Nat} {d : Cell}, (st.set n c')[i]? = some d → i ≠ n → st[i]? = some d := fun {i d} h hi => by
    rw [List.getElem?_set_ne (Ne.symm hi)] at h
    exact h
  have new : ∀ {d : Cell}, (st.set n c')[n]? = some d → d = c' := fun {d} h => by
    rw [List.getElem?_set_self (get_lt hn)] at h
    cases h
    rfl
  refine ⟨fun i d h => ?_, fun i j d e hi hj md me q => ?_, tabs_put hu n1 s.tabs⟩
  · rw [hl]
    by_cases hi : i = n
    · subst hi
      rw [new h]
      exact hc
    · have h0 := old h hi
      have r := s.cell i d h0
      by_cases md : d.mut = true
      · refine r.mono (Ext.refl _ _) (Nat.le_refl _) (.put hu n1) fun o q => ?_
        rw [upd_ne (fun z => hi (s.inj i n d c h0 hn md mc z))]
        exact q
      · match d, md, r with
        | .lst true l, _, ⟨vs, h, r⟩ => exact ⟨vs, (Keep.put hu n1).roL h, r.mono (Ext.refl _ _) (Nat.le_refl _) (.put hu n1)⟩
        | .exc true _ _, _, ⟨d, h, r⟩ => exact ⟨d, h, r.mono (Ext.refl _ _) (Nat.le_refl _) (.put hu n1)⟩
        | .exc false _ _, _, _ => exact trivial
        | .lst false l, md, _ => exact absurd rfl md
        | .ins _ _, md, _ => exact absurd rfl md
        | .dct _, md, _ => exact absurd rfl md
        | .rng _ _ _, md, _ => exact absurd rfl md
        | .dki _, md, _ => exact absurd rfl md
  · by_cases hi' : i = n
    · by_cases hj' : j = n
      · rw [hi', hj']
      · rw [hi'] at q
        exact hi'.trans (s.inj n j c e hn (old hj hj') mc me q)
    · by_cases hj' : j = n
      · rw [hj'] at q
        exact (s.inj i n d c (old hi hi') hn md mc q).trans hj'.symm
      · exact s.inj i j d e (old hi hi') (old hj hj') md me q
theorem StR.list {ro : Bool} (s : StR Γ m st H) (h : st[n]? = some (.lst ro l)) : ∃ vs, SqL Γ.K H (m n) vs ∧ RvL Γ.K m st.length H l vs := by
  have q := s.cell n _ h
  match ro, q with
  | true, ⟨vs, a, r⟩ => exact ⟨vs, a.sq, r⟩
  | false, ⟨vs, a, r⟩ => exact ⟨vs, SqL.of a, r⟩
theorem StR.lst (s : StR Γ m st H) (h : st[n]? = some (.lst false l)) : ∃ vs, H (m n) = some (.lst vs) ∧ RvL Γ.K m st.length H l vs := s.cell n _ h
end

/-! ### giving back -/
section
variable {Γ : Gam} {m : Nat → Addr} {st : Sto} {H : Hp} {Q : VK} {E : XK} {p : Addr}
/-- a new tuple -/
theorem Res.tupN {ds : List D} {vs : List V} (h : Res Γ m st.length H (okD (.tup ds) st) Q E) (s : StR Γ m st H) (r : RvL Γ.K m st.length H ds vs) (hp : H p = none) : Q (.ref p) (upd H p (.tup vs)) := by
  have k : Keep H (upd H p (.tup vs)) := .new hp
  have z : Rv Γ.K m st.length (upd H p (.tup vs)) (.tup ds) (.ref p) := Rv.tup (.inl (.inl upd_same)) (r.mono (Ext.refl _ _) (Nat.le_refl _) k)
  refine h.2 m _ _ (Ext.refl _ _) k ?_ z
  refine ⟨fun i c hi => ?_, s.inj, tabs_new hp s.tabs⟩
  exact (s.cell i c hi).mono (Ext.refl _ _) (Nat.le_refl _) k fun o q => by rw [upd_ne (ne_of_none q hp)]; exact q
/-- a new list -/
def okL (l : List D) (st : Sto) : Rt := some (.ok (.obj st.length), st ++ [.lst false l])
theorem Res.lstN {ds : List D} {vs : List V} (h : Res Γ m st.length H (okL ds st) Q E) (s : StR Γ m st H) (r : RvL Γ.K m st.length H ds vs) (hp : H p = none) : Q (.ref p) (upd H p (.lst vs)) := by
  have k : Keep H (upd H p (.lst vs)) := .new hp
  have e : Ext m st.length (extM m st.length p) := extM_ext
  have q := h.2 (extM m st.length p) (upd H p (.lst vs)) (.ref p) e k (s.push hp ⟨vs, upd_same, r.mono e (Nat.le_succ _) k⟩)
  refine q ?_
  have hl : (st ++ [Cell.lst false ds]).length = st.length + 1 := by rw [List.length_append, List.length_singleton]
  have z := Rv.obj (K := Γ.K) (m := extM m st.length p) (H := upd H p (.lst vs)) (n := st.length) (L := st.length + 1) (Nat.lt_succ_self _)
  rw [extM_new] at z
  rw [hl]
  exact z
/-- a thing is changed -/
theorem Res.putN {n : Nat} {c c' : Cell} {o : HO} {d : D} {v : V} (h : Res Γ m st.length H (some (.ok d, st.set n c')) Q E) (s : StR Γ m st H) (hn : st[n]? = some c) (mc : c.mut = true) (mc' : c'.mut = true)
    (hc : Keep H (upd H (m n) o) → CellR Γ m st.length (upd H (m n) o) (m n) c') (hd : Rv Γ.K m st.length H d v) : Q v (upd H (m n) o) := by
  obtain ⟨u, hu, n1⟩ := (s.cell n c hn).obj mc
  have k : Keep H (upd H (m n) o) := .put hu n1
  refine h.2 m _ v (Ext.refl _ _) k (s.put hn mc mc' (hc k)) ?_
  rw [List.length_set]
  exact hd.mono (Ext.refl _ _) (Nat.le_refl _) k
end
theorem mono_ok {d : D} {st : Sto} {r : Rs} {st' : Sto} (h : okD d st = some (r, st')) : st.length ≤ st'.length := by
  cases h
  exact Nat.le_refl _
theorem mono_okL {l : List D} {st : Sto} {r : Rs} {st' : Sto} (h : okL l st = some (r, st')) : st.length ≤ st'.length := by
  cases h
  rw [List.length_append]
  exact Nat.le_add_right _ _
theorem mono_put {d : D} {st : Sto} {n : Nat} {c : Cell} {r : Rs} {st' : Sto} (h : (some (.ok d, st.set n c) : Rt) = some (r, st')) : st.length ≤ st'.length := by
  cases h
  rw [List.length_set]
  exact Nat.le_refl _
/-- lists and tuples that are made have at most so many items -/
def LINE : Nat := 1000000
theorem line_le {n : Nat} (h : n ≤ LINE) : n ≤ sizeLine := Nat.le_trans h (by decide)
theorem line_lt {n : Nat} (h : n < LINE) : n < sizeLine := Nat.lt_of_lt_of_le h (by decide)
def small (n : Nat) : Bool := decide (n ≤ LINE)
theorem small_le {n : Nat} (h : small n = true) : n ≤ sizeLine := line_le (of_decide_eq_true h)

/-! ### ints -/
def iBin (g : Int → Int → Option D) : D → D → Sto → Rt
  | .int i, .int j, st => match g i j with | some d => okD d st | none => none
  | _, _, _ => none
theorem monoF2_iBin {g : Int → Int → Option D} : MonoF2 (iBin g) := fun d e st r st' h => by
  unfold iBin at h
  split at h
  · split at h
    · exact mono_ok h
    · cases h
  · cases h
end MP
end
section
set_option maxRecDepth 100000
set_option maxHeartbeats 1000000
namespace MP
open PySem L2

/-! ### operators on data -/
def fAdd : D → D → Sto → Rt
  | .int i, .int j, st => okD (.int (i + j)) st
  | .str a, .str b, st => if small (a.length + b.length) then okD (.str (a ++ b)) st else none
  | .tup a, .tup b, st => if small (a.length + b.length) then okD (.tup (a ++ b)) st else none
  | .obj i, .obj j, st => match st[i]?, st[j]? with
    | some (.lst false a), some (.lst false b) => if small (a.length + b.length) then okL (a ++ b) st else none
    | _, _ => none
  | _, _, _ => none
def fSub : D → D → Sto → Rt
  | .int i, .int j, st => okD (.int (i - j)) st
  | _, _, _ => none
def mulOk (i j : Int) : Bool := (decide (-(2 ^ 64) < i) && decide (i < 2 ^ 64)) || (decide (-(2 ^ 64) < j) && decide (j < 2 ^ 64))
def fMul : D → D → Sto → Rt
  | .int i, .int j, st => if mulOk i j then okD (.int (i * j)) st else none
  | _, _, _ => none
def fDiv : D → D → Sto → Rt
  | .int i, .int j, st => if 0 < j ∧ j < 1073741824 then okD (.int (i / j)) st else none
  | _, _, _ => none
def fMod : D → D → Sto → Rt
  | .int i, .int j, st => if 0 < j then okD (.int (i % j)) st else none
  | _, _, _ => none
def fPow : D → D → Sto → Rt
  | .int i, .int j, st => if 0 ≤ j ∧ j ≤ 1000000 ∧ i.natAbs < 2 ^ 64 then okD (.int (i ^ j.toNat)) st else none
  | _, _, _ => none
def intsOf : List D → Option (List Int)
  | [] => some []
  | .int i :: r => match intsOf r with | some l => some (i :: l) | none => none
  | _ :: _ => none
def fLt : D → D → Sto → Rt
  | .int i, .int j, st => okD (.bl (decide (i < j))) st
  | .tup a, .tup b, st => match intsOf a, intsOf b with | some x, some y => okD (.bl (HT.lexLt x y)) st | _, _ => none
  | _, _, _ => none
def fLe : D → D → Sto → Rt
  | .int i, .int j, st => okD (.bl (decide (i ≤ j))) st
  | _, _, _ => none
def fGt : D → D → Sto → Rt
  | .int i, .int j, st => okD (.bl (decide (j < i))) st
  | _, _, _ => none
def fGe : D → D → Sto → Rt
  | .int i, .int j, st => okD (.bl (decide (j ≤ i))) st
  | _, _, _ => none
def isNon : D → Bool
  | .non => true
  | _ => false
def fIs : D → D → Sto → Rt
  | d, .non, st => okD (.bl (isNon d)) st
  | _, _, _ => none
def fIsNot : D → D → Sto → Rt
  | d, .non, st => okD (.bl (!isNon d)) st
  | _, _, _ => none
def mapO {α β : Type} (f : α → Option β) : List α → Option (List β)
  | [] => some []
  | a :: r => match f a, mapO f r with
    | some b, some l => some (b :: l)
    | _, _ => none
def toP (st : Sto) : Nat → D → Option PyData
  | 0, _ => none
  | _ + 1, .non => some .none
  | _ + 1, .bl b => some (.bool b)
  | _ + 1, .int i => some (.int i)
  | _ + 1, .str s => some (.str s)
  | n + 1, .tup l => match mapO (toP st n) l with | some ps => some (.tuple ps) | none => none
  | n + 1, .obj k => match st[k]? with
    | some (.lst _ l) => match mapO (toP st n) l with | some ps => some (.list ps) | none => none
    | _ => none
/-- so deep data are compared -/
def DEEP : Nat := 8
def eqD (st : Sto) (d e : D) : Option Bool := match toP st DEEP d, toP st DEEP e with
  | some p, some q => if SeqAt.shaped p && SeqAt.shaped q then some (PyData.eqv p q) else none
  | _, _ => none
def fEq (d e : D) (st : Sto) : Rt := match eqD st d e with | some b => okD (.bl b) st | none => none
def fNe (d e : D) (st : Sto) : Rt := match eqD st d e with | some b => okD (.bl (!b)) st | none => none
def fIx : D → D → Sto → Rt
  | .tup l, .int i, st => match atI l i with | some d => okD d st | none => none
  | .obj n, .int i, st => match st[n]? with
    | some (.lst _ l) => match atI l i with | some d => okD d st | none => none
    | _ => none
  | .str z, .int i, st => if small z.length then match atI z.cps.toList i with | some c => okD (.str ⟨#[c]⟩) st | none => none else none
  | _, _, _ => none

/-! never less -/
theorem mono_fAdd : MonoF2 fAdd := by
  intro d e st r st' h
  unfold fAdd at h
  repeat' (split at h)
  all_goals first | exact mono_ok h | exact mono_okL h | cases h
theorem mono_fSub : MonoF2 fSub := by
  intro d e st r st' h
  unfold fSub at h
  repeat' (split at h)
  all_goals first | exact mono_ok h | exact mono_okL h | cases h
theorem mono_fMul : MonoF2 fMul := by
  intro d e st r st' h
  unfold fMul at h
  repeat' (split at h)
  all_goals first | exact mono_ok h | exact mono_okL h | cases h
theorem mono_fDiv : MonoF2 fDiv := by
  intro d e st r st' h
  unfold fDiv at h
  repeat' (split at h)
  all_goals first | exact mono_ok h | exact mono_okL h | cases h
theorem mono_fMod : MonoF2 fMod := by
  intro d e st r st' h
  unfold fMod at h
  repeat' (split at h)
  all_goals first | exact mono_ok h | exact mono_okL h | cases h
theorem mono_fPow : MonoF2 fPow := by
  intro d e st r st' h
  unfold fPow at h
  repeat' (split at h)
  all_goals first | exact mono_ok h | exact mono_okL h | cases h
theorem mono_fLt : MonoF2 fLt := by
  intro d e st r st' h
  unfold fLt at h
  repeat' (split at h)
  all_goals first | exact mono_ok h | exact mono_okL h | cases h
theorem mono_fLe : MonoF2 fLe := by
  intro d e st r st' h
  unfold fLe at h
  repeat' (split at h)
  all_goals first | exact mono_ok h | exact mono_okL h | cases h
theorem mono_fGt : MonoF2 fGt := by
  intro d e st r st' h
  unfold fGt at h
  repeat' (split at h)
  all_goals first | exact mono_ok h | exact mono_okL h | cases h
theorem mono_fGe : MonoF2 fGe := by
  intro d e st r st' h
  unfold fGe at h
  repeat' (split at h)
  all_goals first | exact mono_ok h | exact mono_okL h | cases h
theorem mono_fIs : MonoF2 fIs := by
  intro d e st r st' h
  unfold fIs at h
  repeat' (split at h)
  all_goals first | exact mono_ok h | exact mono_okL h | cases h
theorem mono_fIsNot : MonoF2 fIsNot := by
  intro d e st r st' h
  unfold fIsNot at h
  repeat' (split at h)
  all_goals first | exact mono_ok h | exact mono_okL h | cases h
theorem mono_fEq : MonoF2 fEq := by
  intro d e st r st' h
  unfold fEq at h
  repeat' (split at h)
  all_goals first | exact mono_ok h | exact mono_okL h | cases h
theorem mono_fNe : MonoF2 fNe := by
  intro d e st r st' h
  unfold fNe at h
  repeat' (split at h)
  all_goals first | exact mono_ok h | exact mono_okL h | cases h
theorem mono_fIx : MonoF2 fIx := by
  intro d e st r st' h
  unfold fIx at h
  repeat' (split at h)
  all_goals first | exact mono_ok h | exact mono_okL h | cases h

section
variable {Γ : Gam} {m : Nat → Addr} {L : Nat} {H : Hp} {st : Sto}
theorem intsOf_vals : ∀ {ds : List D} {vs : List V} {ns : List Int}, RvL Γ.K m L H ds vs → intsOf ds = some ns → vs = ns.map V.int
  | [], _, ns, .nil, h => by cases h; rfl
  | .int i :: r, _, ns, .cons q rs, h => by
    unfold intsOf at h
    split at h
    · rename_i l e
      cases h
      cases q
      rw [intsOf_vals rs e]
      rfl
    · cases h
  | .non :: _, _, _, _, h => by cases h
  | .bl _ :: _, _, _, _, h => by cases h
  | .str _ :: _, _, _, _, h => by cases h
  | .tup _ :: _, _, _, _, h => by cases h
  | .obj _ :: _, _, _, _, h => by cases h
theorem mapO_cons {α β : Type} {f : α → Option β} {a : α} {r : List α} {l : List β} (h : mapO f (a :: r) = some l) : ∃ b t, f a = some b ∧ mapO f r = some t ∧ l = b :: t := by
  unfold mapO at h
  split at h
  · rename_i b t e1 e2
    cases h
    exact ⟨b, t, e1, e2, rfl⟩
  · cases h
theorem dpAll_of {n : Nat} (ih : ∀ {d : D} {v : V} {p : PyData}, toP st n d = some p → Rv Γ.K m st.length H d v → Dp Γ.K H v p) : ∀ {ds : List D} {vs : List V} {ps : List PyData}, mapO (toP st n) ds = some ps → RvL Γ.K m st.length H ds vs → DpAll Γ.K H vs ps
  | [], _, _, h, .nil => by cases h; exact .nil
  | d :: ds, _, _, h, .cons r rs => by
    obtain ⟨b, t, e1, e2, e3⟩ := mapO_cons h
    subst e3
    exact .cons (ih e1 r) (dpAll_of ih e2 rs)
theorem Rv.dp (s : StR Γ m st H) : ∀ (n : Nat) {d : D} {v : V} {p : PyData}, toP st n d = some p → Rv Γ.K m st.length H d v → Dp Γ.K H v p
  | 0, d, _, _, h, _ => by cases h
  | n + 1, .non, _, _, h, .non => by cases h; exact .non
  | n + 1, .bl b, _, _, h, .bl _ => by cases h; exact .bl b
  | n + 1, .int b, _, _, h, .int _ => by cases h; exact .int b
  | n + 1, .str b, _, _, h, .str _ => by cases h; exact .str b
  | n + 1, .tup l, _, _, h, .tup a r => by
    unfold toP at h
    split at h
    · rename_i ps e
      cases h
      exact .tup a (dpAll_of (Rv.dp s n) e r)
    · cases h
  | n + 1, .obj k, _, _, h, .obj hk => by
    unfold toP at h
    split at h
    · rename_i ro l e0
      split at h
      · rename_i ps e
        cases h
        obtain ⟨vs, a, r⟩ := s.list e0
        exact .lst a (dpAll_of (Rv.dp s n) e r)
      · cases h
    · cases h
end

/-! the readings of the operators -/
section
variable {Γ : Gam}
abbrev rAddD (K : PySem.W.Frag) : R2 := fun x y H Q => (rI0 fun i j => .int (i + j)) x y H Q ∨ ((∃ i j, x = .str i ∧ y = .str j ∧ i.length + j.length ≤ sizeLine ∧ Q (.str (i ++ j)) H) ∨ (rCatA K x y H Q ∨ rCat x y H Q))
theorem op_addD {X : Cx} : OpR X (binaryOp .Add) (rAddD X.K) := op_add.or (op_add_str.or (op_catA.or op_cat))
theorem os_add : OpSim Γ (rAddD Γ.K) fAdd := fun
  | m, st, H, _, _, .int i, .int j, Q, E, s, .int _, .int _, h => .inl ⟨i, j, rfl, rfl, h.ok s (.int _)⟩
  | m, st, H, _, _, .str i, .str j, Q, E, s, .str _, .str _, h => by
    dsimp only [fAdd] at h
    split at h
    · rename_i z
      exact .inr (.inl ⟨i, j, rfl, rfl, small_le z, h.ok s (.str _)⟩)
    · exact h.elim
  | m, st, H, _, _, .tup a, .tup b, Q, E, s, .tup (a := p) (vs := xs) h1 r1, .tup (a := q) (vs := ys) h2 r2, h => by
    dsimp only [fAdd] at h
    split at h
    · rename_i z
      refine .inr (.inr (.inl ⟨p, q, xs, ys, rfl, rfl, h1, h2, by rw [← r1.length, ← r2.length]; exact small_le z, fun e => ?_, fun _ e => ?_, fun _ _ t ht => ?_⟩))
      · subst e
        cases r1
        exact h.ok s (.tup h2 r2)
      · subst e
        cases r2
        rw [List.append_nil] at h
        exact h.ok s (.tup h1 r1)
      · exact h.tupN s (r1.app r2) ht
    · exact h.elim
  | m, st, H, _, _, .obj i, .obj j, Q, E, s, .obj hi, .obj hj, h => by
    dsimp only [fAdd] at h
    split at h
    · rename_i a b e1 e2
      split at h
      · rename_i z
        obtain ⟨xs, a1, r1⟩ := s.lst e1
        obtain ⟨ys, a2, r2⟩ := s.lst e2
        exact .inr (.inr (.inr ⟨m i, m j, xs, ys, rfl, rfl, a1, a2, by rw [← r1.length, ← r2.length]; exact small_le z, fun p hp => h.lstN s (r1.app r2) hp⟩))
      · exact h.elim
    · exact h.elim
theorem os_sub : OpSim Γ (rI0 fun i j => .int (i - j)) fSub := fun
  | m, st, H, _, _, .int i, .int j, Q, E, s, .int _, .int _, h => ⟨i, j, rfl, rfl, h.ok s (.int _)⟩
theorem mulOk_c {i j : Int} (h : mulOk i j = true) : CMul i j := by
  unfold mulOk at h
  simp only [Bool.or_eq_true, Bool.and_eq_true, decide_eq_true_eq] at h
  exact h
theorem os_mul : OpSim Γ (rI CMul fun i j => .int (i * j)) fMul := fun
  | m, st, H, _, _, .int i, .int j, Q, E, s, .int _, .int _, h => by
    dsimp only [fMul] at h
    split at h
    · rename_i z
      exact ⟨i, j, rfl, rfl, mulOk_c z, h.ok s (.int _)⟩
    · exact h.elim
theorem os_div : OpSim Γ (rI CDiv fun i j => .int (i / j)) fDiv := fun
  | m, st, H, _, _, .int i, .int j, Q, E, s, .int _, .int _, h => by
    dsimp only [fDiv] at h
    split at h
    · rename_i z
      exact ⟨i, j, rfl, rfl, z, h.ok s (.int _)⟩
    · exact h.elim
theorem os_mod : OpSim Γ (rI (fun _ j => 0 < j) fun i j => .int (i % j)) fMod := fun
  | m, st, H, _, _, .int i, .int j, Q, E, s, .int _, .int _, h => by
    dsimp only [fMod] at h
    split at h
    · rename_i z
      exact ⟨i, j, rfl, rfl, z, h.ok s (.int _)⟩
    · exact h.elim
theorem os_pow : OpSim Γ (rI CPow fun i j => .int (i ^ j.toNat)) fPow := fun
  | m, st, H, _, _, .int i, .int j, Q, E, s, .int _, .int _, h => by
    dsimp only [fPow] at h
    split at h
    · rename_i z
      exact ⟨i, j, rfl, rfl, z, h.ok s (.int _)⟩
    · exact h.elim
abbrev rLtD (K : PySem.W.Frag) : R2 := fun x y H Q => (rI0 fun i j => .bl (decide (i < j))) x y H Q ∨ rLtT K x y H Q
theorem op_ltD {X : Cx} (hu : X.A.units < cLine) : OpR X (compareOp .Lt) (rLtD X.K) := op_lt.or (op_ltT hu)
theorem os_lt : OpSim Γ (rLtD Γ.K) fLt := fun
  | m, st, H, _, _, .int i, .int j, Q, E, s, .int _, .int _, h => .inl ⟨i, j, rfl, rfl, h.ok s (.bl _)⟩
  | m, st, H, _, _, .tup a, .tup b, Q, E, s, .tup (a := p) (vs := xs) h1 r1, .tup (a := q) (vs := ys) h2 r2, h => by
    dsimp only [fLt] at h
    split at h
    · rename_i ns ms e1 e2
      rw [intsOf_vals r1 e1] at h1
      rw [intsOf_vals r2 e2] at h2
      exact .inr ⟨p, q, ns, ms, rfl, rfl, h1, h2, h.ok s (.bl _)⟩
    · exact h.elim
theorem os_le : OpSim Γ (rI0 fun i j => .bl (decide (i ≤ j))) fLe := fun
  | m, st, H, _, _, .int i, .int j, Q, E, s, .int _, .int _, h => ⟨i, j, rfl, rfl, h.ok s (.bl _)⟩
theorem os_gt : OpSim Γ (rI0 fun i j => .bl (decide (j < i))) fGt := fun
  | m, st, H, _, _, .int i, .int j, Q, E, s, .int _, .int _, h => ⟨i, j, rfl, rfl, h.ok s (.bl _)⟩
theorem os_ge : OpSim Γ (rI0 fun i j => .bl (decide (j ≤ i))) fGe := fun
  | m, st, H, _, _, .int i, .int j, Q, E, s, .int _, .int _, h => ⟨i, j, rfl, rfl, h.ok s (.bl _)⟩
theorem Rv.isNon {m : Nat → Addr} {L : Nat} {H : Hp} {d : D} {x : V} (r : Rv Γ.K m L H d x) : decide (x = .non) = isNon d := by
  cases r <;> first | rfl | exact decide_eq_false (fun z => by cases z)
theorem os_is : OpSim Γ (fun x y H Q => y = .non ∧ Q (.bl (decide (x = .non))) H) fIs := fun m st H x y d e Q E s rx ry h => by
  match e, ry, h with
  | .non, .non, h =>
    refine ⟨rfl, ?_⟩
    rw [rx.isNon]
    exact h.ok s (.bl _)
theorem os_isNot : OpSim Γ (fun x y H Q => y = .non ∧ Q (.bl (!decide (x = .non))) H) fIsNot := fun m st H x y d e Q E s rx ry h => by
  match e, ry, h with
  | .non, .non, h =>
    refine ⟨rfl, ?_⟩
    rw [rx.isNon]
    exact h.ok s (.bl _)
theorem os_eq : OpSim Γ (rEqD Γ.K) fEq := fun m st H x y d e Q E s rx ry h => by
  unfold fEq at h
  split at h
  · rename_i b z
    unfold eqD at z
    split at z
    · rename_i p q e1 e2
      split at z
      · rename_i hs
        cases z
        obtain ⟨s1, s2⟩ := Bool.and_eq_true_iff.mp hs
        exact ⟨p, q, rx.dp s DEEP e1, ry.dp s DEEP e2, s1, s2, h.ok s (.bl _)⟩
      · cases z
    · cases z
  · exact h.elim
theorem os_ne : OpSim Γ (rNeD Γ.K) fNe := fun m st H x y d e Q E s rx ry h => by
  unfold fNe at h
  split at h
  · rename_i b z
    unfold eqD at z
    split at z
    · rename_i p q e1 e2
      split at z
      · rename_i hs
        cases z
        obtain ⟨s1, s2⟩ := Bool.and_eq_true_iff.mp hs
        exact ⟨p, q, rx.dp s DEEP e1, ry.dp s DEEP e2, s1, s2, h.ok s (.bl _)⟩
      · cases z
    · cases z
  · exact h.elim
theorem RvL.atI {m : Nat → Addr} {L : Nat} {H : Hp} {ds : List D} {vs : List V} {i : Int} {d : D} (r : RvL Γ.K m L H ds vs) (h : atI ds i = some d) : ∃ v, L2.atI vs i = some v ∧ Rv Γ.K m L H d v := by
  unfold L2.atI at h ⊢
  rw [r.length] at h
  cases e : ixN vs.length i with
  | none =>
    rw [e] at h
    cases h
  | some j =>
    rw [e] at h
    exact r.get (i := j) h
theorem os_ix : OpSim Γ (rIx Γ.K) fIx := fun
  | m, st, H, _, _, .tup l, .int i, Q, E, s, .tup (a := p) (vs := xs) h1 r1, .int _, h => by
    dsimp only [fIx] at h
    split at h
    · rename_i z ez
      obtain ⟨v, hv, rv⟩ := r1.atI ez
      exact .inr (.inl ⟨p, xs, i, v, rfl, rfl, h1, hv, h.ok s rv⟩)
    · exact h.elim
  | m, st, H, _, _, .obj n, .int i, Q, E, s, .obj _, .int _, h => by
    dsimp only [fIx] at h
    split at h
    · rename_i ro l e0
      split at h
      · rename_i z ez
        obtain ⟨vs, a, r⟩ := s.list e0
        obtain ⟨v, hv, rv⟩ := r.atI ez
        exact .inl ⟨m n, vs, i, v, rfl, rfl, a, hv, h.ok s rv⟩
      · exact h.elim
    · exact h.elim
  | m, st, H, _, _, .str z, .int i, Q, E, s, .str _, .int _, h => by
    dsimp only [fIx] at h
    split at h
    · rename_i hz
      split at h
      · rename_i c ec
        exact .inr (.inr ⟨z, i, c, rfl, rfl, small_le hz, ec, h.ok s (.str _)⟩)
      · exact h.elim
    · exact h.elim
end
end MP
end
section
set_option maxRecDepth 100000
set_option maxHeartbeats 1000000
namespace MP
open PySem L2

section
variable {X : Cx} {Γ : Gam} {W : WX} {e a b c o : Expr} {da db dc : De} {pos : Pos} {es rest : List Expr} {das : List De}
/-! ### tests -/
def QB (Q : Bool → Hp → Prop) : VK := fun v H => ∃ k, v = .bl k ∧ Q k H
def tT (Γ : Gam) (W : WX) (de : De) : TT := fun σ H Q => tD Γ W de σ H (QB Q)
structure SimT (X : Cx) (Γ : Gam) (W : WX) (e : Expr) (de : De) : Prop where
  mono : Mono de
  pt : PT X e (tT Γ W de)
structure SimW (X : Cx) (Γ : Gam) (W : WX) (e : Expr) (de : De) : Prop where
  mono : Mono de
  pw : PW X e (tT Γ W de)
theorem SimW.t (h : SimW X Γ W e da) : SimT X Γ W e da := ⟨h.mono, h.pw.pt⟩
theorem Sim.t (h : Sim X Γ W e da) (he : ∀ whole, isTrue e X.env whole = (do let v ← whole; standAt e.pos; holding [v] (truthy v))) : SimT X Γ W e da := ⟨h.mono, (pt_val h.pe he).imp fun σ H Q q => q⟩
theorem Res.imp {m : Nat → Addr} {L : Nat} {H : Hp} {r : Rt} {Q Q' : VK} {E : XK} (h : Res Γ m L H r Q E) (q : ∀ v H, Q v H → Q' v H) : Res Γ m L H r Q' E := by
  match r, h with
  | some (.ok d, st'), ⟨l, h⟩ => exact ⟨l, fun m' H' v e k s r => q _ _ (h m' H' v e k s r)⟩
  | some (.exc c fs, st'), h => exact h
/-- one operand -/
def dUn (f : D → Sto → Rt) (da : De) : De := fun ls st => bindR (da ls st) f
theorem mono_un {f : D → Sto → Rt} (ma : Mono da) (hf : MonoF f) : Mono (dUn f da) := fun ls st r st' q => bindR_mono (fun a s h => ma ls st a s h) hf r st' q
/-- run on: the value x of da, then what follows -/
theorem tD_bind {f : D → Sto → Rt} (ma : Mono da) {σ : L2.St} {H : Hp} {Q : VK} {ls : Ls} {m : Nat → Addr} {st : Sto} (s : StR Γ m st H) (l : LsR Γ m st.length H ls σ) (hf : MonoF f) (h : Res Γ m st.length H (bindR (da ls st) f) Q (fun c d H' => W c d σ H')) :
    tD Γ W da σ H (fun v H1 => ∃ m1 d st1, StR Γ m1 st1 H1 ∧ LsR Γ m1 st1.length H1 ls σ ∧ Rv Γ.K m1 st1.length H1 d v ∧ Res Γ m1 st1.length H1 (f d st1) Q (fun c d H' => W c d σ H') ∧ st.length ≤ st1.length ∧ Ext m st.length m1 ∧ Keep H H1) := by
  refine ⟨m, ls, st, s, l, (Res.bind h (fun a st' q => ma ls st a st' q) hf).imp fun v H1 ⟨m1, d, st1, e, k, hl, s1, r1, q⟩ => ⟨m1, d, st1, s1, l.mono e hl k, r1, q, hl, e, k⟩⟩
def truD : D → Sto → Option Bool
  | .non, _ => some false
  | .bl b, _ => some b
  | .int i, _ => some (i != 0)
  | .str z, _ => if small z.length then some ((z.length : Int) != 0) else none
  | .tup l, _ => some (!l.isEmpty)
  | .obj n, st => match st[n]? with
    | some (.lst _ l) => some (!l.isEmpty)
    | _ => none
def fTru (d : D) (st : Sto) : Rt := match truD d st with | some b => okD (.bl b) st | none => none
theorem mono_fTru : MonoF fTru := by
  intro d st r st' h
  unfold fTru at h
  split at h
  · exact mono_ok h
  · cases h
theorem RvL.isEmpty {m : Nat → Addr} {L : Nat} {H : Hp} : ∀ {ds : List D} {vs : List V}, RvL Γ.K m L H ds vs → ds.isEmpty = vs.isEmpty
  | _, _, .nil => rfl
  | _, _, .cons _ _ => rfl
theorem Rv.tru {m : Nat → Addr} {st : Sto} {H : Hp} (s : StR Γ m st H) : ∀ {d : D} {v : V} {b : Bool}, truD d st = some b → Rv Γ.K m st.length H d v → TruV Γ.K v H b
  | .non, _, b, h, .non => by cases h; rfl
  | .bl _, _, b, h, .bl _ => by cases h; rfl
  | .int _, _, b, h, .int _ => by cases h; rfl
  | .str z, _, b, h, .str _ => by
    dsimp only [truD] at h
    split at h
    · rename_i hz
      cases h
      exact ⟨small_le hz, rfl⟩
    · cases h
  | .tup l, _, b, h, .tup a r => by
    cases h
    exact .inr (.inl ⟨_, a, by rw [r.isEmpty]⟩)
  | .obj n, _, b, h, .obj _ => by
    dsimp only [truD] at h
    split at h
    · rename_i ro l e
      cases h
      obtain ⟨vs, a, r⟩ := s.list e
      exact .inl ⟨_, a, by rw [r.isEmpty]⟩
    · cases h
/-- the truth of any value -/
theorem sim_tru (hK : X.K = Γ.K) (h : Sim X Γ W e da) (he : ∀ whole, isTrue e X.env whole = (do let v ← whole; standAt e.pos; holding [v] (truthy v))) : SimT X Γ W e (dUn fTru da) := by
  refine ⟨mono_un h.mono mono_fTru, (pt_truth h.pe he).imp fun σ H Q ⟨m, ls, st, s, l, q⟩ => ?_⟩
  obtain ⟨m0, ls0, st0, s0, l0, q0⟩ := tD_bind h.mono s l mono_fTru q
  refine ⟨m0, ls0, st0, s0, l0, q0.imp fun v H1 ⟨m1, d, st1, s1, l1, r1, q1, _⟩ => ?_⟩
  unfold fTru at q1
  split at q1
  · rename_i k ek
    refine ⟨k, by rw [hK]; exact r1.tru s1 ek, ?_⟩
    obtain ⟨k', e', q'⟩ := q1.ok s1 (.bl k)
    cases e'
    exact q'
  · exact q1.elim
theorem simT_cmp {op : CmpOp} {r : R2} {f : D → D → Sto → Rt} (hr : OpR X (compareOp op) r) (ho : OpSim Γ r f) (hf : MonoF2 f) (ha : Sim X Γ W a da) (hb : Sim X Γ W b db) (hm : behindInMarks op b = false) : SimT X Γ W (.Compare a [op] [b] pos) (dBin f da db) :=
  ⟨mono_bin ha.mono hb.mono hf, (pt_cmpR hr ha.pe hb.pe hm).imp fun σ H Q h => tD_bin ha.mono hb.mono hf ho h⟩
/-! a op b op' c -/
def fCh (g : D → D → Sto → Rt) (dc : De) (ls : Ls) (y : D) : D → Sto → Rt
  | .bl true, st3 => bindR (dc ls st3) fun w st4 => g y w st4
  | .bl false, st3 => okD (.bl false) st3
  | _, _ => none
def dChain (f g : D → D → Sto → Rt) (da db dc : De) : De := fun ls st => bindR (da ls st) fun x st1 => bindR (db ls st1) fun y st2 => bindR (f x y st2) (fCh g dc ls y)
theorem mono_fCh {g : D → D → Sto → Rt} {ls : Ls} {y : D} (mc : Mono dc) (mg : MonoF2 g) : MonoF (fCh g dc ls y) := by
  intro d st r st' h
  unfold fCh at h
  split at h
  · exact bindR_mono (fun a s h => mc ls _ a s h) (fun w s a s' h => mg y w s a s' h) r st' h
  · exact mono_ok h
  · cases h
theorem mono_chain {f g : D → D → Sto → Rt} (ma : Mono da) (mb : Mono db) (mc : Mono dc) (mf : MonoF2 f) (mg : MonoF2 g) : Mono (dChain f g da db dc) := fun ls st r st' q =>
  bindR_mono (fun a s h => ma ls st a s h) (fun x s a s' h => bindR_mono (fun b z h => mb ls s b z h) (fun y s a s' h => bindR_mono (fun b z h => mf x y s b z h) (mono_fCh mc mg) a s' h) a s' h) r st' q
/-- the operation's answer handed on -/
def OpSimK (Γ : Gam) (r : R2) (f : D → D → Sto → Rt) : Prop :=
  ∀ (m : Nat → Addr) (st : Sto) (H : Hp) (x y : V) (d e : D) (Q : VK) (E : XK), StR Γ m st H → Rv Γ.K m st.length H d x → Rv Γ.K m st.length H e y → Res Γ m st.length H (f d e st) Q E → r x y H Q
theorem tD_chain {f g : D → D → Sto → Rt} {r r' : R2} (ma : Mono da) (mb : Mono db) (mc : Mono dc) (mf : MonoF2 f) (mg : MonoF2 g) (ho : OpSim Γ r f) (ho' : OpSim Γ r' g) {σ : L2.St} {H : Hp} {Q : VK} (h : tD Γ W (dChain f g da db dc) σ H Q) :
    tChain r r' (tD Γ W da) (tD Γ W db) (tD Γ W dc) σ H Q := by
  obtain ⟨m, ls, st, s, l, h⟩ := h
  have mfc : ∀ y, MonoF (fCh g dc ls y) := fun y => mono_fCh mc mg
  have mf3 : ∀ x y, MonoF fun d st => bindR (f x y st) (fCh g dc ls y) := fun x y d s a s' h => bindR_mono (fun b z h => mf x y s b z h) (mfc y) a s' h
  obtain ⟨m0, ls0, st0, s0, l0, q0⟩ := tD_bind (f := fun x st1 => bindR (db ls st1) fun y st2 => bindR (f x y st2) (fCh g dc ls y)) ma s l (fun x s a s' h => bindR_mono (fun b z h => mb ls s b z h) (fun y s a s' h => bindR_mono (fun b z h => mf x y s b z h) (mfc y) a s' h) a s' h) h
  refine ⟨m0, ls0, st0, s0, l0, q0.imp fun x H1 ⟨m1, d1, st1, s1, l1, r1, q1, _⟩ => ?_⟩
  obtain ⟨m0, ls0, st0, s0, l0, q0⟩ := tD_bind (f := fun y st2 => bindR (f d1 y st2) (fCh g dc ls y)) mb s1 l1 (fun y s a s' h => bindR_mono (fun b z h => mf d1 y s b z h) (mfc y) a s' h) q1
  refine ⟨m0, ls0, st0, s0, l0, q0.imp fun y H2 ⟨m2, d2, st2, s2, l2, r2, q2, hl2, e2, k2⟩ => ?_⟩
  have r1' := r1.mono e2 hl2 k2
  have z := Res.bind (r := f d1 d2 st2) q2 (fun a st' q => mf d1 d2 st2 a st' q) (mfc d2)
  refine ho m2 st2 H2 x y d1 d2 _ _ s2 r1' r2 (z.imp fun v H3 ⟨m3, d3, st3, e3, k3, hl3, s3, r3, q3⟩ => ?_)
  unfold fCh at q3
  split at q3
  · cases r3
    refine ⟨true, rfl, iteT ?_⟩
    obtain ⟨m0, ls0, st0, s0, l0, q0⟩ := tD_bind (f := fun w st4 => g d2 w st4) mc s3 (l2.mono e3 hl3 k3) (fun w s a s' h => mg d2 w s a s' h) q3
    refine ⟨m0, ls0, st0, s0, l0, q0.imp fun w H4 ⟨m4, d4, st4, s4, l4, r4, q4, hl4, e4, k4⟩ => ?_⟩
    exact ho' m4 st4 H4 y w d2 d4 _ _ s4 ((r2.mono e3 hl3 k3).mono e4 hl4 k4) r4 q4
  · cases r3
    exact ⟨false, rfl, iteF (q3.ok s3 (.bl false))⟩
  · exact q3.elim
theorem sim_chain {op op' : CmpOp} {f g : D → D → Sto → Rt} {r r' : R2} (hr : OpR X (compareOp op) r) (hr' : OpR X (compareOp op') r') (ho : OpSim Γ r f) (ho' : OpSim Γ r' g) (mf : MonoF2 f) (mg : MonoF2 g) (ha : Sim X Γ W a da) (hb : Sim X Γ W b db) (hc : Sim X Γ W c dc)
    (hm : lastMarks [op, op'] [b, c] = false) : Sim X Γ W (.Compare a [op, op'] [b, c] pos) (dChain f g da db dc) :=
  ⟨mono_chain ha.mono hb.mono hc.mono mf mg, (pe_chain hr hr' ha.pe hb.pe hc.pe hm).imp fun σ H Q h => tD_chain ha.mono hb.mono hc.mono mf mg ho ho' h⟩
theorem simT_chain {op op' : CmpOp} {f g : D → D → Sto → Rt} {r r' : R2} (hr : OpR X (compareOp op) r) (hr' : OpR X (compareOp op') r') (ho : OpSim Γ r f) (ho' : OpSim Γ r' g) (mf : MonoF2 f) (mg : MonoF2 g) (ha : Sim X Γ W a da) (hb : Sim X Γ W b db) (hc : Sim X Γ W c dc)
    (hm : lastMarks [op, op'] [b, c] = false) : SimT X Γ W (.Compare a [op, op'] [b, c] pos) (dChain f g da db dc) :=
  ⟨mono_chain ha.mono hb.mono hc.mono mf mg, (pt_chain hr hr' ha.pe hb.pe hc.pe hm).imp fun σ H Q h => tD_chain ha.mono hb.mono hc.mono mf mg ho ho' h⟩

/-! ### and, or, not, if -/
def fAnd (db : De) (ls : Ls) : D → Sto → Rt
  | .bl true, st1 => db ls st1
  | .bl false, st1 => okD (.bl false) st1
  | _, _ => none
def fOr (db : De) (ls : Ls) : D → Sto → Rt
  | .bl false, st1 => db ls st1
  | .bl true, st1 => okD (.bl true) st1
  | _, _ => none
def fNot : D → Sto → Rt
  | .bl b, st1 => okD (.bl (!b)) st1
  | _, _ => none
def fIf (da db : De) (ls : Ls) : D → Sto → Rt
  | .bl true, st1 => da ls st1
  | .bl false, st1 => db ls st1
  | _, _ => none
def dAnd (da db : De) : De := fun ls st => bindR (da ls st) (fAnd db ls)
def dOr (da db : De) : De := fun ls st => bindR (da ls st) (fOr db ls)
def dIf (dt da db : De) : De := fun ls st => bindR (dt ls st) (fIf da db ls)
theorem mono_fAnd {ls : Ls} (mb : Mono db) : MonoF (fAnd db ls) := by
  intro d st r st' h
  unfold fAnd at h
  split at h
  · exact mb _ _ _ _ h
  · exact mono_ok h
  · cases h
theorem mono_fOr {ls : Ls} (mb : Mono db) : MonoF (fOr db ls) := by
  intro d st r st' h
  unfold fOr at h
  split at h
  · exact mb _ _ _ _ h
  · exact mono_ok h
  · cases h
theorem mono_fNot : MonoF fNot := by
  intro d st r st' h
  unfold fNot at h
  split at h
  · exact mono_ok h
  · cases h
theorem mono_fIf {ls : Ls} (ma : Mono da) (mb : Mono db) : MonoF (fIf da db ls) := by
  intro d st r st' h
  unfold fIf at h
  split at h
  · exact ma _ _ _ _ h
  · exact mb _ _ _ _ h
  · cases h
theorem mono_and (ma : Mono da) (mb : Mono db) : Mono (dAnd da db) := fun ls st r st' q => bindR_mono (fun a s h => ma ls st a s h) (mono_fAnd mb) r st' q
theorem mono_or (ma : Mono da) (mb : Mono db) : Mono (dOr da db) := fun ls st r st' q => bindR_mono (fun a s h => ma ls st a s h) (mono_fOr mb) r st' q
theorem mono_if (mt : Mono dc) (ma : Mono da) (mb : Mono db) : Mono (dIf dc da db) := fun ls st r st' q => bindR_mono (fun a s h => mt ls st a s h) (mono_fIf ma mb) r st' q
/-- a test, handed on -/
theorem tT_bind {f : D → Sto → Rt} (ma : Mono da) {σ : L2.St} {H : Hp} {Q : VK} {ls : Ls} {m : Nat → Addr} {st : Sto} (s : StR Γ m st H) (l : LsR Γ m st.length H ls σ) (hf : MonoF f) (hb : ∀ d st r, f d st = some r → ∃ b, d = .bl b)
    (h : Res Γ m st.length H (bindR (da ls st) f) Q (fun c d H' => W c d σ H')) {Q2 : Bool → Hp → Prop}
    (hq : ∀ b H1 m1 st1, StR Γ m1 st1 H1 → LsR Γ m1 st1.length H1 ls σ → Res Γ m1 st1.length H1 (f (.bl b) st1) Q (fun c d H' => W c d σ H') → Q2 b H1) : tT Γ W da σ H Q2 := by
  obtain ⟨m0, ls0, st0, s0, l0, q0⟩ := tD_bind ma s l hf h
  refine ⟨m0, ls0, st0, s0, l0, q0.imp fun v H1 ⟨m1, d, st1, s1, l1, r1, q1, _⟩ => ?_⟩
  cases e : f d st1 with
  | none =>
    rw [e] at q1
    exact q1.elim
  | some r =>
    obtain ⟨k, rfl⟩ := hb d st1 r e
    cases r1
    exact ⟨k, rfl, hq k H1 m1 st1 s1 l1 q1⟩
theorem fAnd_bl {ls : Ls} : ∀ d st r, fAnd db ls d st = some r → ∃ b, d = .bl b := by
  intro d st r h
  unfold fAnd at h
  split at h
  · exact ⟨_, rfl⟩
  · exact ⟨_, rfl⟩
  · cases h
theorem fOr_bl {ls : Ls} : ∀ d st r, fOr db ls d st = some r → ∃ b, d = .bl b := by
  intro d st r h
  unfold fOr at h
  split at h
  · exact ⟨_, rfl⟩
  · exact ⟨_, rfl⟩
  · cases h
theorem fNot_bl : ∀ d st r, fNot d st = some r → ∃ b, d = .bl b := by
  intro d st r h
  unfold fNot at h
  split at h
  · exact ⟨_, rfl⟩
  · cases h
theorem fIf_bl {ls : Ls} : ∀ d st r, fIf da db ls d st = some r → ∃ b, d = .bl b := by
  intro d st r h
  unfold fIf at h
  split at h
  · exact ⟨_, rfl⟩
  · exact ⟨_, rfl⟩
  · cases h
theorem simW_and (ha : SimT X Γ W a da) (hb : SimW X Γ W (.BoolOp .And (b :: rest) pos) db) : SimW X Γ W (.BoolOp .And (a :: b :: rest) pos) (dAnd da db) := by
  refine ⟨mono_and ha.mono hb.mono, (pw_and ha.pt hb.pw).imp fun σ H Q ⟨m, ls, st, s, l, h⟩ => ?_⟩
  refine tT_bind ha.mono s l (mono_fAnd hb.mono) fAnd_bl h fun k H1 m1 st1 s1 l1 q => ?_
  cases k with
  | true => exact iteT ⟨m1, ls, st1, s1, l1, q⟩
  | false =>
    obtain ⟨k', e', q'⟩ := q.ok s1 (.bl false)
    cases e'
    exact iteF q'
theorem simW_and1 (ha : SimT X Γ W a da) : SimW X Γ W (.BoolOp .And [a] pos) da := ⟨ha.mono, pw_and1 ha.pt⟩
theorem simW_or (ha : SimT X Γ W a da) (hb : SimW X Γ W (.BoolOp .Or (b :: rest) pos) db) : SimW X Γ W (.BoolOp .Or (a :: b :: rest) pos) (dOr da db) := by
  refine ⟨mono_or ha.mono hb.mono, (pw_or ha.pt hb.pw).imp fun σ H Q ⟨m, ls, st, s, l, h⟩ => ?_⟩
  refine tT_bind ha.mono s l (mono_fOr hb.mono) fOr_bl h fun k H1 m1 st1 s1 l1 q => ?_
  cases k with
  | false => exact iteF ⟨m1, ls, st1, s1, l1, q⟩
  | true =>
    obtain ⟨k', e', q'⟩ := q.ok s1 (.bl true)
    cases e'
    exact iteT q'
theorem simW_or1 (ha : SimT X Γ W a da) : SimW X Γ W (.BoolOp .Or [a] pos) da := ⟨ha.mono, pw_or1 ha.pt⟩
theorem simT_not (ha : SimT X Γ W a da) : SimT X Γ W (.UnaryOp .Not a pos) (dUn fNot da) := by
  refine ⟨mono_un ha.mono mono_fNot, (pt_not ha.pt).imp fun σ H Q ⟨m, ls, st, s, l, h⟩ => ?_⟩
  refine tT_bind ha.mono s l mono_fNot fNot_bl h fun k H1 m1 st1 s1 l1 q => ?_
  obtain ⟨k', e', q'⟩ := q.ok s1 (.bl (!k))
  cases e'
  exact q'
theorem sim_one {op} (ha : Sim X Γ W a da) : Sim X Γ W (.BoolOp op [a] pos) da := ⟨ha.mono, pe_one ha.pe⟩
theorem sim_and (ha : Sim X Γ W a da) (hb : Sim X Γ W (.BoolOp .And (b :: rest) pos) db) : Sim X Γ W (.BoolOp .And (a :: b :: rest) pos) (dAnd da db) := by
  refine ⟨mono_and ha.mono hb.mono, (pe_and ha.pe hb.pe).imp fun σ H Q ⟨m, ls, st, s, l, h⟩ => ?_⟩
  refine tT_bind ha.mono s l (mono_fAnd hb.mono) fAnd_bl h fun k H1 m1 st1 s1 l1 q => ?_
  cases k with
  | true => exact iteT ⟨m1, ls, st1, s1, l1, q⟩
  | false => exact iteF (q.ok s1 (.bl false))
theorem sim_or (ha : Sim X Γ W a da) (hb : Sim X Γ W (.BoolOp .Or (b :: rest) pos) db) : Sim X Γ W (.BoolOp .Or (a :: b :: rest) pos) (dOr da db) := by
  refine ⟨mono_or ha.mono hb.mono, (pe_or ha.pe hb.pe).imp fun σ H Q ⟨m, ls, st, s, l, h⟩ => ?_⟩
  refine tT_bind ha.mono s l (mono_fOr hb.mono) fOr_bl h fun k H1 m1 st1 s1 l1 q => ?_
  cases k with
  | false => exact iteF ⟨m1, ls, st1, s1, l1, q⟩
  | true => exact iteT (q.ok s1 (.bl true))
theorem sim_not (ha : Sim X Γ W a da) : Sim X Γ W (.UnaryOp .Not a pos) (dUn fNot da) := by
  refine ⟨mono_un ha.mono mono_fNot, (pe_not ha.pe).imp fun σ H Q ⟨m, ls, st, s, l, h⟩ => ?_⟩
  exact tT_bind ha.mono s l mono_fNot fNot_bl h fun k H1 m1 st1 s1 l1 q => q.ok s1 (.bl (!k))
theorem sim_if (hc : SimT X Γ W c dc) (ha : Sim X Γ W a da) (hb : Sim X Γ W b db) : Sim X Γ W (.IfExp c a b pos) (dIf dc da db) := by
  refine ⟨mono_if hc.mono ha.mono hb.mono, (pe_ifExp hc.pt ha.pe hb.pe).imp fun σ H Q ⟨m, ls, st, s, l, h⟩ => ?_⟩
  refine tT_bind hc.mono s l (mono_fIf ha.mono hb.mono) fIf_bl h fun k H1 m1 st1 s1 l1 q => ?_
  cases k with
  | true => exact iteT ⟨m1, ls, st1, s1, l1, q⟩
  | false => exact iteF ⟨m1, ls, st1, s1, l1, q⟩
/-- - n -/
def fNeg : D → Sto → Rt
  | .int i, st1 => okD (.int (-i)) st1
  | _, _ => none
theorem mono_fNeg : MonoF fNeg := by
  intro d st r st' h
  unfold fNeg at h
  split at h
  · exact mono_ok h
  · cases h
theorem sim_neg (ha : Sim X Γ W a da) : Sim X Γ W (.UnaryOp .USub a pos) (dUn fNeg da) := by
  refine ⟨mono_un ha.mono mono_fNeg, (pe_un un_neg ha.pe).imp fun σ H Q ⟨m, ls, st, s, l, h⟩ => ?_⟩
  obtain ⟨m0, ls0, st0, s0, l0, q0⟩ := tD_bind ha.mono s l mono_fNeg h
  refine ⟨m0, ls0, st0, s0, l0, q0.imp fun v H1 ⟨m1, d, st1, s1, l1, r1, q1, _⟩ => ?_⟩
  match d, r1, q1 with
  | .int i, .int _, q1 => exact ⟨i, rfl, q1.ok s1 (.int _)⟩

/-! ### arguments -/
inductive RsA where
  | ok (ds : List D)
  | exc (c : Str) (fs : List (Str × D))
def evA : List De → Ls → Sto → Option (RsA × Sto)
  | [], _, st => some (.ok [], st)
  | da :: r, ls, st => match da ls st with
    | some (.ok d, st1) => match evA r ls st1 with
      | some (.ok ds, st2) => some (.ok (d :: ds), st2)
      | x => x
    | some (.exc c fs, st1) => some (.exc c fs, st1)
    | none => none
def ResA (Γ : Gam) (m : Nat → Addr) (L : Nat) (H : Hp) (r : Option (RsA × Sto)) (Q : List V → Hp → Prop) (E : XK) : Prop :=
  match r with
  | none => False
  | some (.ok ds, st') => L ≤ st'.length ∧ ∀ m' H' vs, Ext m L m' → Keep H H' → StR Γ m' st' H' → RvL Γ.K m' st'.length H' ds vs → Q vs H'
  | some (.exc c fs, st') => L ≤ st'.length ∧ AfterExc Γ m L H st' c fs E
theorem ResA.mono {m m' : Nat → Addr} {L L' : Nat} {H H' : Hp} {r : Option (RsA × Sto)} {Q : List V → Hp → Prop} {E : XK} (h : ResA Γ m L H r Q E) (e : Ext m L m') (k : Keep H H') (hL : L ≤ L') (hr : ∀ a st', r = some (a, st') → L' ≤ st'.length) : ResA Γ m' L' H' r Q E := by
  match r, h, hr with
  | some (.ok d, st'), ⟨_, h⟩, hr => exact ⟨hr _ _ rfl, fun m2 H2 v e2 k2 s2 r2 => h m2 H2 v (e.trans e2 hL) (k.trans k2) s2 r2⟩
  | some (.exc c fs, st'), ⟨_, h⟩, hr => exact ⟨hr _ _ rfl, fun m2 H2 v e2 k2 s2 r2 => h m2 H2 v (e.trans e2 hL) (k.trans k2) s2 r2⟩
theorem ResA.imp {m : Nat → Addr} {L : Nat} {H : Hp} {r : Option (RsA × Sto)} {Q Q' : List V → Hp → Prop} {E : XK} (h : ResA Γ m L H r Q E) (q : ∀ v H, Q v H → Q' v H) : ResA Γ m L H r Q' E := by
  match r, h with
  | some (.ok d, st'), ⟨l, h⟩ => exact ⟨l, fun m' H' v e k s r => q _ _ (h m' H' v e k s r)⟩
  | some (.exc c fs, st'), h => exact h
def MonoA (das : List De) : Prop := ∀ ls st r st', evA das ls st = some (r, st') → st.length ≤ st'.length
def tA (Γ : Gam) (W : WX) (das : List De) : TA := fun σ H Q => ∃ m ls st, StR Γ m st H ∧ LsR Γ m st.length H ls σ ∧ ResA Γ m st.length H (evA das ls st) Q (fun c d H' => W c d σ H')
structure SimA (X : Cx) (Γ : Gam) (W : WX) (es : List Expr) (das : List De) : Prop where
  mono : MonoA das
  pa : PA X es (tA Γ W das)
theorem monoA_nil : MonoA [] := fun ls st r st' h => by cases h; exact Nat.le_refl _
theorem monoA_cons (ma : Mono da) (mr : MonoA das) : MonoA (da :: das) := fun ls st r st' h => by
  unfold evA at h
  split at h
  · rename_i d st1 e1
    have h1 := ma _ _ _ _ e1
    split at h
    · rename_i ds st2 e2
      cases h
      exact Nat.le_trans h1 (mr _ _ _ _ e2)
    · exact Nat.le_trans h1 (mr _ _ _ _ h)
  · rename_i c fs st1 e1
    cases h
    exact ma _ _ _ _ e1
  · cases h
theorem simA_nil : SimA X Γ W [] [] := ⟨monoA_nil, pa_nil.imp fun σ H Q ⟨m, ls, st, s, l, h⟩ => h.2 m H [] (Ext.refl _ _) (Keep.refl _) s .nil⟩
theorem simA_cons (ha : Sim X Γ W a da) (hr : SimA X Γ W es das) (hs : starEach (a :: es) X.env = (false, eval a X.env) :: starEach es X.env) : SimA X Γ W (a :: es) (da :: das) := by
  refine ⟨monoA_cons ha.mono hr.mono, (pa_cons ha.pe hr.pa hs).imp fun σ H Q ⟨m, ls, st, s, l, h⟩ => ?_⟩
  refine ⟨m, ls, st, s, l, ?_⟩
  unfold evA at h
  have ma := fun r st' q => ha.mono ls st r st' q
  match da ls st, h, ma with
  | some (.exc c fs, st1), h, _ => exact h
  | some (.ok d, st1), h, ma =>
    have hl := ma _ _ rfl
    refine ⟨hl, fun m1 H1 x e1 k1 s1 r1 => ⟨m1, ls, st1, s1, l.mono e1 hl k1, ?_⟩⟩
    have mr := fun r st' q => hr.mono ls st1 r st' q
    dsimp only at h
    match evA das ls st1, h, mr with
    | some (.exc c fs, st2), h, mr => exact h.mono e1 k1 hl fun a st' q => mr a st' q
    | some (.ok ds, st2), h, mr =>
      have hl2 := mr _ _ rfl
      refine ⟨hl2, fun m2 H2 vs e2 k2 s2 r2 => ?_⟩
      exact h.2 m2 H2 (x :: vs) (e1.trans e2 hl) (k1.trans k2) s2 (.cons (r1.mono e2 hl2 k2) r2)
/-- something done with the arguments -/
def dApp (f : List D → Sto → Rt) (das : List De) : De := fun ls st => match evA das ls st with
  | some (.ok ds, st1) => f ds st1
  | some (.exc c fs, st1) => some (.exc c fs, st1)
  | none => none
def MonoFA (f : List D → Sto → Rt) : Prop := ∀ ds st r st', f ds st = some (r, st') → st.length ≤ st'.length
theorem mono_app {f : List D → Sto → Rt} (ma : MonoA das) (hf : MonoFA f) : Mono (dApp f das) := fun ls st r st' h => by
  unfold dApp at h
  split at h
  · rename_i ds st1 e
    exact Nat.le_trans (ma _ _ _ _ e) (hf _ _ _ _ h)
  · rename_i c fs st1 e
    cases h
    exact ma _ _ _ _ e
  · cases h
def CallSim (Γ : Gam) (r : List V → Hp → VK → Prop) (f : List D → Sto → Rt) : Prop :=
  ∀ (m : Nat → Addr) (st : Sto) (H : Hp) (vs : List V) (ds : List D) (Q : VK) (E : XK), StR Γ m st H → RvL Γ.K m st.length H ds vs → Res Γ m st.length H (f ds st) Q E → r vs H Q
/-- the arguments' values, then what follows -/
theorem tA_bind {f : List D → Sto → Rt} (ma : MonoA das) {σ : L2.St} {H : Hp} {Q : VK} {ls : Ls} {m : Nat → Addr} {st : Sto} (s : StR Γ m st H) (l : LsR Γ m st.length H ls σ) (hf : MonoFA f) (h : Res Γ m st.length H (dApp f das ls st) Q (fun c d H' => W c d σ H')) :
    tA Γ W das σ H (fun vs H1 => ∃ m1 ds st1, StR Γ m1 st1 H1 ∧ LsR Γ m1 st1.length H1 ls σ ∧ RvL Γ.K m1 st1.length H1 ds vs ∧ Res Γ m1 st1.length H1 (f ds st1) Q (fun c d H' => W c d σ H') ∧ st.length ≤ st1.length ∧ Ext m st.length m1 ∧ Keep H H1) := by
  refine ⟨m, ls, st, s, l, ?_⟩
  unfold dApp at h
  have ma := fun r st' q => ma ls st r st' q
  match evA das ls st, h, ma with
  | some (.exc c fs, st1), h, _ => exact h
  | some (.ok ds, st1), h, ma =>
    have hl := ma _ _ rfl
    refine ⟨hl, fun m1 H1 vs e1 k1 s1 r1 => ⟨m1, ds, st1, s1, l.mono e1 hl k1, r1, ?_, hl, e1, k1⟩⟩
    exact Res.mono (r := f ds st1) h e1 k1 hl fun a st' q => hf _ _ _ _ q
def fTup (ds : List D) (st : Sto) : Rt := if small ds.length then okD (.tup ds) st else none
def fLst (ds : List D) (st : Sto) : Rt := if small ds.length then okL ds st else none
theorem mono_fTup : MonoFA fTup := by
  intro d st r st' h
  unfold fTup at h
  split at h
  · exact mono_ok h
  · cases h
theorem mono_fLst : MonoFA fLst := by
  intro d st r st' h
  unfold fLst at h
  split at h
  · exact mono_okL h
  · cases h
theorem sim_tup {x1} (h : SimA X Γ W es das) : Sim X Γ W (.Tuple es x1 pos) (dApp fTup das) := by
  refine ⟨mono_app h.mono mono_fTup, (pe_tup h.pa).imp fun σ H Q ⟨m, ls, st, s, l, q⟩ => ?_⟩
  obtain ⟨m0, ls0, st0, s0, l0, q0⟩ := tA_bind h.mono s l mono_fTup q
  refine ⟨m0, ls0, st0, s0, l0, q0.imp fun vs H1 ⟨m1, ds, st1, s1, l1, r1, q1, _⟩ => ?_⟩
  unfold fTup at q1
  split at q1
  · rename_i z
    exact ⟨by rw [← r1.length]; exact small_le z, fun p hp => q1.tupN s1 r1 hp⟩
  · exact q1.elim
theorem sim_lst (h : SimA X Γ W es das) : Sim X Γ W (.List es pos) (dApp fLst das) := by
  refine ⟨mono_app h.mono mono_fLst, (pe_lst h.pa).imp fun σ H Q ⟨m, ls, st, s, l, q⟩ => ?_⟩
  obtain ⟨m0, ls0, st0, s0, l0, q0⟩ := tA_bind h.mono s l mono_fLst q
  refine ⟨m0, ls0, st0, s0, l0, q0.imp fun vs H1 ⟨m1, ds, st1, s1, l1, r1, q1, _⟩ => ?_⟩
  unfold fLst at q1
  split at q1
  · rename_i z
    exact ⟨by rw [← r1.length]; exact small_le z, fun p hp => q1.lstN s1 r1 hp⟩
  · exact q1.elim
/-- f(..), f a built-in function; T(..), T a built-in type -/
theorem tD_app {f : List D → Sto → Rt} {r : List V → Hp → VK → Prop} (ma : MonoA das) (hf : MonoFA f) (hc : CallSim Γ r f) {σ : L2.St} {H : Hp} {Q : VK} (h : tD Γ W (dApp f das) σ H Q) : tCB r (tA Γ W das) σ H Q := by
  obtain ⟨m, ls, st, s, l, q⟩ := h
  obtain ⟨m0, ls0, st0, s0, l0, q0⟩ := tA_bind ma s l hf q
  exact ⟨m0, ls0, st0, s0, l0, q0.imp fun vs H1 ⟨m1, ds, st1, s1, l1, r1, q1, _⟩ => hc m1 st1 H1 vs ds Q _ s1 r1 q1⟩
theorem sim_callB {f : List D → Sto → Rt} {r : List V → Hp → VK → Prop} {id : String} {x : Str} {p : Pos} (hr : CallR X (.builtin id) r) (hc : CallSim Γ r f) (hf : MonoFA f) (hg : Gl X x) (hm : X.mg x = none) (hv : bootBuiltins x = some (.builtin id)) (h : SimA X Γ W (e :: es) das)
    (hn : x ≠ "__name__") (hdb : (x == ("__debug__" : Str)) = false) (he : starEach (e :: es) X.env = (false, eval e X.env) :: starEach es X.env) (hpl : (backTo pos (starEach es X.env)).any (·.1) = false) : Sim X Γ W (.Call (.Name x p) (e :: es) [] pos) (dApp f das) :=
  ⟨mono_app h.mono hf, (pe_callB hr hg hm hv h.pa hn hdb he hpl).imp fun σ H Q q => tD_app h.mono hf hc q⟩
theorem sim_callTy {f : List D → Sto → Rt} {r : List V → Hp → VK → Prop} {id : String} {x : Str} {p : Pos} (hr : CallR X (.type id) r) (hc : CallSim Γ r f) (hf : MonoFA f) (hg : Gl X x) (hm : X.mg x = none) (hv : bootBuiltins x = some (.type id)) (h : SimA X Γ W (e :: es) das)
    (hn : x ≠ "__name__") (hdb : (x == ("__debug__" : Str)) = false) (he : starEach (e :: es) X.env = (false, eval e X.env) :: starEach es X.env) (hpl : (backTo pos (starEach es X.env)).any (·.1) = false) : Sim X Γ W (.Call (.Name x p) (e :: es) [] pos) (dApp f das) :=
  ⟨mono_app h.mono hf, (pe_callTy hr hg hm hv h.pa hn hdb he hpl).imp fun σ H Q q => tD_app h.mono hf hc q⟩
/-! own defs -/
/-- what a def promises: it does what f says -/
def spD (Γ : Gam) (n : Nat) (f : List D → Sto → Rt) : Sp := fun vs H Q E => vs.length = n ∧ ∃ m ds st, StR Γ m st H ∧ RvL Γ.K m st.length H ds vs ∧ Res Γ m st.length H (f ds st) Q E
theorem sim_call {f : List D → Sto → Rt} {k n : Nat} {fa : Addr} {fd : FuncData} {ps : List Str} {x : Str} {p : Pos} (F : FnOk X.prog X.w X.K X.mg X.base (L2.CX X.prog X.w) k fa fd ps (spD Γ n f)) (hf : MonoFA f) (hr : Room k X.A) (hg : Gl X x) (hm : X.mg x = some (.ref fa))
    (hk : PySem.W.keepIn X.K (.ref fa) = true) (hb : Binds X.K fd ps []) (hx : ∀ σ, PassesAt (L2.CX X.prog X.w) X σ (fun c d H' => W c d σ H')) (h : SimA X Γ W (e :: es) das) (hn : (e :: es).length = n) (hdb : (x == ("__debug__" : Str)) = false) (he : starEach (e :: es) X.env = (false, eval e X.env) :: starEach es X.env)
    (hpl : (backTo pos (starEach es X.env)).any (·.1) = false) (hlen : ∀ ls st ds st', evA das ls st = some (.ok ds, st') → ds.length = n) : Sim X Γ W (.Call (.Name x p) (e :: es) [] pos) (dApp f das) := by
  refine ⟨mono_app h.mono hf, (pe_callSD (E := fun σ c d H' => W c d σ H') F hr hg hm hk hb .nil hx h.pa hdb he hpl).imp fun σ H Q ⟨m, ls, st, s, l, q⟩ => ?_⟩
  refine ⟨m, ls, st, s, l, ?_⟩
  have ma := fun r st' q => h.mono ls st r st' q
  have hlen := hlen ls st
  unfold dApp at q
  match evA das ls st, q, ma, hlen with
  | some (.exc c fs, st1), q, _, _ => exact q
  | some (.ok ds, st1), q, ma, hlen =>
    have hl := ma _ _ rfl
    refine ⟨hl, fun m1 H1 vs e1 k1 s1 r1 => ⟨by rw [List.append_nil, ← r1.length]; exact hlen _ _ rfl, m1, ds, st1, s1, by rw [List.append_nil]; exact r1, ?_⟩⟩
    exact Res.mono (r := f ds st1) q e1 k1 hl fun a st' q => hf _ _ _ _ q
theorem evA_len : ∀ {das : List De} {ls : Ls} {st : Sto} {ds : List D} {st' : Sto}, evA das ls st = some (.ok ds, st') → ds.length = das.length
  | [], _, _, _, _, h => by cases h; rfl
  | da :: r, ls, st, ds, st', h => by
    unfold evA at h
    split at h
    · split at h
      · rename_i ds2 st2 e2
        cases h
        rw [List.length_cons, List.length_cons, evA_len e2]
      · rename_i x hx
        exact absurd h (hx _ _)
    · cases h
    · cases h
end
end MP
end
section
set_option maxRecDepth 100000
set_option maxHeartbeats 1000000
namespace MP
open PySem L2

section
variable {X : Cx} {Γ : Gam} {W : WX} {e a b c o : Expr} {da db dc : De} {pos p2 : Pos} {es rest : List Expr} {das : List De}
/-! ### slices -/
def cutD (l : List D) (lo hi : Option Int) : List D := (l.drop (HT.sIx l.length 0 lo)).take (HT.sIx l.length l.length hi - HT.sIx l.length 0 lo)
def fSl (lo hi : Option Int) : D → Sto → Rt
  | .tup l, st => okD (.tup (cutD l lo hi)) st
  | .obj n, st => match st[n]? with
    | some (.lst _ l) => okL (cutD l lo hi) st
    | _ => none
  | .str z, st => if small z.length then okD (.str (cutS z lo hi)) st else none
  | _, _ => none
theorem mono_fSl {lo hi : Option Int} : MonoF (fSl lo hi) := by
  intro d st r st' h
  unfold fSl at h
  repeat' (split at h)
  all_goals first | exact mono_ok h | exact mono_okL h | cases h
theorem RvL.cut {m : Nat → Addr} {L : Nat} {H : Hp} {ds : List D} {vs : List V} {lo hi : Option Int} (r : RvL Γ.K m L H ds vs) : RvL Γ.K m L H (cutD ds lo hi) (cutV vs lo hi) := by
  unfold cutD cutV
  rw [r.length]
  exact (r.drop _).take _
abbrev rSlD (K : PySem.W.Frag) : V → Option Int → Option Int → Hp → VK → Prop := fun x lo hi H Q => rSlL K x lo hi H Q ∨ (rSlA K x lo hi H Q ∨ rSlS x lo hi H Q)
theorem sl_all : SlR X (rSlD X.K) := sl_list.or (sl_tupA.or sl_str)
theorem cut_whole {vs : List V} {lo hi : Option Int} (h : HT.sIx vs.length 0 lo = 0 ∧ HT.sIx vs.length vs.length hi = vs.length) : cutV vs lo hi = vs := by
  unfold cutV
  rw [h.1, h.2]
  simp
theorem ss_sl {m : Nat → Addr} {st : Sto} {H : Hp} {x : V} {lo hi : Option Int} {Q : VK} {E : XK} (s : StR Γ m st H) : ∀ {d : D}, Rv Γ.K m st.length H d x → Res Γ m st.length H (fSl lo hi d st) Q E → rSlD Γ.K x lo hi H Q
  | .tup l, .tup (a := p) (vs := vs) h1 r1, h => by
    refine .inr (.inl ⟨p, vs, rfl, h1, fun w => ?_, fun _ q hq => Res.tupN (E := E) h s r1.cut hq⟩)
    have e := cut_whole w
    refine Res.ok (E := E) h s (Rv.tup h1 ?_)
    have z := r1.cut (lo := lo) (hi := hi)
    rw [e] at z
    exact z
  | .obj n, .obj _, h => by
    dsimp only [fSl] at h
    split at h
    · rename_i ro l e
      obtain ⟨vs, a, r⟩ := s.list e
      exact .inl ⟨m n, vs, rfl, a, fun p hp => h.lstN s r.cut hp⟩
    · exact h.elim
  | .str z, .str _, h => by
    dsimp only [fSl] at h
    split at h
    · rename_i hz
      exact .inr (.inr ⟨z, rfl, small_le hz, h.ok s (.str _)⟩)
    · exact h.elim
/-- a part of a slice -/
def evO (dp : Option De) (ls : Ls) (st : Sto) (k : Option Int → Sto → Rt) : Rt :=
  match dp with
  | none => k none st
  | some d => bindR (d ls st) fun y st1 => match y with
    | .int i => k (some i) st1
    | _ => none
inductive SimO (X : Cx) (Γ : Gam) (W : WX) : Option Expr → Option De → Prop
  | none : SimO X Γ W none none
  | some {e : Expr} {d : De} : Sim X Γ W e d → SimO X Γ W (some e) (some d)
def tO (Γ : Gam) (W : WX) (dp : Option De) : TO := match dp with
  | none => tNoPart
  | some d => tPart (tD Γ W d)
theorem SimO.po {e : Option Expr} {d : Option De} (h : SimO X Γ W e d) : PO X e (tO Γ W d) := by
  cases h with
  | none => exact po_none
  | some h => exact po_some h.pe
theorem mono_evK {k : Option Int → Sto → Rt} (hk : ∀ o st r st', k o st = some (r, st') → st.length ≤ st'.length) : MonoF (fun y st1 => match y with | .int i => k (some i) st1 | _ => none) := by
  intro d st r st' h
  dsimp only at h
  split at h
  · exact hk _ _ _ _ h
  · cases h
theorem mono_evO {dp : Option De} {ls : Ls} {e : Option Expr} (h : SimO X Γ W e dp) {k : Option Int → Sto → Rt} (hk : ∀ o st r st', k o st = some (r, st') → st.length ≤ st'.length) : ∀ st r st', evO dp ls st k = some (r, st') → st.length ≤ st'.length := fun st r st' q => by
  cases h with
  | none => exact hk _ _ _ _ q
  | some h => exact bindR_mono (fun a s z => h.mono ls st a s z) (mono_evK hk) r st' q
theorem evO_run {dp : Option De} {e : Option Expr} (h : SimO X Γ W e dp) {k : Option Int → Sto → Rt} (hk : ∀ o st r st', k o st = some (r, st') → st.length ≤ st'.length) {σ : L2.St} {H : Hp} {Q : VK} {ls : Ls} {m : Nat → Addr} {st : Sto} (s : StR Γ m st H) (l : LsR Γ m st.length H ls σ)
    (q : Res Γ m st.length H (evO dp ls st k) Q (fun c d H' => W c d σ H')) {R : Option Int → Hp → Prop}
    (hR : ∀ o m1 st1 H1, StR Γ m1 st1 H1 → LsR Γ m1 st1.length H1 ls σ → Res Γ m1 st1.length H1 (k o st1) Q (fun c d H' => W c d σ H') → st.length ≤ st1.length → Ext m st.length m1 → Keep H H1 → R o H1) : tO Γ W dp σ H R := by
  cases h with
  | none => exact hR none m st H s l q (Nat.le_refl _) (Ext.refl _ _) (Keep.refl _)
  | some h =>
    obtain ⟨m0, ls0, st0, s0, l0, q0⟩ := tD_bind h.mono s l (mono_evK hk) q
    refine ⟨m0, ls0, st0, s0, l0, q0.imp fun v H1 ⟨m1, d, st1, s1, l1, r1, q1, hl, e1, k1⟩ => ?_⟩
    match d, r1, q1 with
    | .int i, .int _, q1 => exact ⟨i, rfl, hR (some i) m1 st1 H1 s1 l1 q1 hl e1 k1⟩
def dSl (da : De) (lo hi : Option De) : De := fun ls st => bindR (da ls st) fun x st1 => evO lo ls st1 fun i st2 => evO hi ls st2 fun j st3 => fSl i j x st3
theorem sim_slice {lo hi : Option Expr} {dlo dhi : Option De} (hK : X.K = Γ.K) (ha : Sim X Γ W a da) (hl : SimO X Γ W lo dlo) (hh : SimO X Γ W hi dhi) : Sim X Γ W (.Subscript a (.Slice lo hi none p2) pos) (dSl da dlo dhi) := by
  have m3 : ∀ (i : Option Int) (x : D) (o : Option Int) st r st', (fun j st3 => fSl i j x st3) o st = some (r, st') → st.length ≤ st'.length := fun i x o st r st' h => mono_fSl _ _ _ _ h
  have m2 : ∀ (ls : Ls) (x : D) (o : Option Int) st r st', (fun i st2 => evO dhi ls st2 fun j st3 => fSl i j x st3) o st = some (r, st') → st.length ≤ st'.length := fun ls x o st r st' h => mono_evO hh (m3 o x) st r st' h
  have m1 : ∀ ls, MonoF fun x st1 => evO dlo ls st1 fun i st2 => evO dhi ls st2 fun j st3 => fSl i j x st3 := fun ls x st r st' h => mono_evO hl (m2 ls x) st r st' h
  refine ⟨fun ls st r st' h => bindR_mono (fun a s z => ha.mono ls st a s z) (m1 ls) r st' h, (pe_slice sl_all ha.pe hl.po hh.po).imp fun σ H Q ⟨m, ls, st, s, l, h⟩ => ?_⟩
  obtain ⟨m0, ls0, st0, s0, l0, q0⟩ := tD_bind ha.mono s l (m1 ls) h
  refine ⟨m0, ls0, st0, s0, l0, q0.imp fun v H1 ⟨m1, d, st1, s1, l1, r1, q1, _⟩ => ?_⟩
  refine evO_run hl (m2 ls d) s1 l1 q1 fun i m2 st2 H2 s2 l2 q2 hl2 e2 k2 => ?_
  refine evO_run hh (m3 i d) s2 l2 q2 fun j m3 st3 H3 s3 l3 q3 hl3 e3 k3 => ?_
  rw [hK]
  exact ss_sl s3 ((r1.mono e2 hl2 k2).mono e3 hl3 k3) q3

/-! ### attributes -/
theorem FsR.look {m : Nat → Addr} {L : Nat} {H : Hp} {f : Str} {d : D} : ∀ {fs : List (Str × D)} {vs : List (Str × V)}, FsR Γ.K m L H fs vs → fs.lookup f = some d → ∃ v, vs.lookup f = some v ∧ Rv Γ.K m L H d v
  | _, _, .nil, h => by cases h
  | (g, d0) :: fs, _, .cons (v := v0) (vs := vs) r rs, h => by
    unfold List.lookup at h ⊢
    split at h
    · cases h
      exact ⟨_, rfl, r⟩
    · exact FsR.look rs h
def fFld (cs : List Str) (f : Str) : D → Sto → Rt
  | .obj n, st => match st[n]? with
    | some (.ins c fs) => if cs.contains c then match fs.lookup f with | some d => okD d st | none => none else none
    | _ => none
  | _, _ => none
theorem mono_fFld {cs : List Str} {f : Str} : MonoF (fFld cs f) := by
  intro d st r st' h
  unfold fFld at h
  repeat' (split at h)
  all_goals first | exact mono_ok h | cases h
/-- what is known of the classes whose instances have the attribute f -/
def FldOk (Γ : Gam) (cs : List Str) (f : Str) : Prop := ∀ c, cs.contains c = true → Cls Γ.K (Γ.cl c) ∧ NoAttr Γ.K (Γ.cl c) f
theorem sim_fld {cs : List Str} {f : Str} (hK : X.K = Γ.K) (hc : FldOk Γ cs f) (ha : Sim X Γ W a da) (hb : attributeBase a f X.env (eval a X.env) = eval a X.env) : Sim X Γ W (.Attribute a f pos) (dUn (fFld cs f) da) := by
  refine ⟨mono_un ha.mono mono_fFld, (pe_fld ha.pe hb).imp fun σ H Q ⟨m, ls, st, s, l, h⟩ => ?_⟩
  obtain ⟨m0, ls0, st0, s0, l0, q0⟩ := tD_bind ha.mono s l mono_fFld h
  refine ⟨m0, ls0, st0, s0, l0, q0.imp fun v H1 ⟨m1, d, st1, s1, l1, r1, q1, _⟩ => ?_⟩
  match d, r1, q1 with
  | .obj n, .obj _, q1 =>
    dsimp only [fFld] at q1
    split at q1
    · rename_i c fs e
      split at q1
      · rename_i hcs
        split at q1
        · rename_i d' ed
          obtain ⟨dx, vs, h1, h2⟩ := s1.cell n _ e
          obtain ⟨v, hv, rv⟩ := h2.look ed
          obtain ⟨c1, c2⟩ := hc c hcs
          exact ⟨m1 n, Γ.cl c, dx, vs, v, rfl, h1, by rw [hK]; exact c1, by rw [hK]; exact c2, hv, q1.ok s1 rv⟩
        · exact q1.elim
      · exact q1.elim
    · exact q1.elim

/-! ### methods of built-in types -/
def isTy (T : String) : D → Sto → Bool
  | .obj n, st => match st[n]? with
    | some (.lst _ _) => T == "list"
    | _ => false
  | .str _, _ => T == "str"
  | _, _ => false
theorem isTy_v {T : String} {K : PySem.W.Frag} (hK : K = Γ.K) {m : Nat → Addr} {st : Sto} {H : Hp} {v : V} (s : StR Γ m st H) : ∀ {d : D}, isTy T d st = true → Rv Γ.K m st.length H d v → tyV K T v H
  | .obj n, h, .obj _ => by
    subst hK
    dsimp only [isTy] at h
    split at h
    · rename_i ro l e
      obtain ⟨vs, a, r⟩ := s.list e
      exact .inl ⟨beq_iff_eq.mp h, vs, a⟩
    · cases h
  | .str z, h, .str _ => beq_iff_eq.mp h
def MtSim (Γ : Gam) (r : V → List V → Hp → VK → Prop) (f : D → List D → Sto → Rt) : Prop :=
  ∀ (m : Nat → Addr) (st : Sto) (H : Hp) (x : V) (vs : List V) (d : D) (ds : List D) (Q : VK) (E : XK), StR Γ m st H → Rv Γ.K m st.length H d x → RvL Γ.K m st.length H ds vs → Res Γ m st.length H (f d ds st) Q E → r x vs H Q
def dMeth (T : String) (f : D → List D → Sto → Rt) (da : De) (das : List De) : De := fun ls st => bindR (da ls st) fun x st1 => if isTy T x st1 then dApp (f x) das ls st1 else none
def MonoM (f : D → List D → Sto → Rt) : Prop := ∀ d, MonoFA (f d)
theorem mono_methK {T : String} {f : D → List D → Sto → Rt} {ls : Ls} (hd : MonoA das) (hf : MonoM f) : MonoF fun x st1 => if isTy T x st1 then dApp (f x) das ls st1 else none := by
  intro d st r st' h
  dsimp only at h
  split at h
  · exact mono_app hd (hf d) _ _ _ _ h
  · cases h
theorem sim_meth {T id : String} {name : Str} {apos cpos : Pos} {f : D → List D → Sto → Rt} {r : V → List V → Hp → VK → Prop} (hK : X.K = Γ.K) (pa : PlainAttrs T) (slot : Slot T name id) (hty : typeOf (.builtin id) = pure (.type "method_descriptor")) (hm : MtR X id r) (hs : MtSim Γ r f) (hf : MonoM f)
    (ho : Sim X Γ W o da) (ha : SimA X Γ W (e :: es) das) (hbase : attributeBase o name X.env (eval o X.env) = eval o X.env)
    (hfew : ((backTo cpos (starEach (e :: es) X.env)).all (fun x => !x.1) && (backToKw cpos (keywordEach [] X.env)).all (fun x => x.1.isSome)
      && decide ((e :: es).length + ([] : List Keyword).length + (if ([] : List Keyword).isEmpty then 0 else 1) < 30)) = true)
    (hline : (apos.endLine == cpos.line) = true) (hst : starEach (e :: es) X.env = (false, eval e X.env) :: starEach es X.env) (hplain : (backTo cpos (starEach es X.env)).any (·.1) = false) :
    Sim X Γ W (.Call (.Attribute o name apos) (e :: es) [] cpos) (dMeth T f da das) := by
  have mk : ∀ ls, MonoF fun x st1 => if isTy T x st1 then dApp (f x) das ls st1 else none := fun ls => mono_methK ha.mono hf
  refine ⟨fun ls st r st' q => bindR_mono (fun a s z => ho.mono ls st a s z) (mk ls) r st' q, (pe_bm pa slot hty hm ho.pe ha.pa hbase hfew hline hst hplain).imp fun σ H Q ⟨m, ls, st, s, l, h⟩ => ?_⟩
  obtain ⟨m0, ls0, st0, s0, l0, q0⟩ := tD_bind ho.mono s l (mk ls) h
  refine ⟨m0, ls0, st0, s0, l0, q0.imp fun v H1 ⟨m1, d, st1, s1, l1, r1, q1, _⟩ => ?_⟩
  split at q1
  · rename_i ht
    refine ⟨isTy_v hK s1 ht r1, ?_⟩
    obtain ⟨m0, ls0, st0, s0, l0, q0⟩ := tA_bind ha.mono s1 l1 (hf d) q1
    exact ⟨m0, ls0, st0, s0, l0, q0.imp fun vs H2 ⟨m2, ds, st2, s2, l2, r2, q2, hl2, e2, k2⟩ => hs m2 st2 H2 v vs d ds Q _ s2 (r1.mono e2 hl2 k2) r2 q2⟩
  · exact q1.elim
def fAppend : D → List D → Sto → Rt
  | .obj n, [d], st => match st[n]? with
    | some (.lst false l) => if l.length < LINE then some (.ok .non, st.set n (.lst false (l ++ [d]))) else none
    | _ => none
  | _, _, _ => none
theorem mono_fAppend : MonoM fAppend := by
  intro x ds st r st' h
  unfold fAppend at h
  repeat' (split at h)
  all_goals first | exact mono_put h | cases h
theorem ms_append : MtSim Γ rAppend fAppend := fun
  | m, st, H, _, _, .obj n, [d], Q, E, s, .obj _, .cons rd .nil, h => by
    dsimp only [fAppend] at h
    split at h
    · rename_i l e
      split at h
      · rename_i hl
        obtain ⟨vs, a, r⟩ := s.lst e
        refine ⟨m n, vs, _, rfl, rfl, a, by rw [← r.length]; exact line_lt hl, ?_⟩
        exact h.putN s e rfl rfl (fun k => ⟨_, upd_same, (r.snoc rd).mono (Ext.refl _ _) (Nat.le_refl _) k⟩) .non
      · exact h.elim
    · exact h.elim

/-! ### built-in functions -/
def fLen : List D → Sto → Rt
  | [.tup l], st => okD (.int l.length) st
  | [.obj n], st => match st[n]? with
    | some (.lst _ l) => okD (.int l.length) st
    | _ => none
  | [.str z], st => if small z.length then okD (.int z.length) st else none
  | _, _ => none
def fAbs : List D → Sto → Rt
  | [.int i], st => okD (.int (if i < 0 then -i else i)) st
  | _, _ => none
def fInt : List D → Sto → Rt
  | [.int i], st => okD (.int i) st
  | [.bl b], st => okD (.int (if b then 1 else 0)) st
  | _, _ => none
def fTuple : List D → Sto → Rt
  | [.tup l], st => okD (.tup l) st
  | [.obj n], st => match st[n]? with
    | some (.lst _ l) => okD (.tup l) st
    | _ => none
  | _, _ => none
def fList : List D → Sto → Rt
  | [.tup l], st => okL l st
  | [.obj n], st => match st[n]? with
    | some (.lst _ l) => okL l st
    | _ => none
  | _, _ => none
def blsOf : List D → Option (List Bool)
  | [] => some []
  | .bl i :: r => match blsOf r with | some l => some (i :: l) | none => none
  | _ :: _ => none
def fAll : List D → Sto → Rt
  | [.obj n], st => match st[n]? with
    | some (.lst _ l) => match blsOf l with | some bs => okD (.bl (bs.all id)) st | none => none
    | _ => none
  | _, _ => none
def fAny : List D → Sto → Rt
  | [.obj n], st => match st[n]? with
    | some (.lst _ l) => match blsOf l with | some bs => okD (.bl (bs.any id)) st | none => none
    | _ => none
  | _, _ => none
theorem mono_fLen : MonoFA fLen := by
  intro d st r st' h
  unfold fLen at h
  repeat' (split at h)
  all_goals first | exact mono_ok h | cases h
theorem mono_fAbs : MonoFA fAbs := by
  intro d st r st' h
  unfold fAbs at h
  repeat' (split at h)
  all_goals first | exact mono_ok h | cases h
theorem mono_fInt : MonoFA fInt := by
  intro d st r st' h
  unfold fInt at h
  repeat' (split at h)
  all_goals first | exact mono_ok h | cases h
theorem mono_fTuple : MonoFA fTuple := by
  intro d st r st' h
  unfold fTuple at h
  repeat' (split at h)
  all_goals first | exact mono_ok h | cases h
theorem mono_fList : MonoFA fList := by
  intro d st r st' h
  unfold fList at h
  repeat' (split at h)
  all_goals first | exact mono_okL h | cases h
theorem mono_fAll : MonoFA fAll := by
  intro d st r st' h
  unfold fAll at h
  repeat' (split at h)
  all_goals first | exact mono_ok h | cases h
theorem mono_fAny : MonoFA fAny := by
  intro d st r st' h
  unfold fAny at h
  repeat' (split at h)
  all_goals first | exact mono_ok h | cases h
theorem blsOf_vals {m : Nat → Addr} {L : Nat} {H : Hp} : ∀ {ds : List D} {vs : List V} {ns : List Bool}, RvL Γ.K m L H ds vs → blsOf ds = some ns → vs = ns.map V.bl
  | [], _, ns, .nil, h => by cases h; rfl
  | .bl i :: r, _, ns, .cons q rs, h => by
    unfold blsOf at h
    split at h
    · rename_i l e
      cases h
      cases q
      rw [blsOf_vals rs e]
      rfl
    · cases h
  | .non :: _, _, _, _, h => by cases h
  | .int _ :: _, _, _, _, h => by cases h
  | .str _ :: _, _, _, _, h => by cases h
  | .tup _ :: _, _, _, _, h => by cases h
  | .obj _ :: _, _, _, _, h => by cases h
abbrev rLenD (K : PySem.W.Frag) : List V → Hp → VK → Prop := fun xs H Q => (∃ p ys, xs = [.ref p] ∧ (SqL K H p ys ∨ SqT K H p ys) ∧ Q (.int ys.length) H) ∨ ∃ z, xs = [.str z] ∧ z.length ≤ sizeLine ∧ Q (.int z.length) H
theorem cr_len : CallR X (.builtin "len") (rLenD X.K) := call_len_seq.or call_len_str
theorem cs_len : CallSim Γ (rLenD Γ.K) fLen := fun
  | m, st, H, _, [.tup l], Q, E, s, .cons (.tup (a := p) (vs := vs) h1 r1) .nil, h => .inl ⟨p, vs, rfl, .inr h1, by have z := Res.ok (E := E) h s (Rv.int _); rw [r1.length] at z; exact z⟩
  | m, st, H, _, [.obj n], Q, E, s, .cons (.obj _) .nil, h => by
    dsimp only [fLen] at h
    split at h
    · rename_i ro l e
      obtain ⟨vs, a, r⟩ := s.list e
      exact .inl ⟨m n, vs, rfl, .inl a, by have z := h.ok s (.int _); rw [r.length] at z; exact z⟩
    · exact h.elim
  | m, st, H, _, [.str z], Q, E, s, .cons (.str _) .nil, h => by
    dsimp only [fLen] at h
    split at h
    · rename_i hz
      exact .inr ⟨z, rfl, small_le hz, h.ok s (.int _)⟩
    · exact h.elim
theorem cs_abs : CallSim Γ (fun xs H Q => ∃ i, xs = [.int i] ∧ Q (.int (if i < 0 then -i else i)) H) fAbs := fun
  | m, st, H, _, [.int i], Q, E, s, .cons (.int _) .nil, h => ⟨i, rfl, h.ok s (.int _)⟩
theorem cs_int : CallSim Γ (fun xs H Q => (∃ i, xs = [.int i] ∧ Q (.int i) H) ∨ ∃ k, xs = [.bl k] ∧ Q (.int (if k then 1 else 0)) H) fInt := fun
  | m, st, H, _, [.int i], Q, E, s, .cons (.int _) .nil, h => .inl ⟨i, rfl, h.ok s (.int _)⟩
  | m, st, H, _, [.bl i], Q, E, s, .cons (.bl _) .nil, h => .inr ⟨i, rfl, h.ok s (.int _)⟩
abbrev rTupleD (K : PySem.W.Frag) : List V → Hp → VK → Prop := fun xs H Q => ∃ p ys, xs = [.ref p] ∧ ((SqL K H p ys ∧ ∀ l, H l = none → Q (.ref l) (upd H l (.tup ys))) ∨ (SqT K H p ys ∧ Q (.ref p) H))
theorem cs_tuple : CallSim Γ (rTupleD Γ.K) fTuple := fun
  | m, st, H, _, [.tup l], Q, E, s, .cons (.tup (a := p) (vs := vs) h1 r1) .nil, h => ⟨p, vs, rfl, .inr ⟨h1, Res.ok (E := E) h s (Rv.tup h1 r1)⟩⟩
  | m, st, H, _, [.obj n], Q, E, s, .cons (.obj _) .nil, h => by
    dsimp only [fTuple] at h
    split at h
    · rename_i ro l e
      obtain ⟨vs, a, r⟩ := s.list e
      exact ⟨m n, vs, rfl, .inl ⟨a, fun p hp => h.tupN s r hp⟩⟩
    · exact h.elim
abbrev rListDD (K : PySem.W.Frag) : List V → Hp → VK → Prop := fun xs H Q => ∃ p ys, xs = [.ref p] ∧ (SqL K H p ys ∨ SqT K H p ys) ∧ ∀ l, H l = none → Q (.ref l) (upd H l (.lst ys))
theorem cs_list : CallSim Γ (rListDD Γ.K) fList := fun
  | m, st, H, _, [.tup l], Q, E, s, .cons (.tup (a := p) (vs := vs) h1 r1) .nil, h => ⟨p, vs, rfl, .inr h1, fun q hq => Res.lstN (E := E) h s r1 hq⟩
  | m, st, H, _, [.obj n], Q, E, s, .cons (.obj _) .nil, h => by
    dsimp only [fList] at h
    split at h
    · rename_i ro l e
      obtain ⟨vs, a, r⟩ := s.list e
      exact ⟨m n, vs, rfl, .inl a, fun p hp => h.lstN s r hp⟩
    · exact h.elim
theorem cs_all : CallSim Γ (rAll Γ.K) fAll := fun
  | m, st, H, _, [.obj n], Q, E, s, .cons (.obj _) .nil, h => by
    dsimp only [fAll] at h
    split at h
    · rename_i ro l e
      split at h
      · rename_i bs eb
        obtain ⟨vs, a, r⟩ := s.list e
        rw [blsOf_vals r eb] at a
        exact ⟨m n, bs, rfl, a, h.ok s (.bl _)⟩
      · exact h.elim
    · exact h.elim
theorem cs_any : CallSim Γ (rAny Γ.K) fAny := fun
  | m, st, H, _, [.obj n], Q, E, s, .cons (.obj _) .nil, h => by
    dsimp only [fAny] at h
    split at h
    · rename_i ro l e
      split at h
      · rename_i bs eb
        obtain ⟨vs, a, r⟩ := s.list e
        rw [blsOf_vals r eb] at a
        exact ⟨m n, bs, rfl, a, h.ok s (.bl _)⟩
      · exact h.elim
    · exact h.elim
def fMax2 : List D → Sto → Rt
  | [.int i, .int j], st => okD (.int (if j > i then j else i)) st
  | _, _ => none
def fMin2 : List D → Sto → Rt
  | [.int i, .int j], st => okD (.int (if j < i then j else i)) st
  | _, _ => none
theorem mono_fMax2 : MonoFA fMax2 := by
  intro d st r st' h
  unfold fMax2 at h
  repeat' (split at h)
  all_goals first | exact mono_ok h | cases h
theorem mono_fMin2 : MonoFA fMin2 := by
  intro d st r st' h
  unfold fMin2 at h
  repeat' (split at h)
  all_goals first | exact mono_ok h | cases h
theorem cs_max2 : CallSim Γ (fun xs H Q => ∃ i j, xs = [.int i, .int j] ∧ Q (.int (if j > i then j else i)) H) fMax2 := fun
  | m, st, H, _, [.int i, .int j], Q, E, s, .cons (.int _) (.cons (.int _) .nil), h => ⟨i, j, rfl, h.ok s (.int _)⟩
theorem cs_min2 : CallSim Γ (fun xs H Q => ∃ i j, xs = [.int i, .int j] ∧ Q (.int (if j < i then j else i)) H) fMin2 := fun
  | m, st, H, _, [.int i, .int j], Q, E, s, .cons (.int _) (.cons (.int _) .nil), h => ⟨i, j, rfl, h.ok s (.int _)⟩
end
end MP
end
section
set_option maxRecDepth 100000
set_option maxHeartbeats 1000000
namespace MP
open PySem PySem.Spec PyProof.Rows L2
/-! ### a dict walked: its keys, in the order they came -/
def ItkD (d : Addr) (n : Nat) : It :=
  ⟨fun i H => (∃ qs, H d = some (dctO d qs) ∧ qs.length = n) ∧ i < n, fun i H x H' => H' = H ∧ ∀ qs, H d = some (dctO d qs) → ∃ q, qs[i]? = some q ∧ x = .ref q.2.1, fun i H => (∃ qs, H d = some (dctO d qs) ∧ qs.length = n) ∧ n ≤ i⟩
section
variable {X : Cx} {pins : List (Addr × Obj)} {σ : L2.St} {H : Hp} {s : Shared}
theorem dct_rows (I : Inv X pins σ H s) {d : Addr} {qs : List (NestedKey × Addr × V)} (e : H d = some (dctO d qs)) :
    (d == sysModules) = false ∧ ∃ ob rows, s.heap.get? d = some ob ∧ ob.ExactDict ∧ ob.data = .dict rows rows.size ∧ rows.size = qs.length ∧ ∀ (i : Nat) (q : NestedKey × Addr × V), qs[i]? = some q → ∃ en : DictEntry, rows[i]? = some en ∧ en.key = .ref q.2.1 := by
  obtain ⟨⟨h1, h2, xs, h3, ob, rows, ep, g1, g2, g3, g4, g5, g6⟩, _, _⟩ := I.hok d _ e
  subst g6
  have l1 := Paired.length h3
  refine ⟨h2, ob, rows, g1, g2, g3, ?_, fun i q hq => ?_⟩
  · rw [← Array.length_toList, g4, List.length_map, l1]
  · obtain ⟨x, hx, e1, e2, _⟩ := paired_get h3 hq
    refine ⟨⟨hashK x.1, .ref x.2.1, x.2.2⟩, ?_, by rw [e2]⟩
    rw [← Array.getElem?_toList, g4, List.getElem?_map, hx]
    rfl
theorem turn_dct {P : Program} {w : World} {K : PySem.W.Frag} {tg : Expr} {d : Addr} {n : Nat} (it : Addr) : Turn P w K tg (ItkD d n) [it] it (fun i h => h.IsKeyIter it d i n n) where
  mem := List.mem_singleton.mpr rfl
  obj := fun i h st b hb => by
    cases List.mem_singleton.mp hb
    obtain ⟨oi, e, c, dd⟩ := st
    exact ⟨oi, e, fun v z => by rw [dd] at z; cases z⟩
  keep := fun i h h' st k => st.at fun oi e => k it (List.mem_singleton.mpr rfl) oi e
  item := by
    intro X hP hw hK hc i pins s σ H E I hf st hg
    subst hP hw hK
    obtain ⟨⟨qs, e, hl⟩, hi⟩ := hg
    obtain ⟨f0, f1, f2, f3, f4, f5⟩ := hf it (List.mem_singleton.mpr rfl)
    obtain ⟨big, ob, rows, g1, g2, g3, g4, g5⟩ := dct_rows I e
    have hn : rows.size = n := g4.trans hl
    obtain ⟨en, hen, hkey⟩ := g5 i _ (List.getElem?_eq_getElem (by omega))
    rw [hn] at g3
    refine next_key_item st g1 g3 hn hen fun h' st' sb => ?_
    have I1 : Inv X pins σ H { s with heap := h' } := I.turned (t' := s.toks) (fun b ob hb z => (sb.2 b hb).trans z) f0 f1 f3 f4 f5
    obtain ⟨oi, z, c, dd⟩ := id st'
    refine ⟨en.key, rfl, go_of (s := { s with heap := h' }) z c dd (by decide) ⟨.ref (qs[i]'(by omega)).2.1, H, I1, hkey, ⟨rfl, fun qs' e' => ?_⟩, st', fun b hb => (hf b hb).1⟩⟩
    obtain ⟨_, ob', rows', k1, _, k3, k4, k5⟩ := dct_rows I e'
    rw [g1] at k1
    cases k1
    rw [g3] at k3
    cases k3
    obtain ⟨en', hen', hkey'⟩ := k5 i _ (List.getElem?_eq_getElem (show i < qs'.length by omega))
    rw [hen] at hen'
    cases hen'
    refine ⟨_, List.getElem?_eq_getElem (show i < qs'.length by omega), ?_⟩
    rw [hkey] at hkey'
    injection hkey' with q
    rw [q]
  done := by
    intro X hP hw hK hc i pins s σ H E I hf st hg
    subst hP hw hK
    obtain ⟨⟨qs, e, hl⟩, hi⟩ := hg
    obtain ⟨f0, f1, f2, f3, f4, f5⟩ := hf it (List.mem_singleton.mpr rfl)
    obtain ⟨big, ob, rows, g1, g2, g3, g4, g5⟩ := dct_rows I e
    have hn : rows.size = n := g4.trans hl
    rw [hn] at g3
    exact next_key_end (I.ok.hd hc) st g1 g3 hn hi fun h' eb => ⟨rfl, I.turned (t' := s.toks) (fun b ob hb z => eb b ob hb z) f0 f1 f3 f4 f5⟩
  self := fun A i s Q E st h => by
    refine wpAny_pyIter_slot st.typeIs F.slot_dict_keyiterator_iter (wpAny_call_entry F.slot_dict_keyiterator_iter st.typeIs F.entry_dict_keyiterator_iter (show wpAny _ _ (ret (.ref it)) _ _ s from wpAny_pure ⟨_, rfl, "dict_keyiterator", _, st.typeIs, F.slot_dict_keyiterator_next.lookup, h⟩) (F.args_dict_keyiterator_iter_1 _))
/-- a list, a tuple, or a dict -/
theorem pi_walk {tg l : Expr} {tl : TE} (hl : PE X l tl) : PI X tg l (fun σ H R => tl σ H fun x H1 => ∃ a, x = .ref a ∧ (((∃ xs, SqL X.K H1 a xs) ∧ R (Itl X.K a) H1) ∨ ((∃ xs, SqT X.K H1 a xs) ∧ R (Itt X.K a) H1) ∨ (∃ qs, H1 a = some (dctO a qs) ∧ R (ItkD a qs.length) H1) ∨ ∃ lo c n, H1 a = some (rgO a lo c n) ∧ R (Itc lo c n) H1)) := by
  refine ⟨fun pins s σ H R I h => ?_⟩
  refine thn (hl.run pins s σ H _ I h) fun v s1 ⟨x, H1, I1, r1, q1⟩ => ?_
  obtain ⟨a, e, q | q | q | q⟩ := q1
  · obtain ⟨⟨xs, hq⟩, q⟩ := q
    subst e
    cases r1
    obtain ⟨its, rv, p, hz⟩ := I1.list hq
    refine wpAny_pyIter_list p.isList ?_
    refine ⟨s1.heap.objs.size, [s1.heap.objs.size], _, _, H1, rfl, I1.kept (t' := s1.toks) fun b o e => Heap.get?_push_of_some _ e, turn_list a _, ⟨_, Heap.get?_push_size _ rfl, rfl, rfl⟩, fun b hb => ?_, q⟩
    cases List.mem_singleton.mp hb
    exact I1.fpOk (Nat.le_refl _) (I1.hok.fresh (Nat.le_refl _))
  · obtain ⟨⟨xs, hq⟩, q⟩ := q
    subst e
    cases r1
    obtain ⟨its, rv, p, hz⟩ := I1.tuple hq
    refine wpAny_pyIter_tuple (show s1.heap.IsTuple a its.toArray from p) ?_
    refine ⟨s1.heap.objs.size, [s1.heap.objs.size], _, _, H1, rfl, I1.kept (t' := s1.toks) fun b o e => Heap.get?_push_of_some _ e, turn_tuple a _, ⟨_, Heap.get?_push_size _ rfl, rfl, rfl⟩, fun b hb => ?_, q⟩
    cases List.mem_singleton.mp hb
    exact I1.fpOk (Nat.le_refl _) (I1.hok.fresh (Nat.le_refl _))
  · obtain ⟨qs, hq, q⟩ := q
    subst e
    cases r1
    obtain ⟨big, ob, rows, g1, g2, g3, g4, g5⟩ := dct_rows I1 hq
    refine iter_keys big g1 g2 g3 ?_
    rw [g4]
    refine ⟨s1.heap.objs.size, [s1.heap.objs.size], _, _, H1, rfl, I1.kept (t' := s1.toks) fun b o e => Heap.get?_push_of_some _ e, turn_dct _, ⟨_, Heap.get?_push_size _ rfl, rfl, rfl⟩, fun b hb => ?_, q⟩
    cases List.mem_singleton.mp hb
    exact I1.fpOk (Nat.le_refl _) (I1.hok.fresh (Nat.le_refl _))
  · obtain ⟨lo, c, n, hq, q⟩ := q
    subst e
    cases r1
    obtain ⟨⟨j, t, u, v, ⟨c0, c1, c2, c3⟩, hg⟩, _, _⟩ := I1.hok a _ hq
    refine wpAny_pyIter_range (show IsRange s1.heap a lo j c t u v from hg) c2 ?_
    refine pi_one (tk := s1.toks) I1 _ (turn_rangeC _ lo c n) ?_ q
    have e1 : lo + ((0 : Nat) : Int) * c = lo := by simp
    have e2 : (n : Int) - ((0 : Nat) : Int) = Builtin.Range.rangeSize lo j c := by rw [c3]; simp
    show IsRangeIter _ _ (lo + ((0 : Nat) : Int) * c) ((n : Int) - ((0 : Nat) : Int)) c
    rw [e1, e2]
    exact Heap.get?_push_size _ rfl
theorem DctR.key {K : PySem.W.Frag} {m : Nat → Addr} {L : Nat} : ∀ {ps : List (D × D)} {qs : List (NestedKey × Addr × V)}, DctR K m L H ps qs → ∀ {i : Nat} {q : NestedKey × Addr × V}, qs[i]? = some q → ∃ p, ps[i]? = some p ∧ Rv K m L H p.1 (.ref q.2.1)
  | _, _, .nil, _, _, h => by simp at h
  | _, _, .cons o r1 r2 rs, 0, q, h => by
    rw [List.getElem?_cons_zero] at h
    cases h
    exact ⟨_, List.getElem?_cons_zero, r1⟩
  | _, _, .cons o r1 r2 rs, i + 1, q, h => by
    rw [List.getElem?_cons_succ] at h ⊢
    exact DctR.key rs h
theorem DctR.len : ∀ {K : PySem.W.Frag} {m : Nat → Addr} {L : Nat} {ps : List (D × D)} {qs : List (NestedKey × Addr × V)}, DctR K m L H ps qs → ps.length = qs.length
  | _, _, _, _, _, .nil => rfl
  | _, _, _, _, _, .cons o r1 r2 rs => by rw [List.length_cons, List.length_cons, DctR.len rs]
end
end MP
end
section
set_option maxRecDepth 100000
set_option maxHeartbeats 1000000
namespace MP
open PySem L2

/-! ### targets -/
inductive Tg where
  | nm (i : Nat)
  | tp (l : List Tg)
mutual
def asg : Tg → D → Ls → Option Ls
  | .nm i, d, ls => some (ls.set i (some d))
  | .tp ts, .tup ds, ls => asgs ts ds ls
  | .tp _, _, _ => none
def asgs : List Tg → List D → Ls → Option Ls
  | [], [], ls => some ls
  | t :: ts, d :: ds, ls => match asg t d ls with
    | some l => asgs ts ds l
    | none => none
  | [], _ :: _, _ => none
  | _ :: _, [], _ => none
end
mutual
def tslots : Tg → List Nat
  | .nm i => [i]
  | .tp ts => tsslots ts
def tsslots : List Tg → List Nat
  | [] => []
  | t :: ts => tslots t ++ tsslots ts
end
mutual
theorem asg_len : ∀ {t : Tg} {d : D} {ls l : Ls}, asg t d ls = some l → l.length = ls.length
  | .nm i, d, ls, l, h => by
    unfold asg at h
    cases h
    exact List.length_set
  | .tp ts, .tup ds, ls, l, h => by
    unfold asg at h
    exact asgs_len h
  | .tp ts, .non, ls, l, h => by unfold asg at h; cases h
  | .tp ts, .bl _, ls, l, h => by unfold asg at h; cases h
  | .tp ts, .int _, ls, l, h => by unfold asg at h; cases h
  | .tp ts, .str _, ls, l, h => by unfold asg at h; cases h
  | .tp ts, .obj _, ls, l, h => by unfold asg at h; cases h
theorem asgs_len : ∀ {ts : List Tg} {ds : List D} {ls l : Ls}, asgs ts ds ls = some l → l.length = ls.length
  | [], [], ls, l, h => by unfold asgs at h; cases h; rfl
  | t :: ts, d :: ds, ls, l, h => by
    unfold asgs at h
    split at h
    · rename_i l1 e
      exact (asgs_len h).trans (asg_len e)
    · cases h
  | [], _ :: _, ls, l, h => by unfold asgs at h; cases h
  | _ :: _, [], ls, l, h => by unfold asgs at h; cases h
end
def tG (Γ : Gam) (t : Tg) : TG := fun v σ H Q => ∃ m L ls d ls', LsR Γ m L H ls σ ∧ Rv Γ.K m L H d v ∧ asg t d ls = some ls' ∧ ∀ σ', LsR Γ m L H ls' σ' → (∀ j, j ∉ tslots t → σ'[j]? = σ[j]?) → Q σ' H
def tGs (Γ : Gam) (ts : List Tg) : TGs := fun vs σ H Q => ∃ m L ls ds ls', LsR Γ m L H ls σ ∧ RvL Γ.K m L H ds vs ∧ asgs ts ds ls = some ls' ∧ ∀ σ', LsR Γ m L H ls' σ' → (∀ j, j ∉ tsslots ts → σ'[j]? = σ[j]?) → Q σ' H
theorem _root_.L2.PG.imp {X : Cx} {e : Expr} {t t' : TG} (h : PG X e t) (q : ∀ v σ H Q, t' v σ H Q → t v σ H Q) : PG X e t' := ⟨fun pins s σ H v u Q I r w => h.run pins s σ H v u Q I r (q v σ H Q w)⟩
theorem _root_.L2.PGs.imp {X : Cx} {e : List Expr} {t t' : TGs} (h : PGs X e t) (q : ∀ v σ H Q, t' v σ H Q → t v σ H Q) : PGs X e t' := ⟨fun pins s σ H v u Q I r w => h.run pins s σ H v u Q I r (q v σ H Q w)⟩
theorem _root_.L2.PI.imp {X : Cx} {tg e : Expr} {t t' : TI} (h : PI X tg e t) (q : ∀ σ H R, t' σ H R → t σ H R) : PI X tg e t' := ⟨fun pins s σ H R I w => h.run pins s σ H R I (q σ H R w)⟩
theorem tslots_tp {ts : List Tg} : tslots (.tp ts) = tsslots ts := by rw [tslots]
theorem tsslots_cons {t : Tg} {ts : List Tg} : tsslots (t :: ts) = tslots t ++ tsslots ts := by rw [tsslots]
section
variable {X : Cx} {Γ : Gam} {W : WX} {e a b c o tg : Expr} {da db dc : De} {pos p2 : Pos} {es rest : List Expr} {das : List De} {t : Tg} {ts : List Tg}
theorem sg_name {i : Nat} {x : Str} (hN : X.N.Nodup) (hi : X.N[i]? = some x) (hx : Loc X.env.scope x) (hf : X.fn x = true ∨ X.env.scope.names.lookup x = some .local) : PG X (.Name x pos) (tG Γ (.nm i)) :=
  (pg_name hN hi hx hf).imp fun v σ H Q ⟨m, L, ls, d, ls', l, r, h, q⟩ => by
    unfold asg at h
    cases h
    refine q _ (l.set i r) fun j hj => ?_
    rw [List.getElem?_set_ne]
    rintro rfl
    exact hj (by rw [tslots]; exact List.mem_singleton.mpr rfl)
theorem sgs_nil : PGs X [] (tGs Γ []) := pgs_nil.imp fun vs σ H Q ⟨m, L, ls, ds, ls', l, r, h, q⟩ => by
  match ds, r, h with
  | [], .nil, h =>
    unfold asgs at h
    cases h
    exact ⟨rfl, q σ l fun _ _ => rfl⟩
  | _ :: _, _, h => unfold asgs at h; cases h
theorem sgs_cons (h1 : PG X e (tG Γ t)) (h2 : PGs X es (tGs Γ ts)) (hs : (assignEach (e :: es) X.env).map (·.2) = assign e X.env :: (assignEach es X.env).map (·.2)) : PGs X (e :: es) (tGs Γ (t :: ts)) :=
  (pgs_cons h1 h2 hs).imp fun vs σ H Q ⟨m, L, ls, ds, ls', l, r, h, q⟩ => by
    match ds, r, h with
    | [], _, h => unfold asgs at h; cases h
    | d :: ds, .cons r rs, h =>
      unfold asgs at h
      split at h
      · rename_i l1 e1
        refine ⟨_, _, rfl, m, L, ls, d, l1, l, r, e1, fun σ1 hl1 hk1 => ⟨m, L, l1, ds, ls', hl1, rs, h, fun σ2 hl2 hk2 => q σ2 hl2 fun j hj => ?_⟩⟩
        rw [tsslots_cons, List.mem_append] at hj
        exact (hk2 j fun z => hj (.inr z)).trans (hk1 j fun z => hj (.inl z))
      · cases h
theorem sg_tup {k n : Nat} (hK : X.K = Γ.K) (hc : X.calm = true) (h : PGs X es (tGs Γ ts)) (hn : (assignEach es X.env).length = n) (hst : (assignEach es X.env).findIdx? (·.1) = none) (hlen : ts.length = n) : PG X (.Tuple es k pos) (tG Γ (.tp ts)) :=
  (pg_tup hc h hn hst).imp fun v σ H Q ⟨m, L, ls, d, ls', l, r, h, q⟩ => by
    have alen : ∀ {ts : List Tg} {ds : List D} {ls l : Ls}, asgs ts ds ls = some l → ds.length = ts.length := by
      intro ts
      induction ts with
      | nil =>
        intro ds ls l h
        cases ds with
        | nil => rfl
        | cons _ _ => unfold asgs at h; cases h
      | cons t ts ih =>
        intro ds ls l h
        cases ds with
        | nil => unfold asgs at h; cases h
        | cons d ds =>
          unfold asgs at h
          split at h
          · rw [List.length_cons, List.length_cons, ih h]
          · cases h
    match d, r, h with
    | .tup ds, .tup (a := p) (vs := vs) h1 r1, h =>
      unfold asg at h
      refine ⟨p, vs, rfl, by rw [hK]; exact h1, by rw [← r1.length, alen h, hlen], m, L, ls, ds, ls', l, r1, h, fun σ' hl hk => q σ' hl fun j hj => hk j ?_⟩
      rw [tslots_tp] at hj
      exact hj
    | .non, _, h => unfold asg at h; cases h
    | .bl _, _, h => unfold asg at h; cases h
    | .int _, _, h => unfold asg at h; cases h
    | .str _, _, h => unfold asg at h; cases h
    | .obj _, _, h => unfold asg at h; cases h

/-! ### what is walked -/
mutual
def beqD : D → D → Bool
  | .non, .non => true
  | .bl a, .bl b => a == b
  | .int a, .int b => a == b
  | .str a, .str b => decide (a = b)
  | .tup a, .tup b => beqDs a b
  | .obj a, .obj b => a == b
  | .non, .bl _ => false | .non, .int _ => false | .non, .str _ => false | .non, .tup _ => false | .non, .obj _ => false
  | .bl _, .non => false | .bl _, .int _ => false | .bl _, .str _ => false | .bl _, .tup _ => false | .bl _, .obj _ => false
  | .int _, .non => false | .int _, .bl _ => false | .int _, .str _ => false | .int _, .tup _ => false | .int _, .obj _ => false
  | .str _, .non => false | .str _, .bl _ => false | .str _, .int _ => false | .str _, .tup _ => false | .str _, .obj _ => false
  | .tup _, .non => false | .tup _, .bl _ => false | .tup _, .int _ => false | .tup _, .str _ => false | .tup _, .obj _ => false
  | .obj _, .non => false | .obj _, .bl _ => false | .obj _, .int _ => false | .obj _, .str _ => false | .obj _, .tup _ => false
def beqDs : List D → List D → Bool
  | [], [] => true
  | a :: r, b :: t => beqD a b && beqDs r t
  | [], _ :: _ => false
  | _ :: _, [] => false
end
mutual
theorem beqD_eq : ∀ {a b : D}, beqD a b = true → a = b
  | .non, .non, _ => rfl
  | .bl a, .bl b, h => by unfold beqD at h; rw [beq_iff_eq.mp h]
  | .int a, .int b, h => by unfold beqD at h; rw [beq_iff_eq.mp h]
  | .str a, .str b, h => by unfold beqD at h; rw [of_decide_eq_true h]
  | .tup a, .tup b, h => by unfold beqD at h; rw [beqDs_eq h]
  | .obj a, .obj b, h => by unfold beqD at h; rw [beq_iff_eq.mp h]
  | .non, .bl _, h => by cases h
  | .non, .int _, h => by cases h
  | .non, .str _, h => by cases h
  | .non, .tup _, h => by cases h
  | .non, .obj _, h => by cases h
  | .bl _, .non, h => by cases h
  | .bl _, .int _, h => by cases h
  | .bl _, .str _, h => by cases h
  | .bl _, .tup _, h => by cases h
  | .bl _, .obj _, h => by cases h
  | .int _, .non, h => by cases h
  | .int _, .bl _, h => by cases h
  | .int _, .str _, h => by cases h
  | .int _, .tup _, h => by cases h
  | .int _, .obj _, h => by cases h
  | .str _, .non, h => by cases h
  | .str _, .bl _, h => by cases h
  | .str _, .int _, h => by cases h
  | .str _, .tup _, h => by cases h
  | .str _, .obj _, h => by cases h
  | .tup _, .non, h => by cases h
  | .tup _, .bl _, h => by cases h
  | .tup _, .int _, h => by cases h
  | .tup _, .str _, h => by cases h
  | .tup _, .obj _, h => by cases h
  | .obj _, .non, h => by cases h
  | .obj _, .bl _, h => by cases h
  | .obj _, .int _, h => by cases h
  | .obj _, .str _, h => by cases h
  | .obj _, .tup _, h => by cases h
theorem beqDs_eq : ∀ {a b : List D}, beqDs a b = true → a = b
  | [], [], _ => rfl
  | a :: r, b :: t, h => by
    unfold beqDs at h
    obtain ⟨h1, h2⟩ := Bool.and_eq_true_iff.mp h
    rw [beqD_eq h1, beqDs_eq h2]
  | [], _ :: _, h => by cases h
  | _ :: _, [], h => by cases h
end
mutual
theorem beqD_refl : ∀ (a : D), beqD a a = true
  | .non => rfl
  | .bl a => by unfold beqD; exact beq_self_eq_true a
  | .int a => by unfold beqD; exact beq_self_eq_true a
  | .str a => by unfold beqD; exact decide_eq_true rfl
  | .tup a => by unfold beqD; exact beqDs_refl a
  | .obj a => by unfold beqD; exact beq_self_eq_true a
theorem beqDs_refl : ∀ (a : List D), beqDs a a = true
  | [] => rfl
  | a :: r => by unfold beqDs; rw [beqD_refl a, beqDs_refl r]; rfl
end
/-- what has to stand still while it is walked: nothing; a list; two lists; a dict of these keys -/
inductive Gd where
  | no
  | one (n : Nat) (l : List D)
  | two (n : Nat) (l : List D) (k : Nat) (r : List D)
  | dk (n : Nat) (l : List D)
def lstB (n : Nat) (l : List D) (st : Sto) : Bool := match st[n]? with
  | some (.lst _ l') => beqDs l' l
  | _ => false
def gdB (gd : Gd) (st : Sto) : Bool := match gd with
  | .no => true
  | .one n l => lstB n l st
  | .two n l k r => lstB n l st && lstB k r st
  | .dk n l => match st[n]? with
    | some (.dct ps) => beqDs (ps.map (·.1)) l
    | _ => false
theorem lstB_at {n : Nat} {l : List D} {st : Sto} (h : lstB n l st = true) : ∃ ro, st[n]? = some (.lst ro l) := by
  unfold lstB at h
  split at h
  · rename_i ro l' e
    rw [beqDs_eq h] at e
    exact ⟨ro, e⟩
  · cases h
theorem lstB_of {n : Nat} {l : List D} {st : Sto} {ro : Bool} (h : st[n]? = some (.lst ro l)) : lstB n l st = true := by
  unfold lstB
  rw [h]
  exact beqDs_refl l
theorem gdB_at {n : Nat} {l : List D} {st : Sto} (h : gdB (.one n l) st = true) : ∃ ro, st[n]? = some (.lst ro l) := lstB_at h
theorem gdB_of {n : Nat} {l : List D} {st : Sto} {ro : Bool} (h : st[n]? = some (.lst ro l)) : gdB (.one n l) st = true := lstB_of h
theorem gdB_two {n k : Nat} {l r : List D} {st : Sto} (h : gdB (.two n l k r) st = true) : (∃ ro, st[n]? = some (.lst ro l)) ∧ ∃ ro, st[k]? = some (.lst ro r) :=
  let ⟨a, b⟩ := Bool.and_eq_true_iff.mp h
  ⟨lstB_at a, lstB_at b⟩
theorem gdB_dk {n : Nat} {l : List D} {st : Sto} (h : gdB (.dk n l) st = true) : ∃ ps, st[n]? = some (.dct ps) ∧ ps.map (·.1) = l := by
  unfold gdB at h
  dsimp only at h
  split at h
  · rename_i ps e
    exact ⟨ps, e, beqDs_eq h⟩
  · cases h
/-- J walks the items; gd: the list that has to stand still -/
def IterOk (Γ : Gam) (J : It) (items : List D) (gd : Gd) (m0 : Nat → Addr) (L0 : Nat) (H0 : Hp) : Prop :=
  ∀ i m st H, i ≤ items.length → Ext m0 L0 m → L0 ≤ st.length → Keep H0 H → StR Γ m st H → gdB gd st = true →
    (i = items.length → J.stop i H) ∧ (i < items.length → J.go i H ∧ ∀ x H', J.yld i H x H' → ∃ d, items[i]? = some d ∧ Keep H H' ∧ StR Γ m st H' ∧ Rv Γ.K m st.length H' d x)
inductive RsI where
  | it (items : List D) (gd : Gd)
  | exc (c : Str) (fs : List (Str × D))
abbrev Di := Ls → Sto → Option (RsI × Sto)
def ResI (Γ : Gam) (m : Nat → Addr) (L : Nat) (H : Hp) (r : Option (RsI × Sto)) (R : It → Hp → Prop) (E : XK) : Prop := match r with
  | none => False
  | some (.it items gd, st') => L ≤ st'.length ∧ ∀ m' H' J, Ext m L m' → Keep H H' → StR Γ m' st' H' → IterOk Γ J items gd m' st'.length H' → R J H'
  | some (.exc c fs, st') => L ≤ st'.length ∧ AfterExc Γ m L H st' c fs E
def MonoI (di : Di) : Prop := ∀ ls st r st', di ls st = some (r, st') → st.length ≤ st'.length
def tI (Γ : Gam) (W : WX) (di : Di) : TI := fun σ H R => ∃ m ls st, StR Γ m st H ∧ LsR Γ m st.length H ls σ ∧ ResI Γ m st.length H (di ls st) R (fun c d H' => W c d σ H')
structure SimI (X : Cx) (Γ : Gam) (W : WX) (tg e : Expr) (di : Di) : Prop where
  mono : MonoI di
  pi : PI X tg e (tI Γ W di)
/-- a list or a tuple -/
def rgcD (lo c : Int) (n : Nat) : List D := (List.range n).map fun i => .int (lo + (i : Nat) * c)
theorem rgcD_len {lo c : Int} {n : Nat} : (rgcD lo c n).length = n := by simp [rgcD]
theorem rgcD_get {lo c : Int} {n i : Nat} (h : i < n) : (rgcD lo c n)[i]? = some (.int (lo + (i : Nat) * c)) := by
  unfold rgcD
  rw [List.getElem?_map, List.getElem?_range h]
  rfl
theorem iterOk_rangeC {m0 : Nat → Addr} {L0 : Nat} {H0 : Hp} {lo c : Int} {n : Nat} : IterOk Γ (Itc lo c n) (rgcD lo c n) .no m0 L0 H0 := by
  intro i m st H hi e hL k s _
  rw [rgcD_len] at hi ⊢
  refine ⟨fun h => by rw [h]; exact Nat.le_refl _, fun h => ⟨h, fun x H' y => ?_⟩⟩
  obtain ⟨rfl, rfl⟩ := y
  exact ⟨_, rgcD_get h, Keep.refl _, s, .int _⟩
def fSeq : D → Sto → Option (RsI × Sto)
  | .tup l, st => some (.it l .no, st)
  | .obj n, st => match st[n]? with
    | some (.lst _ l) => some (.it l (.one n l), st)
    | some (.dct ps) => some (.it (ps.map (·.1)) (.dk n (ps.map (·.1))), st)
    | some (.rng lo c k) => some (.it (rgcD lo c k) .no, st)
    | _ => none
  | _, _ => none
def bindI (r : Rt) (f : D → Sto → Option (RsI × Sto)) : Option (RsI × Sto) := match r with
  | some (.ok d, st1) => f d st1
  | some (.exc c fs, st1) => some (.exc c fs, st1)
  | none => none
def dSeq (da : De) : Di := fun ls st => bindI (da ls st) fSeq
theorem iterOk_list {m0 : Nat → Addr} {L0 : Nat} {H0 : Hp} {n : Nat} {l : List D} (hn : n < L0) : IterOk Γ (Itl Γ.K (m0 n)) l (.one n l) m0 L0 H0 := by
  intro i m st H hi e hL k s hg
  obtain ⟨ro, hg⟩ := gdB_at hg
  obtain ⟨vs, a, r⟩ := s.list hg
  rw [e n hn] at a
  refine ⟨fun h => ⟨vs, a, by rw [h, r.length]; exact Nat.le_refl _⟩, fun h => ⟨?_, fun x H' y => ?_⟩⟩
  · have hv : i < vs.length := by rw [← r.length]; exact h
    exact ⟨vs, vs[i], a, by simp [hv]⟩
  · obtain ⟨rfl, y⟩ := y
    obtain ⟨d, hd, rd⟩ := r.getV (y vs a)
    exact ⟨d, hd, Keep.refl _, s, rd⟩
theorem iterOk_tup {m0 : Nat → Addr} {L0 : Nat} {H0 : Hp} {a : Addr} {l : List D} {vs : List V} (ha : SqT Γ.K H0 a vs) (r : RvL Γ.K m0 L0 H0 l vs) : IterOk Γ (Itt Γ.K a) l .no m0 L0 H0 := by
  intro i m st H hi e hL k s _
  have a := k.sqT ha
  have r := r.mono e hL k
  refine ⟨fun h => ⟨vs, a, by rw [h, r.length]; exact Nat.le_refl _⟩, fun h => ⟨?_, fun x H' y => ?_⟩⟩
  · have hv : i < vs.length := by rw [← r.length]; exact h
    exact ⟨vs, vs[i], a, by simp [hv]⟩
  · obtain ⟨rfl, y⟩ := y
    obtain ⟨d, hd, rd⟩ := r.getV (y vs a)
    exact ⟨d, hd, Keep.refl _, s, rd⟩
theorem iterOk_dct {m0 : Nat → Addr} {L0 : Nat} {H0 : Hp} {n : Nat} {l : List D} (hn : n < L0) : IterOk Γ (ItkD (m0 n) l.length) l (.dk n l) m0 L0 H0 := by
  intro i m st H hi e hL k s hg
  obtain ⟨ps, e0, e1⟩ := gdB_dk hg
  obtain ⟨qs, a, r⟩ := s.cell n _ e0
  rw [e n hn] at a
  have len : qs.length = l.length := by rw [← e1, List.length_map, r.len]
  refine ⟨fun h => ⟨⟨qs, a, len⟩, by omega⟩, fun h => ⟨⟨⟨qs, a, len⟩, h⟩, fun x H' y => ?_⟩⟩
  obtain ⟨rfl, y⟩ := y
  obtain ⟨q, hq, rfl⟩ := y qs a
  obtain ⟨p, hp, rp⟩ := r.key hq
  exact ⟨p.1, by rw [← e1, List.getElem?_map, hp]; rfl, Keep.refl _, s, rp⟩
/-- the value, then what is walked -/
theorem tD_bindI {f : D → Sto → Option (RsI × Sto)} (ma : Mono da) {σ : L2.St} {H : Hp} {ls : Ls} {m : Nat → Addr} {st : Sto} {R : It → Hp → Prop} (s : StR Γ m st H) (l : LsR Γ m st.length H ls σ) (hf : ∀ d st r st', f d st = some (r, st') → st.length ≤ st'.length)
    (h : ResI Γ m st.length H (bindI (da ls st) f) R (fun c d H' => W c d σ H')) {Q : VK}
    (hQ : ∀ m1 d st1 v H1, StR Γ m1 st1 H1 → LsR Γ m1 st1.length H1 ls σ → Rv Γ.K m1 st1.length H1 d v → ResI Γ m1 st1.length H1 (f d st1) R (fun c d H' => W c d σ H') → Q v H1) : tD Γ W da σ H Q := by
  refine ⟨m, ls, st, s, l, ?_⟩
  have ma := fun r st' q => ma ls st r st' q
  match da ls st, h, ma with
  | some (.exc c fs, st1), h, _ => exact h
  | some (.ok d, st1), h, ma =>
    have hl := ma _ _ rfl
    refine ⟨hl, fun m1 H1 v e1 k1 s1 r1 => hQ m1 d st1 v H1 s1 (l.mono e1 hl k1) r1 ?_⟩
    have h : ResI Γ m st.length H (f d st1) R (fun c d H' => W c d σ H') := h
    have hf := fun r st' q => hf d st1 r st' q
    match f d st1, h, hf with
    | some (.it items gd, st2), h, hf => exact ⟨hf _ _ rfl, fun m2 H2 J e2 k2 s2 q => h.2 m2 H2 J (e1.trans e2 hl) (k1.trans k2) s2 q⟩
    | some (.exc c fs, st2), h, hf => exact ⟨hf _ _ rfl, fun m2 H2 J e2 k2 s2 q => h.2 m2 H2 J (e1.trans e2 hl) (k1.trans k2) s2 q⟩
theorem mono_fSeq : ∀ d st r st', fSeq d st = some (r, st') → st.length ≤ st'.length := by
  intro d st r st' h
  unfold fSeq at h
  repeat' (split at h)
  all_goals first | (cases h; exact Nat.le_refl _) | cases h
theorem monoI_bind {f : D → Sto → Option (RsI × Sto)} (ma : Mono da) (hf : ∀ d st r st', f d st = some (r, st') → st.length ≤ st'.length) : MonoI fun ls st => bindI (da ls st) f := fun ls st r st' h => by
  have ma := fun r st' q => ma ls st r st' q
  dsimp only at h
  match da ls st, h, ma with
  | some (.exc c fs, st1), h, ma =>
    cases h
    exact ma _ _ rfl
  | some (.ok d, st1), h, ma => exact Nat.le_trans (ma _ _ rfl) (hf _ _ _ _ h)
  | none, h, _ => cases h
theorem si_seq (hK : X.K = Γ.K) (ha : Sim X Γ W a da) : SimI X Γ W tg a (dSeq da) := by
  refine ⟨monoI_bind ha.mono mono_fSeq, (pi_walk ha.pe).imp fun σ H R ⟨m, ls, st, s, l, h⟩ => ?_⟩
  refine tD_bindI ha.mono s l mono_fSeq h fun m1 d st1 v H1 s1 l1 r1 q => ?_
  match d, r1, q with
  | .tup ds, .tup (a := p) (vs := vs) h1 r1, q => exact ⟨p, rfl, .inr (.inl ⟨⟨vs, by rw [hK]; exact h1⟩, by rw [hK]; exact q.2 m1 H1 _ (Ext.refl _ _) (Keep.refl _) s1 (iterOk_tup h1 r1)⟩)⟩
  | .obj n, .obj hn, q =>
    dsimp only [fSeq] at q
    split at q
    · rename_i ro l e
      obtain ⟨vs, a, r⟩ := s1.list e
      exact ⟨m1 n, rfl, .inl ⟨⟨vs, by rw [hK]; exact a⟩, by rw [hK]; exact q.2 m1 H1 _ (Ext.refl _ _) (Keep.refl _) s1 (iterOk_list hn)⟩⟩
    · rename_i ps e
      obtain ⟨qs, a, r⟩ := s1.cell n _ e
      refine ⟨m1 n, rfl, .inr (.inr (.inl ⟨qs, a, q.2 m1 H1 _ (Ext.refl _ _) (Keep.refl _) s1 ?_⟩))⟩
      have z := iterOk_dct (Γ := Γ) (m0 := m1) (L0 := st1.length) (H0 := H1) (l := ps.map (·.1)) hn
      rw [List.length_map, r.len] at z
      exact z
    · rename_i lo c k e
      have a := s1.cell n _ e
      exact ⟨m1 n, rfl, .inr (.inr (.inr ⟨lo, c, k, a, q.2 m1 H1 _ (Ext.refl _ _) (Keep.refl _) s1 iterOk_rangeC⟩))⟩
    · exact q.elim
/-! ranges -/
def rgD (lo : Int) (n : Nat) : List D := (List.range n).map fun i => .int (lo + (i : Nat))
theorem rgD_len {lo : Int} {n : Nat} : (rgD lo n).length = n := by simp [rgD]
theorem rgD_get {lo : Int} {n i : Nat} (h : i < n) : (rgD lo n)[i]? = some (.int (lo + (i : Nat))) := by simp [rgD, h]
theorem iterOk_range {m0 : Nat → Addr} {L0 : Nat} {H0 : Hp} {lo : Int} {n : Nat} : IterOk Γ (Itr lo n) (rgD lo n) .no m0 L0 H0 := by
  intro i m st H hi e hL k s _
  rw [rgD_len] at hi ⊢
  refine ⟨fun h => by rw [h]; exact Nat.le_refl _, fun h => ⟨h, fun x H' y => ?_⟩⟩
  obtain ⟨rfl, rfl⟩ := y
  exact ⟨_, rgD_get h, Keep.refl _, s, .int _⟩
def rangeOk (i : Int) : Bool := decide (-(2 ^ 62) ≤ i) && decide (i < 2 ^ 62)
theorem rangeOk_c {i : Int} (h : rangeOk i = true) : -(2 ^ 62) ≤ i ∧ i < 2 ^ 62 := by
  unfold rangeOk at h
  simpa using h
def fRange : List D → Sto → Option (RsI × Sto)
  | [.int j], st => if rangeOk j then some (.it (rgD 0 j.toNat) .no, st) else none
  | [.int i, .int j], st => if rangeOk i && rangeOk j then some (.it (rgD i (j - i).toNat) .no, st) else none
  | _, _ => none
def dAppI (f : List D → Sto → Option (RsI × Sto)) (das : List De) : Di := fun ls st => match evA das ls st with
  | some (.ok ds, st1) => f ds st1
  | some (.exc c fs, st1) => some (.exc c fs, st1)
  | none => none
theorem monoI_app {f : List D → Sto → Option (RsI × Sto)} (ma : MonoA das) (hf : ∀ ds st r st', f ds st = some (r, st') → st.length ≤ st'.length) : MonoI (dAppI f das) := fun ls st r st' h => by
  unfold dAppI at h
  split at h
  · rename_i ds st1 e
    exact Nat.le_trans (ma _ _ _ _ e) (hf _ _ _ _ h)
  · rename_i c fs st1 e
    cases h
    exact ma _ _ _ _ e
  · cases h
theorem tA_bindI {f : List D → Sto → Option (RsI × Sto)} (ma : MonoA das) {σ : L2.St} {H : Hp} {ls : Ls} {m : Nat → Addr} {st : Sto} {R : It → Hp → Prop} (s : StR Γ m st H) (l : LsR Γ m st.length H ls σ) (hf : ∀ ds st r st', f ds st = some (r, st') → st.length ≤ st'.length)
    (h : ResI Γ m st.length H (dAppI f das ls st) R (fun c d H' => W c d σ H')) {Q : List V → Hp → Prop}
    (hQ : ∀ m1 ds st1 vs H1, StR Γ m1 st1 H1 → LsR Γ m1 st1.length H1 ls σ → RvL Γ.K m1 st1.length H1 ds vs → ResI Γ m1 st1.length H1 (f ds st1) R (fun c d H' => W c d σ H') → Q vs H1) : tA Γ W das σ H Q := by
  refine ⟨m, ls, st, s, l, ?_⟩
  have ma := fun r st' q => ma ls st r st' q
  unfold dAppI at h
  match evA das ls st, h, ma with
  | some (.exc c fs, st1), h, _ => exact h
  | some (.ok d, st1), h, ma =>
    have hl := ma _ _ rfl
    refine ⟨hl, fun m1 H1 v e1 k1 s1 r1 => hQ m1 d st1 v H1 s1 (l.mono e1 hl k1) r1 ?_⟩
    have h : ResI Γ m st.length H (f d st1) R (fun c d H' => W c d σ H') := h
    have hf := fun r st' q => hf d st1 r st' q
    match f d st1, h, hf with
    | some (.it items gd, st2), h, hf => exact ⟨hf _ _ rfl, fun m2 H2 J e2 k2 s2 q => h.2 m2 H2 J (e1.trans e2 hl) (k1.trans k2) s2 q⟩
    | some (.exc c fs, st2), h, hf => exact ⟨hf _ _ rfl, fun m2 H2 J e2 k2 s2 q => h.2 m2 H2 J (e1.trans e2 hl) (k1.trans k2) s2 q⟩
theorem mono_fRange : ∀ ds st r st', fRange ds st = some (r, st') → st.length ≤ st'.length := by
  intro d st r st' h
  unfold fRange at h
  repeat' (split at h)
  all_goals first | (cases h; exact Nat.le_refl _) | cases h
theorem si_range1 {p : Pos} (hg : Gl X "range") (hm : X.mg "range" = none) (ha : SimA X Γ W [a] das) (hd : das.length = 1) (hs : starEach [a] X.env = [(false, eval a X.env)]) : SimI X Γ W tg (.Call (.Name "range" p) [a] [] pos) (dAppI fRange das) := by
  refine ⟨monoI_app ha.mono mono_fRange, (pi_range1 hg hm ha.pa hs).imp fun σ H R ⟨m, ls, st, s, l, h⟩ => ?_⟩
  unfold iRng1
  have key : tA Γ W das σ H (fun vs H1 => vs.length = 1 → ∃ j : Int, vs = [.int j] ∧ -(2 ^ 62) ≤ j ∧ j < 2 ^ 62 ∧ R (Itr 0 j.toNat) H1) := by
    refine tA_bindI ha.mono s l mono_fRange h fun m1 ds st1 vs H1 s1 l1 r1 q hlen => ?_
    match ds, r1, q with
      | [.int j], .cons (.int _) .nil, q =>
        dsimp only [fRange] at q
        split at q
        · rename_i z
          obtain ⟨z1, z2⟩ := rangeOk_c z
          exact ⟨j, rfl, z1, z2, q.2 m1 H1 _ (Ext.refl _ _) (Keep.refl _) s1 iterOk_range⟩
        · exact q.elim
      | [.int i, .int j], .cons _ (.cons _ .nil), q => cases hlen
  obtain ⟨m0, ls0, st0, s0, l0, q0⟩ := key
  have hl : ∀ ds st', evA das ls0 st0 = some (.ok ds, st') → ds.length = 1 := fun ds st' e => (evA_len e).trans hd
  refine ⟨m0, ls0, st0, s0, l0, ?_⟩
  match evA das ls0 st0, q0, hl with
  | some (.ok ds, st'), q0, hl => exact ⟨q0.1, fun m' H' vs e k s r => q0.2 m' H' vs e k s r (by rw [← r.length]; exact hl _ _ rfl)⟩
  | some (.exc c fs, st'), q0, _ => exact q0
theorem si_range2 {p : Pos} (hg : Gl X "range") (hm : X.mg "range" = none) (ha : SimA X Γ W [a, b] das) (hd : das.length = 2) (hs : starEach [a, b] X.env = [(false, eval a X.env), (false, eval b X.env)]) (hs2 : starEach [b] X.env = [(false, eval b X.env)]) :
    SimI X Γ W tg (.Call (.Name "range" p) [a, b] [] pos) (dAppI fRange das) := by
  refine ⟨monoI_app ha.mono mono_fRange, (pi_range2 hg hm ha.pa hs hs2).imp fun σ H R ⟨m, ls, st, s, l, h⟩ => ?_⟩
  unfold iRng2
  have key : tA Γ W das σ H (fun vs H1 => vs.length = 2 → ∃ i j : Int, vs = [.int i, .int j] ∧ (-(2 ^ 62) ≤ i ∧ i < 2 ^ 62 ∧ -(2 ^ 62) ≤ j ∧ j < 2 ^ 62) ∧ R (Itr i (j - i).toNat) H1) := by
    refine tA_bindI ha.mono s l mono_fRange h fun m1 ds st1 vs H1 s1 l1 r1 q hlen => ?_
    match ds, r1, q with
      | [.int j], .cons (.int _) .nil, q => cases hlen
      | [.int i, .int j], .cons (.int _) (.cons (.int _) .nil), q =>
        dsimp only [fRange] at q
        split at q
        · rename_i z
          obtain ⟨y1, y2⟩ := Bool.and_eq_true_iff.mp z
          obtain ⟨z1, z2⟩ := rangeOk_c y1
          obtain ⟨z3, z4⟩ := rangeOk_c y2
          exact ⟨i, j, rfl, ⟨z1, z2, z3, z4⟩, q.2 m1 H1 _ (Ext.refl _ _) (Keep.refl _) s1 iterOk_range⟩
        · exact q.elim
  obtain ⟨m0, ls0, st0, s0, l0, q0⟩ := key
  have hl : ∀ ds st', evA das ls0 st0 = some (.ok ds, st') → ds.length = 2 := fun ds st' e => (evA_len e).trans hd
  refine ⟨m0, ls0, st0, s0, l0, ?_⟩
  match evA das ls0 st0, q0, hl with
  | some (.ok ds, st'), q0, hl => exact ⟨q0.1, fun m' H' vs e k s r => q0.2 m' H' vs e k s r (by rw [← r.length]; exact hl _ _ rfl)⟩
  | some (.exc c fs, st'), q0, _ => exact q0
end
end MP
end
section
set_option maxRecDepth 100000
set_option maxHeartbeats 1000000
namespace MP
open PySem L2

/-! ### comprehensions -/
abbrev WF : WX := fun _ _ _ _ => False
abbrev EF : XK := fun _ _ _ => False
def bindO (r : Rt) (f : D → Sto → Rt) : Rt := match r with
  | some (.ok d, st') => f d st'
  | _ => none
theorem bindO_mono {r : Rt} {f : D → Sto → Rt} {n : Nat} (h : ∀ a st', r = some (a, st') → n ≤ st'.length) (hf : MonoF f) : ∀ a st', bindO r f = some (a, st') → n ≤ st'.length := fun a st' q => by
  match r, h, q with
  | some (.ok d, st1), h, q => exact Nat.le_trans (h _ _ rfl) (hf d st1 a st' q)
theorem Res.bindO {Γ : Gam} {m : Nat → Addr} {st : Sto} {H : Hp} {r : Rt} {f : D → Sto → Rt} {Q : VK} {E : XK} (h : Res Γ m st.length H (MP.bindO r f) Q E) (hm : ∀ a st', r = some (a, st') → st.length ≤ st'.length) (hf : MonoF f) :
    Res Γ m st.length H r (fun v H1 => ∃ m1 d st1, Ext m st.length m1 ∧ Keep H H1 ∧ st.length ≤ st1.length ∧ StR Γ m1 st1 H1 ∧ Rv Γ.K m1 st1.length H1 d v ∧ Res Γ m1 st1.length H1 (f d st1) Q E) EF := by
  match r, h, hm with
  | some (.ok d, st1), h, hm =>
    have hl := hm _ _ rfl
    refine ⟨hl, fun m1 H1 v e k s rv => ⟨m1, d, st1, e, k, hl, s, rv, ?_⟩⟩
    have h : Res Γ m st.length H (f d st1) Q E := h
    exact h.mono e k hl fun a st' q => hf d st1 a st' q
  | some (.exc c fs, st1), h, hm => exact h.elim
def wipeL (ls : Ls) : List Nat → Ls
  | [] => ls
  | v :: vs => (wipeL ls vs).set v none
theorem wipeL_some {ls : Ls} {i : Nat} {d : D} : ∀ {vs : List Nat}, (wipeL ls vs)[i]? = some (some d) → ls[i]? = some (some d) ∧ i ∉ vs
  | [], h => ⟨h, by simp⟩
  | v :: vs, h => by
    unfold wipeL at h
    by_cases hi : v = i
    · subst hi
      by_cases hv : v < (wipeL ls vs).length
      · rw [List.getElem?_set_self hv] at h; cases h
      · rw [List.getElem?_eq_none (by simpa using hv)] at h; cases h
    · rw [List.getElem?_set_ne hi] at h
      obtain ⟨h1, h2⟩ := wipeL_some h
      exact ⟨h1, by simp only [List.mem_cons, not_or]; exact ⟨fun e => hi e.symm, h2⟩⟩
theorem wipeL_length (ls : Ls) : ∀ vs : List Nat, (wipeL ls vs).length = ls.length
  | [] => rfl
  | v :: vs => by unfold wipeL; rw [List.length_set, wipeL_length ls vs]
theorem LsR.wipe {Γ : Gam} {m : Nat → Addr} {L : Nat} {H : Hp} {ls : Ls} {σ : L2.St} (h : LsR Γ m L H ls σ) (vs : List Nat) : LsR Γ m L H (wipeL ls vs) (L2.wipe σ vs) := by
  refine ⟨by rw [wipeL_length, wipe_length, h.len], fun i d q => ?_⟩
  obtain ⟨q1, q2⟩ := wipeL_some q
  rw [wipe_out q2]
  exact h.at_ i d q1
def compD (gd : Gd) (t : Tg) (dt de : De) (k : Nat) (lsw : Ls) : List D → Sto → Rt
  | [], st => if gdB gd st then okD (.obj k) st else none
  | d :: r, st => if gdB gd st then
      match asg t d lsw with
      | some ls1 => bindO (dt ls1 st) fun b st2 => match b with
        | .bl false => compD gd t dt de k lsw r st2
        | .bl true => bindO (de ls1 st2) fun y st3 => match st3[k]? with
          | some (.lst false acc) => if acc.length < LINE then compD gd t dt de k lsw r (st3.set k (.lst false (acc ++ [y]))) else none
          | _ => none
        | _ => none
      | none => none
    else none
/-- what follows the test, what follows the item -/
def compK (gd : Gd) (t : Tg) (dt de : De) (k : Nat) (lsw : Ls) (r : List D) (y : D) (st3 : Sto) : Rt := match st3[k]? with
  | some (.lst false acc) => if acc.length < LINE then compD gd t dt de k lsw r (st3.set k (.lst false (acc ++ [y]))) else none
  | _ => none
def compJ (gd : Gd) (t : Tg) (dt de : De) (k : Nat) (lsw ls1 : Ls) (r : List D) (b : D) (st2 : Sto) : Rt := match b with
  | .bl false => compD gd t dt de k lsw r st2
  | .bl true => bindO (de ls1 st2) (compK gd t dt de k lsw r)
  | _ => none
theorem compD_mono {gd : Gd} {t : Tg} {dt de : De} {k : Nat} {lsw : Ls} (mt : Mono dt) (me : Mono de) : ∀ (items : List D) (st : Sto) (r : Rs) (st' : Sto), compD gd t dt de k lsw items st = some (r, st') → st.length ≤ st'.length
  | [], st, r, st', h => by
    unfold compD at h
    split at h
    · exact mono_ok h
    · cases h
  | d :: items, st, r, st', h => by
    unfold compD at h
    split at h
    · split at h
      · rename_i ls1 e
        refine bindO_mono (fun a s z => mt ls1 st a s z) (fun b st2 r st' h => ?_) r st' h
        split at h
        · exact compD_mono mt me items _ _ _ h
        · refine bindO_mono (fun a s z => me ls1 _ a s z) (fun y st3 r st' h => ?_) r st' h
          split at h
          · split at h
            · have z := compD_mono mt me items _ _ _ h
              rw [List.length_set] at z
              exact z
            · cases h
          · cases h
        · cases h
      · cases h
    · cases h
theorem compK_mono {gd : Gd} {t : Tg} {dt de : De} {k : Nat} {lsw : Ls} (mt : Mono dt) (me : Mono de) {r : List D} : MonoF (compK gd t dt de k lsw r) := fun y st3 a st' h => by
  unfold compK at h
  split at h
  · split at h
    · have z := compD_mono mt me r _ _ _ h
      rw [List.length_set] at z
      exact z
    · cases h
  · cases h
theorem compJ_mono {gd : Gd} {t : Tg} {dt de : De} {k : Nat} {lsw ls1 : Ls} (mt : Mono dt) (me : Mono de) {r : List D} : MonoF (compJ gd t dt de k lsw ls1 r) := fun y st3 a st' h => by
  unfold compJ at h
  split at h
  · exact compD_mono mt me r _ _ _ h
  · exact bindO_mono (fun a s z => me ls1 _ a s z) (compK_mono mt me) a st' h
  · cases h
theorem compD_cons {gd : Gd} {t : Tg} {dt de : De} {k : Nat} {lsw ls1 : Ls} {d : D} {r : List D} {st : Sto} (hg : gdB gd st = true) (ha : asg t d lsw = some ls1) : compD gd t dt de k lsw (d :: r) st = bindO (dt ls1 st) (compJ gd t dt de k lsw ls1 r) := by
  rw [compD, if_pos hg, ha]
  rfl
def dLc (di : Di) (t : Tg) (dt de : De) (vs : List Nat) : De := fun ls st => match di ls st with
  | some (.it items gd, st1) => compD gd t dt de st1.length (wipeL ls vs) items (st1 ++ [.lst false []])
  | some (.exc c fs, st1) => some (.exc c fs, st1)
  | none => none
theorem mono_lc {di : Di} {t : Tg} {dt de : De} {vs : List Nat} (mi : MonoI di) (mt : Mono dt) (me : Mono de) : Mono (dLc di t dt de vs) := fun ls st r st' h => by
  unfold dLc at h
  split at h
  · rename_i items gd st1 e
    have z := compD_mono mt me items _ _ _ h
    rw [List.length_append] at z
    exact Nat.le_trans (mi _ _ _ _ e) (Nat.le_trans (Nat.le_add_right _ _) z)
  · rename_i c fs st1 e
    cases h
    exact mi _ _ _ _ e
  · cases h
def dYes : De := fun _ st => okD (.bl true) st
theorem mono_yes : Mono dYes := fun ls st r st' h => mono_ok h
theorem wipe_same {σ σ' : L2.St} {vs : List Nat} (hl : σ'.length = (wipe σ vs).length) (h : ∀ j, j ∉ vs → σ'[j]? = (wipe σ vs)[j]?) : wipe σ' vs = wipe σ vs := by
  have at_ : ∀ (vs : List Nat) (σ : L2.St) (j : Nat), j ∈ vs → (wipe σ vs)[j]? = if j < σ.length then some none else none := by
    intro vs
    induction vs with
    | nil => intro σ j hj; cases hj
    | cons v vs ih =>
      intro σ j hj
      unfold wipe
      by_cases e : v = j
      · subst e
        by_cases hv : v < (wipe σ vs).length
        · rw [List.getElem?_set_self hv, if_pos (by rwa [wipe_length] at hv)]
        · rw [List.getElem?_eq_none (by simpa using hv), if_neg (by rwa [wipe_length] at hv)]
      · rw [List.getElem?_set_ne e]
        refine ih σ j ?_
        rcases List.mem_cons.mp hj with z | z
        · exact absurd z.symm e
        · exact z
  apply List.ext_getElem?
  intro j
  by_cases hj : j ∈ vs
  · rw [at_ vs σ' j hj, at_ vs σ j hj, hl, wipe_length]
  · rw [wipe_out hj, h j hj]
section
variable {X : Cx} {Γ : Gam} {W : WX} {e a b c o tg iter elt : Expr} {ifs : List Expr} {da db dc dt de : De} {pos p2 : Pos} {es rest : List Expr} {das : List De} {t : Tg} {di : Di} {scope : Scope} {own : List (Str × Nat)}
theorem pts_yes : PTs X [] (tT Γ WF dYes) := ⟨fun pins s σ H Q I ⟨m, ls, st, s0, l, h⟩ => by
  obtain ⟨k, e, q⟩ := h.ok s0 (.bl true)
  cases e
  exact pts_nil.run pins s σ H Q I q⟩
theorem tLc_of (mi : MonoI di) (mt : Mono dt) (me : Mono de) {vs : List Nat} (hv : ∀ j ∈ tslots t, j ∈ vs) {σ : L2.St} {H : Hp} {Q : VK} (h : tD Γ W (dLc di t dt de vs) σ H Q) : tLc (tI Γ W di) (tG Γ t) (tT Γ WF dt) (tD Γ WF de) vs σ H Q := by
  obtain ⟨m, ls, st, s, l, h⟩ := h
  refine ⟨m, ls, st, s, l, ?_⟩
  unfold dLc at h
  have mi := fun r st' q => mi ls st r st' q
  match di ls st, h, mi with
  | some (.exc c fs, st1), h, _ => exact h
  | some (.it items gd, st1), h, mi =>
    have hl := mi _ _ rfl
    refine ⟨hl, fun m1 H1 J e1 k1 s1 hit D hD => ?_⟩
    have h : Res Γ m st.length H (compD gd t dt de st1.length (wipeL ls vs) items (st1 ++ [.lst false []])) Q (fun c d H' => W c d σ H') := h
    have kD : Keep H1 (upd H1 D (.lst [])) := .new hD
    have eD : Ext m1 st1.length (extM m1 st1.length D) := extM_ext
    have sD := s1.push (p := D) (c := .lst false []) (o := .lst []) hD ⟨[], upd_same, .nil⟩
    have hlen : (st1 ++ [Cell.lst false []]).length = st1.length + 1 := by rw [List.length_append, List.length_singleton]
    refine ⟨fun i k H2 => k = items.length - i ∧ i ≤ items.length ∧ ∃ m2 st2, Ext (extM m1 st1.length D) (st1.length + 1) m2 ∧ st1.length + 1 ≤ st2.length ∧ Keep (upd H1 D (.lst [])) H2 ∧ StR Γ m2 st2 H2 ∧
      Res Γ m2 st2.length H2 (compD gd t dt de st1.length (wipeL ls vs) (items.drop i) st2) Q (fun c d H' => W c d σ H'), ⟨items.length, rfl, Nat.zero_le _, extM m1 st1.length D, st1 ++ [.lst false []], Ext.refl _ _, by rw [hlen]; exact Nat.le_refl _, Keep.refl _, sD, ?_⟩, ?_⟩
    · refine h.mono (e1.trans eD hl) (k1.trans kD) (by rw [hlen]; exact Nat.le_trans hl (Nat.le_succ _)) fun a st' q => ?_
      exact compD_mono mt me _ _ _ _ q
    · rintro i k H2 ⟨rfl, hi, m2, st2, e2, hl2, k2, s2, q2⟩
      have e12 : Ext m1 st1.length m2 := eD.trans e2 (Nat.le_succ _)
      have l2 : LsR Γ m2 st2.length H2 (wipeL ls vs) (wipe σ vs) := ((l.mono e1 hl k1).mono e12 (Nat.le_trans (Nat.le_succ _) hl2) (kD.trans k2)).wipe vs
      have hguard : gdB gd st2 = true := by
        by_cases c : gdB gd st2 = true
        · exact c
        · cases e : items.drop i with
          | nil => rw [e, compD, if_neg c] at q2; exact q2.elim
          | cons d r => rw [e, compD, if_neg c] at q2; exact q2.elim
      obtain ⟨hstop, hgo⟩ := hit i m2 st2 H2 hi e12 (Nat.le_trans (Nat.le_succ _) hl2) (kD.trans k2) s2 hguard
      have mD2 : m2 st1.length = D := by rw [e2 _ (Nat.lt_succ_self _), extM_new]
      by_cases hlt : i < items.length
      · refine .inr ⟨(hgo hlt).1, fun H' => ∃ m2 st2, Ext (extM m1 st1.length D) (st1.length + 1) m2 ∧ st1.length + 1 ≤ st2.length ∧ Keep (upd H1 D (.lst [])) H' ∧ StR Γ m2 st2 H' ∧
          Res Γ m2 st2.length H' (compD gd t dt de st1.length (wipeL ls vs) (items.drop (i + 1)) st2) Q (fun c d H' => W c d σ H'), fun H' n => ⟨_, by omega, rfl, hlt, n⟩, fun x H3 y => ?_⟩
        obtain ⟨d, hd, k3, s3, rd⟩ := (hgo hlt).2 x H3 y
        have hdrop : items.drop i = d :: items.drop (i + 1) := by
          rw [List.drop_eq_getElem_cons hlt]
          have : items[i] = d := by
            rw [List.getElem?_eq_getElem hlt] at hd
            exact Option.some.inj hd
          rw [this]
        rw [hdrop] at q2
        cases ea : asg t d (wipeL ls vs) with
        | none =>
          rw [compD, if_pos hguard, ea] at q2
          exact q2.elim
        | some ls1 =>
          rw [compD_cons hguard ea] at q2
          have l3 := l2.mono (Ext.refl _ _) (Nat.le_refl _) k3
          refine ⟨m2, st2.length, wipeL ls vs, d, ls1, l3, rd, ea, fun σ3 hl3 hk3 => ⟨wipe_same (by rw [← hl3.len, asg_len ea, l3.len]) fun j hj => hk3 j fun z => hj (hv j z), ?_⟩⟩
          have q3 := q2.mono (Ext.refl _ _) k3 (Nat.le_refl _) fun a st' q => bindO_mono (fun a s z => mt ls1 st2 a s z) (compJ_mono mt me) a st' q
          refine ⟨m2, ls1, st2, s3, hl3, (Res.bindO q3 (fun a st' q => mt ls1 st2 a st' q) (compJ_mono mt me)).imp fun v H4 ⟨m4, d4, st4, e4, k4, hl4, s4, r4, q4⟩ => ?_⟩
          unfold compJ at q4
          split at q4
          · cases r4
            refine ⟨false, rfl, iteF ⟨m4, st4, e2.trans e4 hl2, Nat.le_trans hl2 hl4, (k2.trans k3).trans k4, s4, q4⟩⟩
          · cases r4
            refine ⟨true, rfl, iteT ?_⟩
            refine ⟨m4, ls1, st4, s4, hl3.mono e4 hl4 k4, (Res.bindO q4 (fun a st' q => me ls1 st4 a st' q) (compK_mono mt me)).imp fun v H5 ⟨m5, d5, st5, e5, k5, hl5, s5, r5, q5⟩ => ?_⟩
            unfold compK at q5
            split at q5
            · rename_i acc eacc
              split at q5
              · rename_i hacc
                obtain ⟨ws, hw, rw'⟩ := s5.lst eacc
                have mD5 : m5 st1.length = D := by rw [e5 _ (Nat.lt_of_lt_of_le (Nat.lt_of_lt_of_le (Nat.lt_succ_self _) hl2) hl4), e4 _ (Nat.lt_of_lt_of_le (Nat.lt_succ_self _) hl2), mD2]
                rw [mD5] at hw
                refine ⟨ws, hw, by rw [← rw'.length]; exact line_lt hacc, ?_⟩
                have k6 : Keep H5 (upd H5 D (.lst (ws ++ [v]))) := .put hw .lst
                have s6 := s5.put (o := .lst (ws ++ [v])) (c' := .lst false (acc ++ [d5])) eacc rfl rfl ⟨_, by rw [mD5]; exact upd_same, (rw'.snoc r5).mono (Ext.refl _ _) (Nat.le_refl _) (by rw [mD5]; exact k6)⟩
                rw [mD5] at s6
                have hl6 : (st5.set st1.length (Cell.lst false (acc ++ [d5]))).length = st5.length := List.length_set
                refine ⟨m5, st5.set st1.length (.lst false (acc ++ [d5])), e2.trans (e4.trans e5 hl4) hl2, by rw [hl6]; exact Nat.le_trans hl2 (Nat.le_trans hl4 hl5), ((k2.trans k3).trans k4).trans (k5.trans k6), s6, ?_⟩
                rw [hl6]
                refine q5.mono (Ext.refl _ _) k6 (Nat.le_refl _) fun a st' q => ?_
                have z := compD_mono mt me _ _ _ _ q
                rw [hl6] at z
                exact z
              · exact q5.elim
            · exact q5.elim
          · exact q4.elim
      · have e : i = items.length := by omega
        refine .inl ⟨hstop e, ?_⟩
        rw [e, List.drop_length, compD, if_pos hguard] at q2
        have z : Rv Γ.K m2 st2.length H2 (.obj st1.length) (.ref D) := by
          rw [← mD2]
          exact .obj (Nat.lt_of_lt_of_le (Nat.lt_succ_self _) hl2)
        exact q2.ok s2 z
/-- [elt for tg in iter if ifs] -/
theorem sim_lc (hc : X.calm = true) (hN : X.N.Nodup) (hi : SimI X Γ W tg iter di) (ok : BlkOk X.N X.env.scope scope own) (mt : Mono dt) (me : Mono de) (hv : ∀ j ∈ tslots t, j ∈ own.map (·.2))
    (hg : ∀ (s : Shared) (H : Hp) (C : Addr) (cl : List (Str × Addr)) (fp : List Addr), PG (X.blk s H scope (compEnvC scope cl C X.env) fp) tg (tG Γ t)) (ht : ∀ (s : Shared) (H : Hp) (C : Addr) (cl : List (Str × Addr)) (fp : List Addr), PTs (X.blk s H scope (compEnvC scope cl C X.env) fp) ifs (tT Γ WF dt))
    (he : ∀ (s : Shared) (H : Hp) (C : Addr) (cl : List (Str × Addr)) (fp : List Addr), PE (X.blk s H scope (compEnvC scope cl C X.env) fp) elt (tD Γ WF de)) (hs : ∀ x, foldedSetIterable iter X.env x = pure x) :
    Sim X Γ W (.ListComp elt [⟨tg, iter, ifs, 0⟩] scope pos) (dLc di t dt de (own.map (·.2))) :=
  ⟨mono_lc hi.mono mt me, (pe_lc hc hN hi.pi ok hg ht he hs).imp fun σ H Q h => tLc_of hi.mono mt me hv h⟩
end
end MP
end
section
set_option maxRecDepth 100000
set_option maxHeartbeats 1000000
namespace MP
open PySem L2

/-! ### statements -/
inductive Fl where
  | next | brk | cont
  | ret (d : D)
  | exc (c : Str) (fs : List (Str × D))
abbrev Rss := Option (Fl × Ls × Sto)
abbrev Ds := Ls → Sto → Rss
def OutS (Γ : Gam) (m : Nat → Addr) (L : Nat) (H : Hp) (ls' : Ls) (st' : Sto) (P : L2.St → Hp → Prop) : Prop := L ≤ st'.length ∧ ∀ m' H' σ', Ext m L m' → Keep H H' → StR Γ m' st' H' → LsR Γ m' st'.length H' ls' σ' → P σ' H'
def ResS (Γ : Gam) (m : Nat → Addr) (L : Nat) (H : Hp) (r : Rss) (D : Ends) (W : WX) : Prop := match r with
  | none => False
  | some (.next, ls', st') => OutS Γ m L H ls' st' D.nx
  | some (.brk, ls', st') => OutS Γ m L H ls' st' D.bk
  | some (.cont, ls', st') => OutS Γ m L H ls' st' D.ct
  | some (.ret d, ls', st') => L ≤ st'.length ∧ AfterOk Γ m L H st' d D.rt
  | some (.exc c fs, ls', st') => L ≤ st'.length ∧ ∀ m' H' σ' dd, Ext m L m' → Keep H H' → StR Γ m' st' H' → LsR Γ m' st'.length H' ls' σ' → ExcR Γ m' st'.length H' fs dd → W (.ref (Γ.cl c)) dd σ' H'
section
variable {Γ : Gam} {m m' : Nat → Addr} {L L' : Nat} {H H' : Hp} {r : Rss} {D D' : Ends} {W : WX}
theorem OutS.mono {ls : Ls} {st : Sto} {P : L2.St → Hp → Prop} (h : OutS Γ m L H ls st P) (e : Ext m L m') (k : Keep H H') (hL : L ≤ L') (hr : L' ≤ st.length) : OutS Γ m' L' H' ls st P := ⟨hr, fun m2 H2 σ e2 k2 s2 l2 => h.2 m2 H2 σ (e.trans e2 hL) (k.trans k2) s2 l2⟩
theorem ResS.mono (h : ResS Γ m L H r D W) (e : Ext m L m') (k : Keep H H') (hL : L ≤ L') (hr : ∀ a l st', r = some (a, l, st') → L' ≤ st'.length) : ResS Γ m' L' H' r D W := by
  match r, h, hr with
  | some (.next, l, st'), h, hr => exact OutS.mono h e k hL (hr _ _ _ rfl)
  | some (.brk, l, st'), h, hr => exact OutS.mono h e k hL (hr _ _ _ rfl)
  | some (.cont, l, st'), h, hr => exact OutS.mono h e k hL (hr _ _ _ rfl)
  | some (.ret d, l, st'), ⟨_, h⟩, hr => exact ⟨hr _ _ _ rfl, fun m2 H2 v e2 k2 s2 r2 => h m2 H2 v (e.trans e2 hL) (k.trans k2) s2 r2⟩
  | some (.exc c fs, l, st'), ⟨_, h⟩, hr => exact ⟨hr _ _ _ rfl, fun m2 H2 σ dd e2 k2 s2 l2 x2 => h m2 H2 σ dd (e.trans e2 hL) (k.trans k2) s2 l2 x2⟩
/-- other ends -/
theorem ResS.imp (h : ResS Γ m L H r D W) (h1 : ∀ σ H, D.nx σ H → D'.nx σ H) (h2 : ∀ σ H, D.bk σ H → D'.bk σ H) (h3 : ∀ σ H, D.ct σ H → D'.ct σ H) (h4 : ∀ v H, D.rt v H → D'.rt v H) : ResS Γ m L H r D' W := by
  match r, h with
  | some (.next, l, st'), h => exact ⟨h.1, fun m2 H2 σ e2 k2 s2 l2 => h1 _ _ (h.2 m2 H2 σ e2 k2 s2 l2)⟩
  | some (.brk, l, st'), h => exact ⟨h.1, fun m2 H2 σ e2 k2 s2 l2 => h2 _ _ (h.2 m2 H2 σ e2 k2 s2 l2)⟩
  | some (.cont, l, st'), h => exact ⟨h.1, fun m2 H2 σ e2 k2 s2 l2 => h3 _ _ (h.2 m2 H2 σ e2 k2 s2 l2)⟩
  | some (.ret d, l, st'), ⟨hl, h⟩ => exact ⟨hl, fun m2 H2 v e2 k2 s2 r2 => h4 _ _ (h m2 H2 v e2 k2 s2 r2)⟩
  | some (.exc c fs, l, st'), h => exact h
theorem OutS.here {ls : Ls} {st : Sto} {P : L2.St → Hp → Prop} {σ : L2.St} (h : OutS Γ m st.length H ls st P) (s : StR Γ m st H) (l : LsR Γ m st.length H ls σ) : P σ H := h.2 m H σ (Ext.refl _ _) (Keep.refl _) s l
end
def MonoS (ds : Ds) : Prop := ∀ ls st a l st', ds ls st = some (a, l, st') → st.length ≤ st'.length
def tS (Γ : Gam) (W : WX) (ds : Ds) : TS := fun D σ H => ∃ m ls st, StR Γ m st H ∧ LsR Γ m st.length H ls σ ∧ ResS Γ m st.length H (ds ls st) D W
structure SimS (X : Cx) (Γ : Gam) (W : WX) (st : Stmt) (ds : Ds) : Prop where
  mono : MonoS ds
  ps : PS X st (tS Γ W ds)
structure SimB (X : Cx) (Γ : Gam) (W : WX) (st : List Stmt) (ds : Ds) : Prop where
  mono : MonoS ds
  ps : PSs X st (tS Γ W ds)
def bindS (r : Rt) (ls : Ls) (k : D → Sto → Rss) : Rss := match r with
  | some (.ok d, st1) => k d st1
  | some (.exc c fs, st1) => some (.exc c fs, ls, st1)
  | none => none
def MonoK (k : D → Sto → Rss) : Prop := ∀ d st a l st', k d st = some (a, l, st') → st.length ≤ st'.length
theorem bindS_mono {r : Rt} {ls : Ls} {k : D → Sto → Rss} {n : Nat} (h : ∀ a st', r = some (a, st') → n ≤ st'.length) (hk : MonoK k) : ∀ a l st', bindS r ls k = some (a, l, st') → n ≤ st'.length := fun a l st' q => by
  match r, h, q with
  | some (.ok d, st1), h, q => exact Nat.le_trans (h _ _ rfl) (hk d st1 a l st' q)
  | some (.exc c fs, st1), h, q =>
    cases q
    exact h _ _ rfl
section
variable {X : Cx} {Γ : Gam} {W : WX} {e a b c o tg iter : Expr} {da db dc : De} {pos pos' p2 : Pos} {es : List Expr} {das : List De} {t : Tg} {di : Di} {s1 : Stmt} {body rest orelse : List Stmt} {d1 d2 d3 : Ds}
/-- the value, then what the statement does -/
theorem tD_bindS {k : D → Sto → Rss} (ma : Mono da) {σ : L2.St} {H : Hp} {ls : Ls} {m : Nat → Addr} {st : Sto} {D : Ends} (s : StR Γ m st H) (l : LsR Γ m st.length H ls σ) (hk : MonoK k) (h : ResS Γ m st.length H (bindS (da ls st) ls k) D W) {Q : VK}
    (hQ : ∀ m1 d st1 v H1, StR Γ m1 st1 H1 → LsR Γ m1 st1.length H1 ls σ → Rv Γ.K m1 st1.length H1 d v → ResS Γ m1 st1.length H1 (k d st1) D W → st.length ≤ st1.length → Ext m st.length m1 → Keep H H1 → Q v H1) : tD Γ W da σ H Q := by
  refine ⟨m, ls, st, s, l, ?_⟩
  have ma := fun r st' q => ma ls st r st' q
  match da ls st, h, ma with
  | some (.exc c fs, st1), h, ma =>
    have hl := ma _ _ rfl
    exact ⟨hl, fun m1 H1 dd e1 k1 s1 x1 => h.2 m1 H1 σ dd e1 k1 s1 (l.mono e1 hl k1) x1⟩
  | some (.ok d, st1), h, ma =>
    have hl := ma _ _ rfl
    refine ⟨hl, fun m1 H1 v e1 k1 s1 r1 => hQ m1 d st1 v H1 s1 (l.mono e1 hl k1) r1 ?_ hl e1 k1⟩
    exact ResS.mono (r := k d st1) h e1 k1 hl fun a l st' q => hk d st1 a l st' q
/-! blocks -/
def dNext : Ds := fun ls st => some (.next, ls, st)
def dThen (a b : Ds) : Ds := fun ls st => match a ls st with
  | some (.next, ls1, st1) => b ls1 st1
  | r => r
theorem mono_next : MonoS dNext := fun ls st a l st' h => by cases h; exact Nat.le_refl _
theorem mono_then (h1 : MonoS d1) (h2 : MonoS d2) : MonoS (dThen d1 d2) := fun ls st a l st' h => by
  unfold dThen at h
  have h1 := fun a l st' q => h1 ls st a l st' q
  match d1 ls st, h, h1 with
  | some (.next, ls1, st1), h, h1 => exact Nat.le_trans (h1 _ _ _ rfl) (h2 _ _ _ _ _ h)
  | some (.brk, ls1, st1), h, h1 => exact h1 _ _ _ h
  | some (.cont, ls1, st1), h, h1 => exact h1 _ _ _ h
  | some (.ret d, ls1, st1), h, h1 => exact h1 _ _ _ h
  | some (.exc c fs, ls1, st1), h, h1 => exact h1 _ _ _ h
  | none, h, h1 => cases h
theorem sb_nil : SimB X Γ W [] dNext := ⟨mono_next, pss_nil.imp fun D σ H ⟨m, ls, st, s, l, h⟩ => OutS.here h s l⟩
theorem tS_then {σ : L2.St} {H : Hp} {D : Ends} (h1 : MonoS d1) (h2 : MonoS d2) (h : tS Γ W (dThen d1 d2) D σ H) : tS Γ W d1 { D with nx := tS Γ W d2 D } σ H := by
  obtain ⟨m, ls, st, s, l, h⟩ := h
  refine ⟨m, ls, st, s, l, ?_⟩
  unfold dThen at h
  have h1 := fun a l st' q => h1 ls st a l st' q
  match d1 ls st, h, h1 with
  | some (.next, ls1, st1), h, h1 =>
    have hl := h1 _ _ _ rfl
    exact ⟨hl, fun m1 H1 σ1 e1 k1 s1 l1 => ⟨m1, ls1, st1, s1, l1, ResS.mono (r := d2 ls1 st1) h e1 k1 hl fun a l st' q => h2 _ _ _ _ _ q⟩⟩
  | some (.brk, ls1, st1), h, h1 => exact h
  | some (.cont, ls1, st1), h, h1 => exact h
  | some (.ret d, ls1, st1), h, h1 => exact h
  | some (.exc c fs, ls1, st1), h, h1 => exact h
theorem sb_cons (h1 : SimS X Γ W s1 d1) (h2 : SimB X Γ W rest d2) : SimB X Γ W (s1 :: rest) (dThen d1 d2) := ⟨mono_then h1.mono h2.mono, (pss_cons h1.ps h2.ps).imp fun D σ H h => tS_then h1.mono h2.mono h⟩
theorem sb_one (h1 : SimS X Γ W s1 d1) : SimB X Γ W [s1] d1 := ⟨h1.mono, pss_one h1.ps⟩
/-! small statements -/
theorem ss_pass : SimS X Γ W (.Pass pos) dNext := ⟨mono_next, ps_pass.imp fun D σ H ⟨m, ls, st, s, l, h⟩ => OutS.here h s l⟩
def dBrk : Ds := fun ls st => some (.brk, ls, st)
def dCont : Ds := fun ls st => some (.cont, ls, st)
theorem ss_brk : SimS X Γ W (.Break pos) dBrk := ⟨fun ls st a l st' h => by cases h; exact Nat.le_refl _, ps_break.imp fun D σ H ⟨m, ls, st, s, l, h⟩ => OutS.here h s l⟩
theorem ss_cont : SimS X Γ W (.Continue pos) dCont := ⟨fun ls st a l st' h => by cases h; exact Nat.le_refl _, ps_continue.imp fun D σ H ⟨m, ls, st, s, l, h⟩ => OutS.here h s l⟩
def dExpr (da : De) : Ds := fun ls st => bindS (da ls st) ls fun _ st1 => some (.next, ls, st1)
theorem monoK_next {ls : Ls} : MonoK fun _ st1 => some (.next, ls, st1) := fun d st a l st' h => by cases h; exact Nat.le_refl _
theorem ss_expr (ha : Sim X Γ W e da) (hs : swapsWith e none pos.line X.env = pure false) : SimS X Γ W (.Expr e pos) (dExpr da) := by
  refine ⟨fun ls st a l st' h => bindS_mono (fun a s z => ha.mono ls st a s z) monoK_next a l st' h, (ps_expr ha.pe hs).imp fun D σ H ⟨m, ls, st, s, l, h⟩ => ?_⟩
  exact tD_bindS ha.mono s l monoK_next h fun m1 d st1 v H1 s1 l1 r1 q _ _ _ => OutS.here q s1 l1
def dRet (da : De) : Ds := fun ls st => bindS (da ls st) ls fun d st1 => some (.ret d, ls, st1)
theorem monoK_ret {ls : Ls} : MonoK fun d st1 => some (.ret d, ls, st1) := fun d st a l st' h => by cases h; exact Nat.le_refl _
theorem ss_ret (ha : Sim X Γ W e da) : SimS X Γ W (.Return (some e) pos) (dRet da) := by
  refine ⟨fun ls st a l st' h => bindS_mono (fun a s z => ha.mono ls st a s z) monoK_ret a l st' h, (ps_ret ha.pe).imp fun D σ H ⟨m, ls, st, s, l, h⟩ => ?_⟩
  exact tD_bindS ha.mono s l monoK_ret h fun m1 d st1 v H1 s1 l1 r1 q _ _ _ => q.2 m1 H1 v (Ext.refl _ _) (Keep.refl _) s1 r1
def dRetN : Ds := fun ls st => some (.ret .non, ls, st)
theorem ss_retN : SimS X Γ W (.Return none pos) dRetN := ⟨fun ls st a l st' h => by cases h; exact Nat.le_refl _, ps_retN.imp fun D σ H ⟨m, ls, st, s, l, h⟩ => h.2 m H .non (Ext.refl _ _) (Keep.refl _) s .non⟩
/-! target = e -/
def asgK (t : Tg) (ls : Ls) (d : D) (st1 : Sto) : Rss := match asg t d ls with | some ls1 => some (.next, ls1, st1) | none => none
def dAsg (da : De) (t : Tg) : Ds := fun ls st => bindS (da ls st) ls (asgK t ls)
theorem monoK_asg {ls : Ls} : MonoK (asgK t ls) := fun d st a l st' h => by
  unfold asgK at h
  split at h
  · cases h; exact Nat.le_refl _
  · cases h
theorem mono_asg (ma : Mono da) : MonoS (dAsg da t) := fun ls st a l st' h => bindS_mono (fun a s z => ma ls st a s z) monoK_asg a l st' h
theorem tAsg_of (ma : Mono da) {σ : L2.St} {H : Hp} {D : Ends} (h : tS Γ W (dAsg da t) D σ H) : tAsg (tD Γ W da) (tG Γ t) D σ H := by
  obtain ⟨m, ls, st, s, l, h⟩ := h
  refine tD_bindS ma s l monoK_asg h fun m1 d st1 v H1 s1 l1 r1 q _ _ _ => ?_
  unfold asgK at q
  split at q
  · rename_i ls1 e
    exact ⟨m1, st1.length, ls, d, ls1, l1, r1, e, fun σ' hl hk => OutS.here q s1 hl⟩
  · exact q.elim
theorem ss_asg (ha : Sim X Γ W e da) (hg : PG X tg (tG Γ t)) (hs : swapsWithSole [tg] e pos.line X.env = pure false) (hw : swappedStores [tg] e X.env = pure none) (h1 : (assignEach [tg] X.env).map (·.2) = [assign tg X.env]) : SimS X Γ W (.Assign [tg] e pos) (dAsg da t) :=
  ⟨mono_asg ha.mono, (ps_asg ha.pe hg hs hw h1).imp fun D σ H h => tAsg_of ha.mono h⟩
theorem tAsg_name {i : Nat} {te : TE} {σ : L2.St} {H : Hp} {D : Ends} (h : tAsg te (tG Γ (.nm i)) D σ H) (hm : ∀ σ H Q Q', (∀ v H, Q v H → Q' v H) → te σ H Q → te σ H Q') : tAsg te (gName i) D σ H := by
  refine hm σ H _ _ (fun v H1 q => ?_) h
  obtain ⟨m, L, ls, d, ls', l, r, e, q⟩ := q
  unfold asg at e
  cases e
  refine q _ (l.set i r) fun j hj => ?_
  rw [List.getElem?_set_ne]
  rintro rfl
  exact hj (by rw [tslots]; exact List.mem_singleton.mpr rfl)
theorem tD_mono {σ : L2.St} {H : Hp} {Q Q' : VK} (q : ∀ v H, Q v H → Q' v H) (h : tD Γ W da σ H Q) : tD Γ W da σ H Q' := by
  obtain ⟨m, ls, st, s, l, h⟩ := h
  exact ⟨m, ls, st, s, l, h.imp q⟩
theorem ss_set {i : Nat} {x : Str} (hN : X.N.Nodup) (hi : X.N[i]? = some x) (hx : Loc X.env.scope x) (ha : Sim X Γ W e da) (hs : swapsWith e (some (.Name x pos')) pos.line X.env = pure false) (hf : X.fn x = true ∨ X.env.scope.names.lookup x = some .local) :
    SimS X Γ W (.Assign [.Name x pos'] e pos) (dAsg da (.nm i)) :=
  ⟨mono_asg ha.mono, (ps_set hN hi hx ha.pe hs hf).imp fun D σ H h => tAsg_name (tAsg_of ha.mono h) fun _ _ _ _ q z => tD_mono q z⟩
/-! a, b = x, y -/
theorem ss_par {i j : Nat} {x y : Str} {px py pt : Pos} {kt k2 pt2} (hc : X.calm = true) (hN : X.N.Nodup) (hi : X.N[i]? = some x) (hj : X.N[j]? = some y) (hij : i ≠ j) (hx : X.env.scope.names.lookup x = some .local) (hy : X.env.scope.names.lookup y = some .local) (ha : SimA X Γ W [a, b] das) (hd : das.length = 2)
    (hw : swappedStores [.Tuple [.Name x px, .Name y py] kt pt] (.Tuple [a, b] k2 pt2) X.env = pure (some [x, y])) (hs : swapsWithSole [.Tuple [.Name x px, .Name y py] kt pt] (.Tuple [a, b] k2 pt2) pos.line X.env = pure false) :
    SimS X Γ W (.Assign [.Tuple [.Name x px, .Name y py] kt pt] (.Tuple [a, b] k2 pt2) pos) (dAsg (dApp fTup das) (.tp [.nm i, .nm j])) := by
  refine ⟨mono_asg (mono_app ha.mono mono_fTup), (ps_par hc hN hi hj hij hx hy ha.pa hw hs).imp fun D σ H ⟨m, ls, st, s, l, h⟩ => ?_⟩
  refine ⟨m, ls, st, s, l, ?_⟩
  have ma := fun r st' q => ha.mono ls st r st' q
  have hlen := fun ds st' (q : evA das ls st = some (.ok ds, st')) => (evA_len q).trans hd
  unfold dAsg dApp at h
  match evA das ls st, h, ma, hlen with
  | some (.exc c fs, st1), h, ma, _ =>
    have hl := ma _ _ rfl
    exact ⟨hl, fun m1 H1 dd e1 k1 s1 x1 => h.2 m1 H1 σ dd e1 k1 s1 (l.mono e1 hl k1) x1⟩
  | some (.ok ds, st1), h, ma, hlen =>
    have hl := ma _ _ rfl
    refine ⟨hl, fun m1 H1 vs e1 k1 s1 r1 => ?_⟩
    have hds := hlen _ _ rfl
    match ds, r1, hds, h with
    | [d, d'], .cons (v := v) ra (.cons (v := w) rb .nil), _, h =>
      have h : ResS Γ m st.length H (some (.next, (ls.set i (some d)).set j (some d'), st1)) D W := h
      exact ⟨v, w, rfl, h.2 m1 H1 _ e1 k1 s1 (((l.mono e1 hl k1).set i ra).set j rb)⟩
/-! if -/
def ifK (d1 d2 : Ds) (ls : Ls) (d : D) (st1 : Sto) : Rss := match d with
  | .bl true => d1 ls st1
  | .bl false => d2 ls st1
  | _ => none
def dIfS (da : De) (d1 d2 : Ds) : Ds := fun ls st => bindS (da ls st) ls (ifK d1 d2 ls)
theorem monoK_if {ls : Ls} (h1 : MonoS d1) (h2 : MonoS d2) : MonoK (ifK d1 d2 ls) := fun d st a l st' h => by
  unfold ifK at h
  split at h
  · exact h1 _ _ _ _ _ h
  · exact h2 _ _ _ _ _ h
  · cases h
theorem ss_if (hc : SimT X Γ W c dc) (h1 : SimB X Γ W body d1) (h2 : SimB X Γ W orelse d2) : SimS X Γ W (.If c body orelse pos) (dIfS dc d1 d2) := by
  refine ⟨fun ls st a l st' h => bindS_mono (fun a s z => hc.mono ls st a s z) (monoK_if h1.mono h2.mono) a l st' h, (ps_if hc.pt h1.ps h2.ps).imp fun D σ H ⟨m, ls, st, s, l, h⟩ => ?_⟩
  refine tD_bindS hc.mono s l (monoK_if h1.mono h2.mono) h fun m1 d st1 v H1 s1 l1 r1 q _ _ _ => ?_
  unfold ifK at q
  split at q
  · cases r1
    exact ⟨true, rfl, iteT ⟨m1, ls, st1, s1, l1, q⟩⟩
  · cases r1
    exact ⟨false, rfl, iteF ⟨m1, ls, st1, s1, l1, q⟩⟩
  · exact q.elim
/-! for -/
def forD (gd : Gd) (t : Tg) (db : Ds) : List D → Ls → Sto → Rss
  | [], ls, st => if gdB gd st then some (.next, ls, st) else none
  | d :: r, ls, st => if gdB gd st then
      match asg t d ls with
      | some ls1 => match db ls1 st with
        | some (.next, ls2, st2) => forD gd t db r ls2 st2
        | some (.cont, ls2, st2) => forD gd t db r ls2 st2
        | some (.brk, ls2, st2) => some (.next, ls2, st2)
        | some (.ret d, ls2, st2) => some (.ret d, ls2, st2)
        | some (.exc c fs, ls2, st2) => some (.exc c fs, ls2, st2)
        | none => none
      | none => none
    else none
theorem forD_mono {gd : Gd} (hb : MonoS d1) : ∀ (items : List D) (ls : Ls) (st : Sto) (a : Fl) (l : Ls) (st' : Sto), forD gd t d1 items ls st = some (a, l, st') → st.length ≤ st'.length
  | [], ls, st, a, l, st', h => by
    unfold forD at h
    split at h
    · cases h; exact Nat.le_refl _
    · cases h
  | d :: r, ls, st, a, l, st', h => by
    unfold forD at h
    split at h
    · split at h
      · rename_i ls1 e
        have hb' := fun a l st' q => hb ls1 st a l st' q
        split at h
        · rename_i e2
          exact Nat.le_trans (hb' _ _ _ e2) (forD_mono hb r _ _ _ _ _ h)
        · rename_i e2
          exact Nat.le_trans (hb' _ _ _ e2) (forD_mono hb r _ _ _ _ _ h)
        · rename_i e2
          cases h
          exact hb' _ _ _ e2
        · rename_i e2
          cases h
          exact hb' _ _ _ e2
        · rename_i e2
          cases h
          exact hb' _ _ _ e2
        · cases h
      · cases h
    · cases h
def dFor (di : Di) (t : Tg) (db : Ds) : Ds := fun ls st => match di ls st with
  | some (.it items gd, st1) => forD gd t db items ls st1
  | some (.exc c fs, st1) => some (.exc c fs, ls, st1)
  | none => none
theorem tFor_of (mi : MonoI di) (hb : MonoS d1) {σ : L2.St} {H : Hp} {D : Ends} (h : tS Γ W (dFor di t d1) D σ H) : tFor (tI Γ W di) (tG Γ t) (tS Γ W d1) D σ H := by
  obtain ⟨m, ls, st, s, l, h⟩ := h
  refine ⟨m, ls, st, s, l, ?_⟩
  unfold dFor at h
  have mi := fun r st' q => mi ls st r st' q
  match di ls st, h, mi with
  | some (.exc c fs, st1), h, mi =>
    have hl := mi _ _ rfl
    exact ⟨hl, fun m1 H1 dd e1 k1 s1 x1 => h.2 m1 H1 σ dd e1 k1 s1 (l.mono e1 hl k1) x1⟩
  | some (.it items gd, st1), h, mi =>
    have hl := mi _ _ rfl
    refine ⟨hl, fun m1 H1 J e1 k1 s1 hit => ?_⟩
    have h : ResS Γ m st.length H (forD gd t d1 items ls st1) D W := h
    refine ⟨fun i k σ2 H2 => k = items.length - i ∧ i ≤ items.length ∧ ∃ m2 ls2 st2, Ext m1 st1.length m2 ∧ st1.length ≤ st2.length ∧ Keep H1 H2 ∧ StR Γ m2 st2 H2 ∧ LsR Γ m2 st2.length H2 ls2 σ2 ∧
      ResS Γ m2 st2.length H2 (forD gd t d1 (items.drop i) ls2 st2) D W, ⟨items.length, rfl, Nat.zero_le _, m1, ls, st1, Ext.refl _ _, Nat.le_refl _, Keep.refl _, s1, l.mono e1 hl k1, ?_⟩, ?_⟩
    · exact ResS.mono (r := forD gd t d1 items ls st1) h e1 k1 hl fun a l st' q => forD_mono hb _ _ _ _ _ _ q
    · rintro i k σ2 H2 ⟨rfl, hi, m2, ls2, st2, e2, hl2, k2, s2, l2, q2⟩
      have hguard : gdB gd st2 = true := by
        by_cases c : gdB gd st2 = true
        · exact c
        · cases e : items.drop i with
          | nil => rw [e, forD, if_neg c] at q2; exact q2.elim
          | cons d r => rw [e, forD, if_neg c] at q2; exact q2.elim
      obtain ⟨hstop, hgo⟩ := hit i m2 st2 H2 hi e2 hl2 k2 s2 hguard
      by_cases hlt : i < items.length
      · refine .inr ⟨(hgo hlt).1, fun σ' H' => ∃ m2 ls2 st2, Ext m1 st1.length m2 ∧ st1.length ≤ st2.length ∧ Keep H1 H' ∧ StR Γ m2 st2 H' ∧ LsR Γ m2 st2.length H' ls2 σ' ∧
          ResS Γ m2 st2.length H' (forD gd t d1 (items.drop (i + 1)) ls2 st2) D W, fun σ' H' n => ⟨_, by omega, rfl, hlt, n⟩, fun x H3 y => ?_⟩
        obtain ⟨d, hd, k3, s3, rd⟩ := (hgo hlt).2 x H3 y
        have hdrop : items.drop i = d :: items.drop (i + 1) := by
          rw [List.drop_eq_getElem_cons hlt]
          have : items[i] = d := by
            rw [List.getElem?_eq_getElem hlt] at hd
            exact Option.some.inj hd
          rw [this]
        rw [hdrop, forD, if_pos hguard] at q2
        cases ea : asg t d ls2 with
        | none =>
          rw [ea] at q2
          exact q2.elim
        | some ls3 =>
          rw [ea] at q2
          dsimp only at q2
          have l3 := l2.mono (Ext.refl _ _) (Nat.le_refl _) k3
          refine ⟨m2, st2.length, ls2, d, ls3, l3, rd, ea, fun σ3 hl3 _ => ⟨m2, ls3, st2, s3, hl3, ?_⟩⟩
          have hb' := fun a l st' q => hb ls3 st2 a l st' q
          match d1 ls3 st2, q2, hb' with
          | some (.next, ls4, st4), q2, hb' =>
            have hl4 := hb' _ _ _ rfl
            exact ⟨hl4, fun m4 H4 σ4 e4 k4 s4 l4 => ⟨m4, ls4, st4, e2.trans e4 hl2, Nat.le_trans hl2 hl4, (k2.trans k3).trans k4, s4, l4, ResS.mono (r := forD gd t d1 (items.drop (i + 1)) ls4 st4) q2 e4 (k3.trans k4) hl4 fun a l st' q => forD_mono hb _ _ _ _ _ _ q⟩⟩
          | some (.cont, ls4, st4), q2, hb' =>
            have hl4 := hb' _ _ _ rfl
            exact ⟨hl4, fun m4 H4 σ4 e4 k4 s4 l4 => ⟨m4, ls4, st4, e2.trans e4 hl2, Nat.le_trans hl2 hl4, (k2.trans k3).trans k4, s4, l4, ResS.mono (r := forD gd t d1 (items.drop (i + 1)) ls4 st4) q2 e4 (k3.trans k4) hl4 fun a l st' q => forD_mono hb _ _ _ _ _ _ q⟩⟩
          | some (.brk, ls4, st4), q2, hb' => exact ⟨hb' _ _ _ rfl, fun m4 H4 σ4 e4 k4 s4 l4 => q2.2 m4 H4 σ4 e4 (k3.trans k4) s4 l4⟩
          | some (.ret d, ls4, st4), q2, hb' => exact ⟨hb' _ _ _ rfl, fun m4 H4 v e4 k4 s4 r4 => q2.2 m4 H4 v e4 (k3.trans k4) s4 r4⟩
          | some (.exc c fs, ls4, st4), q2, hb' => exact ⟨hb' _ _ _ rfl, fun m4 H4 σ4 dd e4 k4 s4 l4 x4 => q2.2 m4 H4 σ4 dd e4 (k3.trans k4) s4 l4 x4⟩
          | none, q2, _ => exact q2.elim
      · have e : i = items.length := by omega
        refine .inl ⟨hstop e, ?_⟩
        rw [e, List.drop_length, forD, if_pos hguard] at q2
        exact OutS.here q2 s2 l2
theorem ss_for (hp : PassesOwn (model X.prog X.w) X.A X.env X.xe) (hc : X.calm = true) (hi : SimI X Γ W tg iter di) (hg : PG X tg (tG Γ t)) (hb : SimB X Γ W body d1) (hs : ∀ x, foldedSetIterable iter X.env x = pure x) : SimS X Γ W (.For tg iter body [] pos) (dFor di t d1) := by
  refine ⟨fun ls st a l st' h => ?_, (ps_for hp hc hi.pi hg hb.ps hs).imp fun D σ H h => tFor_of hi.mono hb.mono h⟩
  unfold dFor at h
  have mi := fun r st' q => hi.mono ls st r st' q
  match di ls st, h, mi with
  | some (.exc c fs, st1), h, mi =>
    cases h
    exact mi _ _ rfl
  | some (.it items gd, st1), h, mi => exact Nat.le_trans (mi _ _ rfl) (forD_mono hb.mono _ _ _ _ _ _ h)
  | none, h, mi => cases h
end
end MP
end
section
set_option maxRecDepth 100000
set_option maxHeartbeats 1000000
namespace MP
open PySem PySem.Spec PyProof.Rows L2

section
variable {X : Cx} {Γ : Gam} {W : WX} {e a b c o i tg iter : Expr} {da db dc de do_ di_ : De} {pos pos' tpos p2 : Pos} {es : List Expr} {das : List De} {t : Tg} {di : Di} {s1 : Stmt} {body rest orelse : List Stmt} {d1 d2 d3 : Ds}
/-! ### o[i] = e -/
def setK (ls : Ls) (v o i : D) (st : Sto) : Rss := match o, i with
  | .obj n, .int k => match st[n]? with
    | some (.lst false l) => match ixN l.length k with
      | some j => some (.next, ls, st.set n (.lst false (l.set j v)))
      | none => none
    | _ => none
  | _, _ => none
theorem monoK_set {ls : Ls} {v o : D} : MonoK (setK ls v o) := fun i st a l st' h => by
  unfold setK at h
  repeat' (split at h)
  all_goals first | (cases h; rw [List.length_set]; exact Nat.le_refl _) | cases h
def dSetIx (de do_ di_ : De) : Ds := fun ls st => bindS (de ls st) ls fun v st1 => bindS (do_ ls st1) ls fun o st2 => bindS (di_ ls st2) ls (setK ls v o)
theorem ss_setix (he : Sim X Γ W e de) (ho : Sim X Γ W o do_) (hi : Sim X Γ W i di_) (ha : ∀ v, assign (.Subscript o i tpos) X.env v = (do
      let ov ← holding [v] (eval o X.env)
      let iv ← holding [v, ov] (eval i X.env)
      standAt tpos
      holding [v, ov, iv] (setItem ov iv v)
      release [v, ov, iv] [])) (hs : swapsWithSole [.Subscript o i tpos] e pos.line X.env = pure false) (hw : swappedStores [.Subscript o i tpos] e X.env = pure none)
    (h1 : (assignEach [.Subscript o i tpos] X.env).map (·.2) = [assign (.Subscript o i tpos) X.env]) : SimS X Γ W (.Assign [.Subscript o i tpos] e pos) (dSetIx de do_ di_) := by
  have m2 : ∀ (ls : Ls) (v o : D), MonoK (setK ls v o) := fun ls v o => monoK_set
  have m1 : ∀ (ls : Ls) (v : D), MonoK fun o st2 => bindS (di_ ls st2) ls (setK ls v o) := fun ls v o st a l st' h => bindS_mono (fun a s z => hi.mono ls st a s z) (m2 ls v o) a l st' h
  have m0 : ∀ (ls : Ls), MonoK fun v st1 => bindS (do_ ls st1) ls fun o st2 => bindS (di_ ls st2) ls (setK ls v o) := fun ls v st a l st' h => bindS_mono (fun a s z => ho.mono ls st a s z) (m1 ls v) a l st' h
  refine ⟨fun ls st a l st' h => bindS_mono (fun a s z => he.mono ls st a s z) (m0 ls) a l st' h, (ps_asg he.pe (pg_sub ho.pe hi.pe set_list ha) hs hw h1).imp fun D σ H ⟨m, ls, st, s, l, h⟩ => ?_⟩
  refine tD_bindS he.mono s l (m0 ls) h fun m1' v st1 vv H1 s1 l1 r1 q1 _ _ _ => ?_
  refine tD_bindS ho.mono s1 l1 (m1 ls v) q1 fun m2' o st2 ov H2 s2 l2 r2 q2 hl2 e2 k2 => ?_
  refine tD_bindS hi.mono s2 l2 (m2 ls v o) q2 fun m3' i st3 iv H3 s3 l3 r3 q3 hl3 e3 k3 => ?_
  unfold setK at q3
  split at q3
  · rename_i n k
    split at q3
    · rename_i l0 el
      split at q3
      · rename_i j ej
        have r2' := r2.mono e3 hl3 k3
        cases r2'
        cases r3
        obtain ⟨vs, hv, rv⟩ := s3.lst el
        refine ⟨m3' n, vs, k, j, rfl, rfl, hv, by rw [← rv.length]; exact ej, ?_⟩
        have k4 : Keep H3 (upd H3 (m3' n) (.lst (vs.set j vv))) := .put hv .lst
        have r1' := (r1.mono e2 hl2 k2).mono e3 hl3 k3
        have s4 := s3.put (o := .lst (vs.set j vv)) (c' := .lst false (l0.set j v)) el rfl rfl ⟨_, upd_same, (rv.set j r1').mono (Ext.refl _ _) (Nat.le_refl _) k4⟩
        refine q3.2 m3' _ σ (Ext.refl _ _) k4 s4 ?_
        rw [List.length_set]
        exact l3.mono (Ext.refl _ _) (Nat.le_refl _) k4
      · exact q3.elim
    · exact q3.elim
  · exact q3.elim
/-! ### o.f = e -/
def putD (f : Str) (d : D) : List (Str × D) → List (Str × D)
  | [] => [(f, d)]
  | (g, v) :: r => if g = f then (g, d) :: r else (g, v) :: putD f d r
theorem FsR.put {m : Nat → Addr} {L : Nat} {H : Hp} {f : Str} {d : D} {v : V} (r : Rv Γ.K m L H d v) : ∀ {fs : List (Str × D)} {vs : List (Str × V)}, FsR Γ.K m L H fs vs → FsR Γ.K m L H (putD f d fs) (putF f v vs)
  | _, _, .nil => .cons r .nil
  | (g, d0) :: fs, _, .cons (v := v0) (vs := vs) r0 rs => by
    show FsR Γ.K m L H (if g = f then (g, d) :: fs else (g, d0) :: putD f d fs) (if g = f then (g, v) :: vs else (g, v0) :: putF f v vs)
    by_cases e : g = f
    · rw [if_pos e, if_pos e]
      exact .cons r rs
    · rw [if_neg e, if_neg e]
      exact .cons r0 (FsR.put r rs)
theorem FsR.length {m : Nat → Addr} {L : Nat} {H : Hp} : ∀ {fs : List (Str × D)} {vs : List (Str × V)}, FsR Γ.K m L H fs vs → fs.length = vs.length
  | _, _, .nil => rfl
  | _, _, .cons _ rs => by rw [List.length_cons, List.length_cons, FsR.length rs]
def setFK (cs : List Str) (f : Str) (ls : Ls) (v o : D) (st : Sto) : Rss := match o with
  | .obj n => match st[n]? with
    | some (.ins c fs) => if cs.contains c && decide (fs.length < 1000) then some (.next, ls, st.set n (.ins c (putD f v fs))) else none
    | _ => none
  | _ => none
theorem monoK_setF {cs : List Str} {f : Str} {ls : Ls} {v : D} : MonoK (setFK cs f ls v) := fun i st a l st' h => by
  unfold setFK at h
  repeat' (split at h)
  all_goals first | (cases h; rw [List.length_set]; exact Nat.le_refl _) | cases h
def dSetF (cs : List Str) (f : Str) (do_ de : De) : Ds := fun ls st => bindS (de ls st) ls fun v st1 => bindS (do_ ls st1) ls (setFK cs f ls v)
theorem ss_setf {cs : List Str} {f : Str} (hK : X.K = Γ.K) (hc : FldOk Γ cs f) (ho : Sim X Γ W o do_) (he : Sim X Γ W e de) (hs : swapsWith e (some (.Attribute o f pos')) pos.line X.env = pure false) : SimS X Γ W (.Assign [.Attribute o f pos'] e pos) (dSetF cs f do_ de) := by
  have m1 : ∀ (ls : Ls) (v : D), MonoK (setFK cs f ls v) := fun ls v => monoK_setF
  have m0 : ∀ (ls : Ls), MonoK fun v st1 => bindS (do_ ls st1) ls (setFK cs f ls v) := fun ls v st a l st' h => bindS_mono (fun a s z => ho.mono ls st a s z) (m1 ls v) a l st' h
  refine ⟨fun ls st a l st' h => bindS_mono (fun a s z => he.mono ls st a s z) (m0 ls) a l st' h, (ps_fld ho.pe he.pe hs).imp fun D σ H ⟨m, ls, st, s, l, h⟩ => ?_⟩
  refine tD_bindS he.mono s l (m0 ls) h fun m1' v st1 vv H1 s1 l1 r1 q1 _ _ _ => ?_
  refine tD_bindS ho.mono s1 l1 (m1 ls v) q1 fun m2' o st2 ov H2 s2 l2 r2 q2 hl2 e2 k2 => ?_
  unfold setFK at q2
  split at q2
  · rename_i n
    split at q2
    · rename_i c fs el
      split at q2
      · rename_i hcs
        obtain ⟨hcs, hlt⟩ := Bool.and_eq_true_iff.mp hcs
        cases r2
        obtain ⟨dx, vs, hv, rv⟩ := s2.cell n _ el
        obtain ⟨c1, c2⟩ := hc c hcs
        refine ⟨m2' n, Γ.cl c, dx, vs, rfl, hv, by rw [hK]; exact c1, by rw [hK]; exact c2, by rw [← rv.length]; exact of_decide_eq_true hlt, ?_⟩
        have k4 : Keep H2 (upd H2 (m2' n) (.ins (Γ.cl c) dx (putF f vv vs))) := .put hv .ins
        have r1' := r1.mono e2 hl2 k2
        have s4 := s2.put (o := .ins (Γ.cl c) dx (putF f vv vs)) (c' := .ins c (putD f v fs)) el rfl rfl ⟨dx, _, upd_same, FsR.mono (Γ := Γ) (Ext.refl _ _) (Nat.le_refl _) k4 (rv.put r1')⟩
        refine q2.2 m2' _ σ (Ext.refl _ _) k4 s4 ?_
        rw [List.length_set]
        exact l2.mono (Ext.refl _ _) (Nat.le_refl _) k4
      · exact q2.elim
    · exact q2.elim
  · exact q2.elim

/-! ### raise -/
def dRaise0 (c : Str) : Ds := fun ls st => some (.exc c [], ls, st)
/-- raise C('..') of a class without __init__ -/
theorem ss_raise0 {c x : Str} {m : Str} {j : Nat} {p p3 : Pos} {bmB : List Value} {B newId initId : String} (hcalm : X.calm = true) (tk : Takes X W) (F : ExcBaseFacts B newId initId bmB) (q : PySem.W.excIn X.K (Γ.cl c) bmB newId = true) (gC : X.mg x = some (.ref (Γ.cl c))) (kC : PySem.W.keepIn X.K (.ref (Γ.cl c)) = true)
    (r : Raises X (.ref (Γ.cl c))) (hg : Gl X x) (hdb : (x == ("__debug__" : Str)) = false) : SimS X Γ W (.Raise (some (.Call (.Name x p) [.Constant (.str m) j p2] [] p3)) none pos) (dRaise0 c) :=
  ⟨fun ls st a l st' h => by cases h; exact Nat.le_refl _, (ps_raise hcalm tk (pmk_own F q gC kC r hg hdb)).imp fun D σ H ⟨m, ls, st, s, l, h⟩ => h.2 m H σ none (Ext.refl _ _) (Keep.refl _) s l (.inl ⟨rfl, rfl⟩)⟩
def raiseK (c f : Str) (ls : Ls) (d : D) (st : Sto) : Rss := some (.exc c [(f, d)], ls, st)
def dRaise1 (c f : Str) (da : De) : Ds := fun ls st => bindS (da ls st) ls (raiseK c f ls)
theorem monoK_raise {c f : Str} {ls : Ls} : MonoK (raiseK c f ls) := fun d st a l st' h => by cases h; exact Nat.le_refl _
/-- the promise of such an __init__: self.f = v -/
def spX1 (K : PySem.W.Frag) (C : Addr) (f : Str) : Sp := fun vs H Q E => ∃ a v, vs = [.ref a, v] ∧ OexC K C ∧ PySem.W.findIn K (.ref C) f = some none ∧ H a = some (exo a C none) ∧ ∀ dx, H dx = none → dx ≠ a → Q .non (upd (upd H dx (exd dx [(f, v)])) a (exo a C (some dx)))
theorem ss_raise1 {c f x : Str} {p p3 : Pos} {fI : Addr} {k : Nat} {fd : FuncData} {ps : List Str} (hcalm : X.calm = true) (tk : Takes X W) (T : OexC X.K (Γ.cl c)) (nf : PySem.W.findIn X.K (.ref (Γ.cl c)) f = some none) (iC : PySem.W.findIn X.K (.ref (Γ.cl c)) "__init__" = some (some (.ref fI)))
    (tI : PySem.W.typeIn X.K (.ref fI) = some (.type "function")) (F1 : FnOk X.prog X.w X.K X.mg X.base CX0 k fI fd ps (spX1 X.K (Γ.cl c) f)) (hr : Room (k + 1) X.A) (hb : Binds X.K fd ps []) (hg : Gl X x) (hm : X.mg x = some (.ref (Γ.cl c))) (ha : Sim X Γ W a da)
    (hdb : (x == ("__debug__" : Str)) = false) (hst : starEach [a] X.env = (false, eval a X.env) :: starEach [] X.env) : SimS X Γ W (.Raise (some (.Call (.Name x p) [a] [] p3)) none pos) (dRaise1 c f da) := by
  refine ⟨fun ls st a l st' h => bindS_mono (fun a s z => ha.mono ls st a s z) monoK_raise a l st' h, (ps_raise hcalm tk (pmk_oex T iC tI F1 hr hb .nil (fun _ _ _ _ _ _ _ h => h.elim) hg hm (pa_cons ha.pe pa_nil hst) hdb hst (by rfl))).imp fun D σ H ⟨m, ls, st, s, l, h⟩ => ?_⟩
  refine tD_bindS ha.mono s l monoK_raise h fun m1 d st1 v H1 s1 l1 r1 q1 _ _ _ => ?_
  refine ⟨by show 1 ≤ 1000; decide, fun a0 ha0 => ⟨a0, v, rfl, T, nf, upd_same, fun dx hdx hne => ⟨rfl, dx, [(f, v)], upd_same, by rw [upd_ne hne, upd_same], ?_, ?_⟩⟩⟩
  · rw [upd_ne hne] at hdx
    exact hdx
  · have hdx0 : H1 dx = none := by
      rw [upd_ne hne] at hdx
      exact hdx
    have eH : upd (del (upd (upd (upd H1 a0 (exo a0 (Γ.cl c) none)) dx (exd dx [(f, v)])) a0 (exo a0 (Γ.cl c) (some dx))) a0) dx (.xd [(f, v)]) = upd H1 dx (.xd [(f, v)]) := by
      funext b
      by_cases hb : b = dx
      · rw [hb, upd_same, upd_same]
      · rw [upd_ne hb, upd_ne hb]
        by_cases hb2 : b = a0
        · rw [hb2, del_same, ha0]
        · rw [del_ne hb2, upd_ne hb2, upd_ne hb, upd_ne hb2]
    rw [eH]
    have k : Keep H1 (upd H1 dx (.xd [(f, v)])) := .new hdx0
    have s2 : StR Γ m1 st1 (upd H1 dx (.xd [(f, v)])) := ⟨fun i c hi => (s1.cell i c hi).mono (Ext.refl _ _) (Nat.le_refl _) k fun o q => by rw [upd_ne (ne_of_none q hdx0)]; exact q, s1.inj, tabs_new hdx0 s1.tabs⟩
    refine q1.2 m1 _ σ (some dx) (Ext.refl _ _) k s2 (l1.mono (Ext.refl _ _) (Nat.le_refl _) k) (.inr ⟨(fun z => by cases z), dx, [(f, v)], rfl, upd_same, .cons (r1.mono (Ext.refl _ _) (Nat.le_refl _) k) .nil⟩)

/-! ### a new instance -/
theorem run_makeS {C fI : Addr} {k : Nat} {fd : FuncData} {ps : List Str} {sp : Sp} {E : L2.St → XK} {pins : List (Addr × Obj)} {σ : L2.St} {H : Hp} {s : Shared} {Q : VK} {us : List Value} {vs : List V} {CX : CXT} (M : Mk X.K C fI) (F : FnOk X.prog X.w X.K X.mg X.base CX k fI fd ps sp) (hr : Room (k + 1) X.A) (hb : Binds X.K fd ps [])
    (hx : PassesAt CX X σ (E σ)) (I : Inv X pins σ H s) (r : Vals vs us)
    (h : ∀ x dx, H x = none → H dx = none → dx ≠ x → sp (.ref x :: vs) (upd (upd H dx (.own x)) x (.ins C dx [])) (fun v H2 => v = .non ∧ Q (.ref x) H2) (E σ)) :
    wpAny (model X.prog X.w) X.A (call (.ref C) us) (EP X pins σ Q) X.xe s := by
  have hq := h (s.heap.objs.size + 1) s.heap.objs.size (I.hok.fresh (Nat.le_succ _)) (I.hok.fresh (Nat.le_refl _)) (Nat.ne_of_lt (Nat.lt_succ_self _))
  have I2 := Inv.made (C := C) I
  have r2 : Vals (V.ref (s.heap.objs.size + 1) :: vs) (Value.ref (s.heap.objs.size + 1) :: us) := .cons rfl r
  have hl : (Value.ref (s.heap.objs.size + 1) :: us).length = ps.length := by
    have e := r2.length
    rw [F.len _ _ _ _ hq] at e
    exact e.symm
  have b := hb ⟨_, s.gens, s.drawn, s.toks, s.os⟩ (Value.ref (s.heap.objs.size + 1) :: us) I2.kIn (by rw [List.append_nil]; exact hl)
  rw [List.append_nil] at b
  refine wpAny_call (make_map (f := fI) I.kIn M.makes M.init (beq_iff_eq.mp M.fn) (codeAny_mono (F.run _ X.stack _ _ ⟨Value.ref (s.heap.objs.size + 1) :: us, []⟩ (Value.ref (s.heap.objs.size + 1) :: us) _ _ (E σ) (hr.make C us [])
    (I2.env0.make C us []) b r2 hq) fun r s' hq' => ?_))
  cases r with
  | error e => exact hx pins _ _ e s' I2 hq'
  | ok fl =>
    cases fl with
    | ret u =>
      obtain ⟨v, H', I3, rv, ev, q3⟩ := I2.after hq'
      subst ev
      exact ⟨rv, ⟨V.ref (s.heap.objs.size + 1), H', I3, rfl, q3⟩⟩
    | next => exact False.elim hq'
    | brk => exact False.elim hq'
    | cont => exact False.elim hq'
def tMakeS (C : Addr) (sp : Sp) (E : L2.St → XK) (t : TA) : TE := fun σ H Q => t σ H fun vs H1 => ∀ x dx, H1 x = none → H1 dx = none → dx ≠ x →
  sp (.ref x :: vs) (upd (upd H1 dx (.own x)) x (.ins C dx [])) (fun v H2 => v = .non ∧ Q (.ref x) H2) (E σ)
theorem pe_makeS {C fI : Addr} {k : Nat} {fd : FuncData} {ps : List Str} {sp : Sp} {E : L2.St → XK} {CX : CXT} {x : Str} {p : Pos} {ta : TA} (M : Mk X.K C fI) (F : FnOk X.prog X.w X.K X.mg X.base CX k fI fd ps sp) (hr : Room (k + 1) X.A) (hg : Gl X x) (hm : X.mg x = some (.ref C)) (hb : Binds X.K fd ps []) (hx : ∀ σ, PassesAt CX X σ (E σ))
    (ha : PA X (e :: es) ta) (hdb : (x == ("__debug__" : Str)) = false) (he : starEach (e :: es) X.env = (false, eval e X.env) :: starEach es X.env) (hpl : (backTo pos (starEach es X.env)).any (·.1) = false) :
    PE X (.Call (.Name x p) (e :: es) [] pos) (tMakeS C sp E ta) := by
  refine ⟨fun pins s σ H Q I h => ?_⟩
  refine wpAny_Call_Name_kw (ld_glob I hg hm ?_ hdb)
  refine PySem.W.callWith_K (h₀ := X.base) I.ok.mod.kin M.kp (thn (ha.run pos pins s σ H _ I h) fun us s1 ⟨vs, H1, I1, r, q⟩ => ⟨I1.kIn, ?_⟩) he hpl
  exact run_makeS M F hr hb (hx σ) I1 r q
/-- C(..): g is what __init__ does -/
def mkK (n : Nat) (r : Rt) : Rt := match r with
  | some (.ok .non, st') => okD (.obj n) st'
  | some (.exc k fs, st') => some (.exc k fs, st')
  | _ => none
def fMake (c : Str) (g : List D → Sto → Rt) (ds : List D) (st : Sto) : Rt := mkK st.length (g (.obj st.length :: ds) (st ++ [.ins c []]))
theorem mono_fMake {c : Str} {g : List D → Sto → Rt} (hg : MonoFA g) : MonoFA (fMake c g) := fun ds st r st' h => by
  unfold fMake mkK at h
  have hl : (st ++ [Cell.ins c []]).length = st.length + 1 := by rw [List.length_append, List.length_singleton]
  split at h
  · rename_i st1 e
    have z := hg _ _ _ _ e
    rw [hl] at z
    cases h
    exact Nat.le_trans (Nat.le_succ _) z
  · rename_i k fs st1 e
    have z := hg _ _ _ _ e
    rw [hl] at z
    cases h
    exact Nat.le_trans (Nat.le_succ _) z
  · cases h
theorem sim_make {c x : Str} {fI : Addr} {k n : Nat} {fd : FuncData} {ps : List Str} {p : Pos} {g : List D → Sto → Rt} (M : Mk X.K (Γ.cl c) fI) (F : FnOk X.prog X.w X.K X.mg X.base (L2.CX X.prog X.w) k fI fd ps (spD Γ (n + 1) g)) (mg : MonoFA g) (hr : Room (k + 1) X.A) (hg : Gl X x) (hm : X.mg x = some (.ref (Γ.cl c)))
    (hb : Binds X.K fd ps []) (hx : ∀ σ, PassesAt (L2.CX X.prog X.w) X σ (fun c d H' => W c d σ H')) (ha : SimA X Γ W (e :: es) das) (hn : das.length = n) (hdb : (x == ("__debug__" : Str)) = false) (he : starEach (e :: es) X.env = (false, eval e X.env) :: starEach es X.env) (hpl : (backTo pos (starEach es X.env)).any (·.1) = false) :
    Sim X Γ W (.Call (.Name x p) (e :: es) [] pos) (dApp (fMake c g) das) := by
  refine ⟨mono_app ha.mono (mono_fMake mg), (pe_makeS (E := fun σ c d H' => W c d σ H') M F hr hg hm hb hx ha.pa hdb he hpl).imp fun σ H Q ⟨m, ls, st, s, l, h⟩ => ?_⟩
  refine ⟨m, ls, st, s, l, ?_⟩
  have ma := fun r st' q => ha.mono ls st r st' q
  have hlen := fun ds st' (q : evA das ls st = some (.ok ds, st')) => (evA_len q).trans hn
  unfold dApp at h
  match evA das ls st, h, ma, hlen with
  | some (.exc c fs, st1), h, _, _ => exact h
  | some (.ok ds, st1), h, ma, hlen =>
    have hl := ma _ _ rfl
    refine ⟨hl, fun m1 H1 vs e1 k1 s1 r1 x0 dx hx0 hdx hne => ?_⟩
    have hds := hlen _ _ rfl
    have h : Res Γ m st.length H (fMake c g ds st1) Q (fun c d H' => W c d σ H') := h
    have hl2 : (st1 ++ [Cell.ins c []]).length = st1.length + 1 := by rw [List.length_append, List.length_singleton]
    have k2 : Keep H1 (upd H1 dx (.own x0)) := .new hdx
    have hx1 : (upd H1 dx (.own x0)) x0 = none := by rw [upd_ne (Ne.symm hne)]; exact hx0
    have s2 : StR Γ m1 st1 (upd H1 dx (.own x0)) := ⟨fun i c hi => (s1.cell i c hi).mono (Ext.refl _ _) (Nat.le_refl _) k2 fun o q => by rw [upd_ne (ne_of_none q hdx)]; exact q, s1.inj, tabs_new hdx s1.tabs⟩
    have s3 := s2.push (c := .ins c []) (o := .ins (Γ.cl c) dx []) hx1 ⟨dx, [], upd_same, .nil⟩
    have e3 : Ext m1 st1.length (extM m1 st1.length x0) := extM_ext
    have k3 : Keep (upd H1 dx (.own x0)) (upd (upd H1 dx (.own x0)) x0 (.ins (Γ.cl c) dx [])) := .new hx1
    have hob : Rv Γ.K (extM m1 st1.length x0) (st1 ++ [Cell.ins c []]).length (upd (upd H1 dx (.own x0)) x0 (.ins (Γ.cl c) dx [])) (.obj st1.length) (.ref x0) := by
      have z := Rv.obj (K := Γ.K) (m := extM m1 st1.length x0) (H := upd (upd H1 dx (.own x0)) x0 (.ins (Γ.cl c) dx [])) (n := st1.length) (L := (st1 ++ [Cell.ins c []]).length) (by rw [hl2]; exact Nat.lt_succ_self _)
      rw [extM_new] at z
      exact z
    refine ⟨by rw [List.length_cons, ← r1.length, hds], extM m1 st1.length x0, .obj st1.length :: ds, st1 ++ [.ins c []], s3, .cons hob (r1.mono e3 (by rw [hl2]; exact Nat.le_succ _) (k2.trans k3)), ?_⟩
    unfold fMake at h
    have gm := fun r st' q => mg (.obj st1.length :: ds) (st1 ++ [.ins c []]) r st' q
    revert h gm
    generalize g _ _ = r0
    intro h gm
    match r0, h, gm with
    | some (.ok .non, st4), h, gm =>
      have hl4 := gm _ _ rfl
      refine ⟨hl4, fun m4 H4 v e4 k4 s4 r4 => ?_⟩
      cases r4
      refine ⟨rfl, h.2 m4 H4 (.ref x0) ((e1.trans e3 hl).trans e4 (by rw [hl2]; exact Nat.le_trans hl (Nat.le_succ _))) ((k1.trans (k2.trans k3)).trans k4) s4 ?_⟩
      have z := Rv.mono e4 hl4 k4 hob
      exact z
    | some (.ok (.bl _), st4), h, _ => exact h.elim
    | some (.ok (.int _), st4), h, _ => exact h.elim
    | some (.ok (.str _), st4), h, _ => exact h.elim
    | some (.ok (.tup _), st4), h, _ => exact h.elim
    | some (.ok (.obj _), st4), h, _ => exact h.elim
    | some (.exc c fs, st4), h, gm =>
      have hl4 := gm _ _ rfl
      exact ⟨hl4, fun m4 H4 dd e4 k4 s4 x4 => h.2 m4 H4 dd ((e1.trans e3 hl).trans e4 (by rw [hl2]; exact Nat.le_trans hl (Nat.le_succ _))) ((k1.trans (k2.trans k3)).trans k4) s4 x4⟩
end

/-! ### defs -/
def startL (n : Nat) (ds : List D) : Ls := ds.map some ++ List.replicate (n - ds.length) none
/-- what a def does: its body at the arguments -/
def runD (n : Nat) (db : Ds) (ds : List D) (st : Sto) : Rt := match db (startL n ds) st with
  | some (.next, _, st') => okD .non st'
  | some (.ret d, _, st') => okD d st'
  | some (.exc c fs, _, st') => some (.exc c fs, st')
  | _ => none
theorem mono_runD {n : Nat} {db : Ds} (h : MonoS db) : MonoFA (runD n db) := fun ds st r st' q => by
  unfold runD at q
  split at q
  · rename_i e
    cases q
    exact h _ _ _ _ _ e
  · rename_i e
    cases q
    exact h _ _ _ _ _ e
  · rename_i e
    cases q
    exact h _ _ _ _ _ e
  · cases q
theorem startL_rel {Γ : Gam} {m : Nat → Addr} {L : Nat} {H : Hp} {N : List Str} {ds : List D} {vs : List V} (r : RvL Γ.K m L H ds vs) : LsR Γ m L H (startL N.length ds) (L2.start N vs) := by
  unfold startL L2.start
  refine ⟨by rw [List.length_append, List.length_append, List.length_map, List.length_map, List.length_replicate, List.length_replicate, r.length], fun i d h => ?_⟩
  by_cases hi : i < ds.length
  · rw [List.getElem?_append_left (by rw [List.length_map]; exact hi), List.getElem?_map] at h
    cases e : ds[i]? with
    | none => rw [e] at h; cases h
    | some d' =>
      rw [e] at h
      have ed : d' = d := Option.some.inj (Option.some.inj h)
      subst ed
      obtain ⟨v, hv, rv⟩ := r.get e
      refine ⟨v, ?_, rv⟩
      rw [List.getElem?_append_left (by rw [List.length_map, ← r.length]; exact hi), List.getElem?_map, hv]
      rfl
  · rw [List.getElem?_append_right (by rw [List.length_map]; omega), List.getElem?_replicate] at h
    split at h <;> cases h
/-- THE RULE for a def -/
theorem fn_sim {P : Program} {w : World} {K : PySem.W.Frag} {mg : Str → Option Value} {base : Heap} {Γ : Gam} (hK : K = Γ.K) {x qual : Str} {st : Stmt} {f : Addr} {fd : FuncData} {N ps : List Str} {k : Nat} (F : Fun K x qual st f fd) (S : FnScope N ps (defScope st)) {g : List D → Sto → Rt} {db : Ds}
    (hg : g = runD N.length db)
    (hbody : ∀ (cdv : Value) (A : Around) (outer : List Env) (s : Shared) (H : Hp) (E : XK), Room k (A.deeper (envOfC qual (defScope st) s.heap.objs.size f cdv)) →
      SimB (cxOf (L2.CX P w) P w K mg base N qual (defScope st) f cdv A outer s H E) Γ (fun c d _ H' => E c d H') (defBody st) db) : FnOk P w K mg base (L2.CX P w) (k + 1) f fd ps (spD Γ ps.length g) := by
  subst hg
  refine F.okX S (fun vs H Q E h => h.1) (fun cdv A outer s H vs Q E hr h => ?_)
  obtain ⟨_, m, ds, sto, sr, rv, h⟩ := h
  have B := hbody cdv A outer s H E hr
  refine ⟨_, B.ps, m, startL N.length ds, sto, sr, startL_rel rv, ?_⟩
  have mb := fun a l st' q => B.mono (startL N.length ds) sto a l st' q
  unfold runD at h
  match db (startL N.length ds) sto, h, mb with
  | some (.next, ls', st'), h, mb => exact ⟨h.1, fun m' H' σ' e k s l => h.2 m' H' .non e k s .non⟩
  | some (.ret d, ls', st'), h, mb => exact h
  | some (.exc c fs, ls', st'), h, mb => exact ⟨h.1, fun m' H' σ' dd e k s l x => h.2 m' H' dd e k s x⟩
  | some (.brk, ls', st'), h, mb => exact h.elim
  | some (.cont, ls', st'), h, mb => exact h.elim
end MP
end
section
set_option maxRecDepth 100000
set_option maxHeartbeats 1000000
namespace MP
open PySem PySem.Spec PyProof.Rows L2

/-- the text's def x stands behind the top -/
structure FunX (K : PySem.W.Frag) (mg : Str → Option Value) (x : Str) (st : Stmt) (ps : List Str) : Prop where
  ex : ∃ f fd, Fun K x x st f fd ∧ mg x = some (.ref f) ∧ Binds K fd ps []
/-- the global def x does what g says -/
structure Den (P : Program) (w : World) (Γ : Gam) (mg : Str → Option Value) (base : Heap) (k : Nat) (x : Str) (n : Nat) (g : List D → Sto → Rt) : Prop where
  ex : ∃ f fd ps, FnOk P w Γ.K mg base (L2.CX P w) k f fd ps (spD Γ n g) ∧ mg x = some (.ref f) ∧ PySem.W.keepIn Γ.K (.ref f) = true ∧ Binds Γ.K fd ps []
  mono : MonoFA g
section
variable {P : Program} {w : World} {Γ : Gam} {mg : Str → Option Value} {base : Heap}
theorem room_c {k : Nat} (hk : k ≤ 100) (env : Env) : Room k (callerA.deeper env) := by
  have h1 : claimMargin + 400 < recursionLimit := by decide
  have h2 : 3000 < cLine := by decide
  refine ⟨rfl, ?_, ?_⟩
  · show 1 + claimMargin + 1 + 3 * k + 5 < recursionLimit
    omega
  · show 4 + 3 + 16 * k + 200 < cLine
    omega
theorem den_of {x : Str} {st : Stmt} {N ps : List Str} {k : Nat} (F : FunX Γ.K mg x st ps) (S : FnScope N ps (defScope st)) {db : Ds}
    (hbody : ∀ (f : Addr) (cdv : Value) (A : Around) (outer : List Env) (s : Shared) (H : Hp) (E : XK), Room k (A.deeper (envOfC x (defScope st) s.heap.objs.size f cdv)) →
      SimB (cxOf (L2.CX P w) P w Γ.K mg base N x (defScope st) f cdv A outer s H E) Γ (fun c d _ H' => E c d H') (defBody st) db) (hk : k ≤ 100 := by decide) : Den P w Γ mg base (k + 1) x ps.length (runD N.length db) := by
  obtain ⟨f, fd, F, hm', b⟩ := F.ex
  have hm := (hbody 0 .none callerA [] {} (fun _ => none) (fun _ _ _ => False) (room_c hk _)).mono
  exact ⟨⟨f, fd, ps, fn_sim rfl F S rfl (hbody f), hm', F.kp, b⟩, mono_runD hm⟩
theorem sim_callD {X : Cx} {W : WX} {e : Expr} {es : List Expr} {das : List De} {x : Str} {p pos : Pos} {k n : Nat} {g : List D → Sto → Rt} (G : Den X.prog X.w Γ X.mg X.base k x n g) (hK : X.K = Γ.K) (hr : Room k X.A) (hg : Gl X x)
    (hx : ∀ σ, PassesAt (L2.CX X.prog X.w) X σ (fun c d H' => W c d σ H')) (h : SimA X Γ W (e :: es) das) (hn : das.length = n) (hn2 : (e :: es).length = n) (hdb : (x == ("__debug__" : Str)) = false) (he : starEach (e :: es) X.env = (false, eval e X.env) :: starEach es X.env)
    (hpl : (backTo pos (starEach es X.env)).any (·.1) = false) : Sim X Γ W (.Call (.Name x p) (e :: es) [] pos) (dApp g das) := by
  obtain ⟨⟨f, fd, ps, F, hm, hk, hb⟩, mo⟩ := G
  rw [← hK] at F hk hb
  exact sim_call F mo hr hg hm hk hb hx h hn2 hdb he hpl fun ls st ds st' q => (evA_len q).trans hn
/-- a def's own wish about exceptions -/
theorem hx_def {K : PySem.W.Frag} {N : List Str} {qual : Str} {sc : Scope} {f : Addr} {cdv : Value} {A : Around} {outer : List Env} {s : Shared} {H : Hp} {E : XK} :
    ∀ σ, PassesAt (L2.CX P w) (cxOf (L2.CX P w) P w K mg base N qual sc f cdv A outer s H E) σ (fun c d H' => (fun c d (_ : L2.St) H' => E c d H') c d σ H') := fun σ =>
  passAt (X := cxOf (L2.CX P w) P w K mg base N qual sc f cdv A outer s H E) (W := fun c d _ H' => E c d H') (takes_of rfl rfl rfl rfl) σ
/-- no exception: within a comprehension -/
theorem hx_no {X : Cx} : ∀ σ, PassesAt (L2.CX X.prog X.w) X σ (fun c d H' => WF c d σ H') := fun σ pins H s e s' _ h => by
  obtain ⟨_, _, _, _, _, _, _, _, _, _, _, _, z⟩ := h
  exact z.elim
end
end MP
end
section
set_option maxRecDepth 100000
set_option maxHeartbeats 1000000
namespace MP
open PySem PySem.Spec PyProof.Rows L2

/-! ### a module's whole number -/
structure ConstI (mg : Str → Option Value) (x : Str) (i : Int) : Prop where
  ex : ∃ t, mg x = some (.int i t)
section
variable {X : Cx} {Γ : Gam} {W : WX} {e a b c o : Expr} {da db dc : De} {pos : Pos} {es rest : List Expr} {das : List De}
theorem sim_constI {x : Str} {i : Int} (h : ConstI X.mg x i) (hg : Gl X x) (hd : (x == ("__debug__" : Str)) = false) : Sim X Γ W (.Name x pos) (dC (.int i)) := by
  obtain ⟨t, h⟩ := h.ex
  exact sim_glob hg h (v := .int i) ⟨t, rfl⟩ (fun m L H => .int i) hd

/-! ### isinstance(x, T), T a built-in type -/
def isiD (T : String) : D → Sto → Option Bool
  | .non, _ => kitB "NoneType" T
  | .bl _, _ => kitB "bool" T
  | .int _, _ => kitB "int" T
  | .str _, _ => kitB "str" T
  | .tup _, _ => kitB "tuple" T
  | .obj n, st => match st[n]? with
    | some (.lst _ _) => kitB "list" T
    | _ => none
def fIsi (T : String) (d : D) (st : Sto) : Rt := match isiD T d st with
  | some b => okD (.bl b) st
  | none => none
theorem mono_fIsi {T : String} : MonoF (fIsi T) := by
  intro d st r st' h
  unfold fIsi at h
  split at h
  · exact mono_ok h
  · cases h
theorem tyX_tup {K : PySem.W.Frag} {H : Hp} {a : Addr} {xs : List V} (h : SqT K H a xs) : TyX K H (.ref a) (.type "tuple") := by
  rcases h with (h | ⟨o, h⟩) | ⟨o, its, n, h1, h2, _⟩
  · exact .base (.tup h)
  · exact .fTuple h
  · exact .kTuple h1 h2
theorem tyX_lst {K : PySem.W.Frag} {H : Hp} {a : Addr} {xs : List V} (h : SqL K H a xs) : TyX K H (.ref a) (.type "list") := by
  rcases h with (h | ⟨o, h⟩) | ⟨o, its, n, h1, h2, _⟩
  · exact .base (.lst h)
  · exact .base (.frz h)
  · exact .kList h1 h2
theorem Rv.ty {m : Nat → Addr} {st : Sto} {H : Hp} {T : String} (s : StR Γ m st H) : ∀ {d : D} {v : V} {r : Bool}, Rv Γ.K m st.length H d v → isiD T d st = some r → ∃ t, TyX Γ.K H v t ∧ PySem.W.kitOne Γ.K t (.type T) = some r
  | .non, _, r, .non, h => ⟨_, .base .non, kit_ty h⟩
  | .bl _, _, r, .bl _, h => ⟨_, .base (.bl _), kit_ty h⟩
  | .int _, _, r, .int _, h => ⟨_, .base (.int _), kit_ty h⟩
  | .str _, _, r, .str _, h => ⟨_, .base (.str _), kit_ty h⟩
  | .tup _, _, r, .tup a _, h => ⟨_, tyX_tup a, kit_ty h⟩
  | .obj n, _, r, .obj _, h => by
    dsimp only [isiD] at h
    split at h
    · rename_i e
      obtain ⟨vs, a, _⟩ := s.list e
      exact ⟨_, tyX_lst a, kit_ty h⟩
    · cases h
theorem sim_isi {T : String} {x : Str} {p p2 : Pos} (hK : X.K = Γ.K) (hg : Gl X "isinstance") (hm : X.mg "isinstance" = none) (hg2 : Gl X x) (hm2 : X.mg x = none) (hv : bootBuiltins x = some (.type T)) (hn2 : x ≠ "__name__") (hd2 : (x == ("__debug__" : Str)) = false) (ha : Sim X Γ W a da)
    (he : starEach [a, .Name x p2] X.env = (false, eval a X.env) :: starEach [.Name x p2] X.env) (he2 : starEach [.Name x p2] X.env = (false, eval (.Name x p2) X.env) :: starEach [] X.env) (hpl : (backTo pos (starEach [.Name x p2] X.env)).any (·.1) = false) :
    Sim X Γ W (.Call (.Name "isinstance" p) [a, .Name x p2] [] pos) (dUn (fIsi T) da) := by
  refine ⟨mono_un ha.mono mono_fIsi, (pe_callB call_isi hg hm boot_isinstance (pa_cons ha.pe (pa_cons (pe_bltn (v := .ty T) hg2 hm2 hv rfl hn2 hd2) pa_nil he2) he) (by decide) (by decide) he hpl).imp fun σ H Q ⟨m, ls, st, s, l, h⟩ => ?_⟩
  obtain ⟨m0, ls0, st0, s0, l0, q0⟩ := tD_bind ha.mono s l mono_fIsi h
  refine ⟨m0, ls0, st0, s0, l0, q0.imp fun v H1 ⟨m1, d, st1, s1, l1, r1, q1, _⟩ => ?_⟩
  unfold fIsi at q1
  split at q1
  · rename_i k ek
    obtain ⟨t, h1, h2⟩ := r1.ty s1 ek
    exact ⟨v, .ty T, t, _, k, rfl, .ty T, by rw [hK]; exact h1, by rw [hK]; exact h2, q1.ok s1 (.bl k)⟩
  · exact q1.elim
end
end MP
end
section
set_option maxRecDepth 100000
set_option maxHeartbeats 1000000
namespace MP
open PySem PySem.Spec PyProof.Rows L2 PySem.W

theorem rowLt_lex : ∀ xs ys : List Int, rowLt (xs.map .int) (ys.map .int) = HT.lexLt xs ys
  | [], [] => PyProof.Rows.lex_irrefl _
  | [], y :: ys => by
    show rowLt [] (PyData.int y :: ys.map .int) = _
    unfold rowLt
    rw [toks_all_cons]
    rfl
  | x :: xs, [] => by
    show rowLt (PyData.int x :: xs.map .int) [] = _
    unfold rowLt
    rw [toks_all_cons]
    rfl
  | x :: xs, y :: ys => by
    show rowLt (PyData.int x :: xs.map .int) (PyData.int y :: ys.map .int) = _
    unfold rowLt
    rw [dataLt_cons (by simp [alike]), HT.lexLt_cons, ← rowLt_lex xs ys, dataLt_int]
    simp only [PyData.eqv, beq_iff_eq]
    rfl
theorem dataLt_lex (xs ys : List Int) : dataLt (.tuple (xs.map .int)) (.tuple (ys.map .int)) = HT.lexLt xs ys := by
  rw [dataLt_tuple]
  exact rowLt_lex xs ys

section
variable {prog : Program} {w : World} {A : Around} {E : Value → Shared → Prop} {s : Shared}
theorem call_max_twoH {a b : Value} {Q : Value → Shared → Prop}
    (h : wpAny (model prog w) A.in1 (pyIter (.ref s.heap.objs.size)) (fun it s₂ => ∃ I fp wr G n P St H bt, it = .ref I ∧ WalksS prog w A.in1 I fp wr G n P St ∧ St 0 s₂ ∧ (∀ b ∈ fp, b < s₂.heap.objs.size) ∧ 0 < n ∧
      (∀ b o, H.get? b = some o → b ∉ wr) ∧ (∀ b o, H.get? b = some o → s₂.heap.get? b = some o) ∧ CmpIn prog w A.in1 .Gt H P bt ∧ ∀ v s', P (argBest bt (n - 1)) v → Moved wr G s₂ s' → Q v s') E
      { s with heap := s.heap.push { cls := .type "tuple", data := .seq #[a, b] } }) :
    wpAny (model prog w) A (call (.builtin "max") [a, b]) Q E s := by
  have hname : (toString "max" ++ toString ".loop" : String) = "max.loop" := by decide
  refine call_function_tree F.kind_max F.plain_max F.entry_max (F.args_max2 _ _) ?_
  show wpAny _ A.in1 (Builtin.Builtins.bindParams "max" ["key", "default"] 0 ⟨[], []⟩ >>= _) _ _ s
  refine wpAny_bind (wpAny_of_eq (show Builtin.Builtins.bindParams "max" ["key", "default"] 0 ⟨[], []⟩ = pure [none, none] from rfl) ?_)
  show wpAny _ A.in1 (newTuple [a, b] >>= _) _ _ s
  refine wpAny_bind (wpAny_newObj_type ?_)
  refine wpAny_bind (wpAny_mono h (fun it s₂ h₂ => ?_) fun _ _ e => e)
  obtain ⟨I, fp, wr, G, n, P, St, H, bt, rfl, W, hst, hfp, hn, hw, hkeep, hcmp, hQ⟩ := h₂
  refine wpAny_bind (wpAny_newObj_type ?_)
  have hSf : s₂.heap.objs.size ∉ fp := fun hm => Nat.lt_irrefl _ (hfp _ hm)
  rw [hname]
  refine wpAny_pure ⟨plainId_quiet F.plain_max_loop _, codeAny_max_loop_firstH W H hw bt hcmp s₂.heap.objs.size hSf (fresh_in hkeep) _ hn (fun b o e => Heap.get?_push_of_some _ (hkeep b o e)) (W.frame 0 s₂ _ s₂.toks hst (Nat.le_refl _) fun b _ o e => Heap.get?_push_of_some _ e) (Heap.get?_push_size _ rfl) fun v s' hP hm => ?_⟩
  exact hQ v s' hP (Moved.drop_new (tk := s₂.toks) hm (Nat.le_refl _))
theorem call_min_twoH {a b : Value} {Q : Value → Shared → Prop}
    (h : wpAny (model prog w) A.in1 (pyIter (.ref s.heap.objs.size)) (fun it s₂ => ∃ I fp wr G n P St H bt, it = .ref I ∧ WalksS prog w A.in1 I fp wr G n P St ∧ St 0 s₂ ∧ (∀ b ∈ fp, b < s₂.heap.objs.size) ∧ 0 < n ∧
      (∀ b o, H.get? b = some o → b ∉ wr) ∧ (∀ b o, H.get? b = some o → s₂.heap.get? b = some o) ∧ CmpIn prog w A.in1 .Lt H P bt ∧ ∀ v s', P (argBest bt (n - 1)) v → Moved wr G s₂ s' → Q v s') E
      { s with heap := s.heap.push { cls := .type "tuple", data := .seq #[a, b] } }) :
    wpAny (model prog w) A (call (.builtin "min") [a, b]) Q E s := by
  have hname : (toString "min" ++ toString ".loop" : String) = "min.loop" := by decide
  refine call_function_tree F.kind_min F.plain_min F.entry_min (F.args_min2 _ _) ?_
  show wpAny _ A.in1 (Builtin.Builtins.bindParams "min" ["key", "default"] 0 ⟨[], []⟩ >>= _) _ _ s
  refine wpAny_bind (wpAny_of_eq (show Builtin.Builtins.bindParams "min" ["key", "default"] 0 ⟨[], []⟩ = pure [none, none] from rfl) ?_)
  show wpAny _ A.in1 (newTuple [a, b] >>= _) _ _ s
  refine wpAny_bind (wpAny_newObj_type ?_)
  refine wpAny_bind (wpAny_mono h (fun it s₂ h₂ => ?_) fun _ _ e => e)
  obtain ⟨I, fp, wr, G, n, P, St, H, bt, rfl, W, hst, hfp, hn, hw, hkeep, hcmp, hQ⟩ := h₂
  refine wpAny_bind (wpAny_newObj_type ?_)
  have hSf : s₂.heap.objs.size ∉ fp := fun hm => Nat.lt_irrefl _ (hfp _ hm)
  rw [hname]
  refine wpAny_pure ⟨plainId_quiet F.plain_min_loop _, codeAny_min_loop_firstH W H hw bt hcmp s₂.heap.objs.size hSf (fresh_in hkeep) _ hn (fun b o e => Heap.get?_push_of_some _ (hkeep b o e)) (W.frame 0 s₂ _ s₂.toks hst (Nat.le_refl _) fun b _ o e => Heap.get?_push_of_some _ e) (Heap.get?_push_size _ rfl) fun v s' hP hm => ?_⟩
  exact hQ v s' hP (Moved.drop_new (tk := s₂.toks) hm (Nat.le_refl _))
theorem old2 {s : Shared} {o1 o2 : Obj} {s' : Shared} (m : Moved [(s.heap.push o1).objs.size] (fun a b => b = a) ({ { s with heap := s.heap.push o1 } with heap := (s.heap.push o1).push o2 } : Shared) s') : ∃ h' tk, s' = { s with heap := h', toks := tk } ∧ ∀ b o, s.heap.get? b = some o → h'.get? b = some o := by
  refine ⟨s'.heap, s'.toks, ?_, fun b ob eb => m.heap b ob (fun hb => ?_) (Heap.get?_push_of_some _ (Heap.get?_push_of_some _ eb))⟩
  · obtain ⟨hp, g, d, tk, os⟩ := s'
    have h1 : g = s.gens := m.gens
    have h2 : d = s.drawn := m.drawn
    have h3 : os = s.os := m.os
    subst h1
    subst h2
    subst h3
    rfl
  · have h2 : b < s.heap.objs.size := Heap.lt_size eb
    rw [List.mem_singleton.mp hb, Heap.size_push] at h2
    exact absurd h2 (Nat.not_lt.mpr (Nat.le_succ _))
/-- two data that are alike -/
def alike2 (p q : PyData) : Bool := alike p p && (alike p q && (alike q p && alike q q))
theorem alikeAll2 {p q : PyData} (h : alike2 p q = true) (hp : p ≠ .none) (hq : q ≠ .none) : AlikeAll [p, q] := by
  unfold alike2 at h
  simp only [Bool.and_eq_true] at h
  obtain ⟨h1, h2, h3, h4⟩ := h
  refine ⟨fun x hx y hy => ?_, fun x hx => ?_⟩
  · simp only [List.mem_cons, List.not_mem_nil, or_false] at hx hy
    rcases hx with rfl | rfl <;> rcases hy with rfl | rfl <;> assumption
  · simp only [List.mem_cons, List.not_mem_nil, or_false] at hx
    rcases hx with rfl | rfl <;> assumption
theorem two_best {bt : Nat → Nat → Bool} {a b v : Value} (h : #[a, b][argBest bt (#[a, b].size - 1)]? = some v) : v = if bt 1 0 then b else a := by
  have e : argBest bt (#[a, b].size - 1) = if bt 1 0 then 1 else 0 := rfl
  rw [e] at h
  cases hb : bt 1 0 with
  | true => rw [hb] at h; simpa using h.symm
  | false => rw [hb] at h; simpa using h.symm
theorem depth2 {p q : PyData} {n : Nat} (h1 : p.depth ≤ n) (h2 : q.depth ≤ n) : PyData.depthAll [p, q] ≤ n := by
  simp only [PyData.depthAll]
  exact Nat.max_le.mpr ⟨h1, Nat.max_le.mpr ⟨h2, Nat.zero_le _⟩⟩
theorem max_two_data {a b : Value} {p q : PyData} {as bs : List Addr} {n : Nat} {Q : Value → Shared → Prop} (hh : A.handled = none) (ra : Reads s.heap a p as) (rb : Reads s.heap b q bs) (ha : alike2 p q = true) (hp : p ≠ .none) (hq : q ≠ .none) (d1 : p.depth ≤ n) (d2 : q.depth ≤ n) (hu : A.units + 1 + n < cLine)
    (h : ∀ h' tk, (∀ b o, s.heap.get? b = some o → h'.get? b = some o) → Q (if dataLt p q then b else a) { s with heap := h', toks := tk }) :
    wpAny (model prog w) A (call (.builtin "max") [a, b]) Q E s := by
  have hT : (s.heap.push { cls := .type "tuple", data := .seq #[a, b] }).IsTuple s.heap.objs.size #[a, b] := ⟨_, Heap.get?_push_size _ rfl, rfl, 0, rfl⟩
  have hd := depth2 d1 d2
  refine call_max_twoH (iter_tupleW (A := A.in1) hh hT fun s₂ e W st hfp hw hk => ?_)
  have hr : ReadsAll (s.heap.push { cls := .type "tuple", data := .seq #[a, b] }) #[a, b].toList [p, q] (as ++ (bs ++ [])) := .cons (reads_keeps (fun b o e => Heap.get?_push_of_some _ e) ra) (.cons (reads_keeps (fun b o e => Heap.get?_push_of_some _ e) rb) .nil)
  have hc : CmpIn prog w A.in1 .Gt (s.heap.push { cls := .type "tuple", data := .seq #[a, b] }) (fun i v => #[a, b][i]? = some v) (fun i j => dataLt ([p, q].getD j .none) ([p, q].getD i .none)) :=
    cmpIn_gt (s := { s with heap := s.heap.push { cls := .type "tuple", data := .seq #[a, b] } }) hr (alikeAll2 ha hp hq) (by show A.units + 1 + _ < _; omega)
  refine ⟨_, _, _, _, _, _, _, _, _, rfl, W, st, hfp, (Nat.zero_lt_succ 1), hw, hk, hc, fun v s' hP m => ?_⟩
  subst e
  obtain ⟨h', tk, rfl, hk'⟩ := old2 m
  rw [two_best hP]
  exact h h' tk hk'
theorem min_two_data {a b : Value} {p q : PyData} {as bs : List Addr} {n : Nat} {Q : Value → Shared → Prop} (hh : A.handled = none) (ra : Reads s.heap a p as) (rb : Reads s.heap b q bs) (ha : alike2 p q = true) (hp : p ≠ .none) (hq : q ≠ .none) (d1 : p.depth ≤ n) (d2 : q.depth ≤ n) (hu : A.units + 1 + n < cLine)
    (h : ∀ h' tk, (∀ b o, s.heap.get? b = some o → h'.get? b = some o) → Q (if dataLt q p then b else a) { s with heap := h', toks := tk }) :
    wpAny (model prog w) A (call (.builtin "min") [a, b]) Q E s := by
  have hT : (s.heap.push { cls := .type "tuple", data := .seq #[a, b] }).IsTuple s.heap.objs.size #[a, b] := ⟨_, Heap.get?_push_size _ rfl, rfl, 0, rfl⟩
  have hd := depth2 d1 d2
  refine call_min_twoH (iter_tupleW (A := A.in1) hh hT fun s₂ e W st hfp hw hk => ?_)
  have hr : ReadsAll (s.heap.push { cls := .type "tuple", data := .seq #[a, b] }) #[a, b].toList [p, q] (as ++ (bs ++ [])) := .cons (reads_keeps (fun b o e => Heap.get?_push_of_some _ e) ra) (.cons (reads_keeps (fun b o e => Heap.get?_push_of_some _ e) rb) .nil)
  have hc : CmpIn prog w A.in1 .Lt (s.heap.push { cls := .type "tuple", data := .seq #[a, b] }) (fun i v => #[a, b][i]? = some v) (fun i j => dataLt ([p, q].getD i .none) ([p, q].getD j .none)) :=
    cmpIn_lt (s := { s with heap := s.heap.push { cls := .type "tuple", data := .seq #[a, b] } }) hr (alikeAll2 ha hp hq) (by show A.units + 1 + _ < _; omega)
  refine ⟨_, _, _, _, _, _, _, _, _, rfl, W, st, hfp, (Nat.zero_lt_succ 1), hw, hk, hc, fun v s' hP m => ?_⟩
  subst e
  obtain ⟨h', tk, rfl, hk'⟩ := old2 m
  rw [two_best hP]
  exact h h' tk hk'
end

/-! ### max(a, b), min(a, b): numbers, tuples of numbers -/
def fMax2D : List D → Sto → Rt
  | [.int i, .int j], st => okD (if i < j then .int j else .int i) st
  | [.tup a, .tup b], st => match intsOf a, intsOf b with
    | some x, some y => okD (if HT.lexLt x y then .tup b else .tup a) st
    | _, _ => none
  | _, _ => none
def fMin2D : List D → Sto → Rt
  | [.int i, .int j], st => okD (if j < i then .int j else .int i) st
  | [.tup a, .tup b], st => match intsOf a, intsOf b with
    | some x, some y => okD (if HT.lexLt y x then .tup b else .tup a) st
    | _, _ => none
  | _, _ => none
theorem mono_fMax2D : MonoFA fMax2D := by
  intro d st r st' h
  unfold fMax2D at h
  repeat' (split at h)
  all_goals first | exact mono_ok h | cases h
theorem mono_fMin2D : MonoFA fMin2D := by
  intro d st r st' h
  unfold fMin2D at h
  repeat' (split at h)
  all_goals first | exact mono_ok h | cases h
/-- of two data the second, if k says so -/
def rBest (K : PySem.W.Frag) (k : PyData → PyData → Bool) : List V → Hp → VK → Prop := fun xs H Q => ∃ x y p q, xs = [x, y] ∧ Dp K H x p ∧ Dp K H y q ∧ alike2 p q = true ∧ p ≠ .none ∧ q ≠ .none ∧ p.depth ≤ 8 ∧ q.depth ≤ 8 ∧ Q (cond (k p q) y x) H
section
variable {X : Cx} {Γ : Gam}
theorem cr_max2D (hc : X.calm = true) (hu : X.A.units + 64 < cLine) : CallR X (.builtin "max") (rBest X.K fun p q => dataLt p q) := by
  intro pins s σ H xs us Q I r h
  obtain ⟨x, y, p, q, rfl, hx, hy, ha, hp, hq, d1, d2, h⟩ := h
  obtain ⟨u, w', rfl, r1, r2⟩ := vals2 r
  obtain ⟨as, k1⟩ := hx.reads I _ _ _ r1
  obtain ⟨bs, k2⟩ := hy.reads I _ _ _ r2
  refine max_two_data (I.ok.hd hc) k1 k2 ha hp hq d1 d2 (by omega) fun h' tk k => ⟨_, H, I.kept k, ?_, h⟩
  dsimp only
  cases dataLt p q with
  | true => exact r2
  | false => exact r1
theorem cr_min2D (hc : X.calm = true) (hu : X.A.units + 64 < cLine) : CallR X (.builtin "min") (rBest X.K fun p q => dataLt q p) := by
  intro pins s σ H xs us Q I r h
  obtain ⟨x, y, p, q, rfl, hx, hy, ha, hp, hq, d1, d2, h⟩ := h
  obtain ⟨u, w', rfl, r1, r2⟩ := vals2 r
  obtain ⟨as, k1⟩ := hx.reads I _ _ _ r1
  obtain ⟨bs, k2⟩ := hy.reads I _ _ _ r2
  refine min_two_data (I.ok.hd hc) k1 k2 ha hp hq d1 d2 (by omega) fun h' tk k => ⟨_, H, I.kept k, ?_, h⟩
  dsimp only
  cases dataLt q p with
  | true => exact r2
  | false => exact r1
theorem dpAll_ints {K : PySem.W.Frag} {H : Hp} : ∀ ns : List Int, DpAll K H (ns.map V.int) (ns.map PyData.int)
  | [] => .nil
  | n :: ns => .cons (.int n) (dpAll_ints ns)
theorem alike2_ints (xs ys : List Int) : alike2 (.tuple (xs.map .int)) (.tuple (ys.map .int)) = true := by
  unfold alike2
  simp only [alike, alike_ints]
  decide
theorem alike2_int (x y : Int) : alike2 (.int x) (.int y) = true := by
  simp [alike2, alike]
theorem depth_int (x : Int) : (PyData.int x).depth ≤ 8 := by
  simp only [PyData.depth]
  decide
theorem depth_tupInts (xs : List Int) : (PyData.tuple (xs.map .int)).depth ≤ 8 := by
  simp only [PyData.depth, depth_ints]
  decide
theorem cs_max2D : CallSim Γ (rBest Γ.K fun p q => dataLt p q) fMax2D := fun
  | m, st, H, _, [.int i, .int j], Q, E, s, .cons (.int _) (.cons (.int _) .nil), h => by
    refine ⟨_, _, .int i, .int j, rfl, .int i, .int j, alike2_int _ _, (fun z => by cases z), (fun z => by cases z), depth_int _, depth_int _, ?_⟩
    dsimp only [fMax2D] at h
    dsimp only
    rw [dataLt_int]
    by_cases hj : i < j
    · rw [if_pos hj] at h
      rw [decide_eq_true hj]
      exact h.ok s (.int _)
    · rw [if_neg hj] at h
      rw [decide_eq_false hj]
      exact h.ok s (.int _)
  | m, st, H, _, [.tup a, .tup b], Q, E, s, .cons (.tup (a := p) (vs := xs) h1 r1) (.cons (.tup (a := q) (vs := ys) h2 r2) .nil), h => by
    dsimp only [fMax2D] at h
    split at h
    · rename_i x y e1 e2
      have k1 := h1
      have k2 := h2
      rw [intsOf_vals r1 e1] at k1
      rw [intsOf_vals r2 e2] at k2
      refine ⟨_, _, .tuple (x.map .int), .tuple (y.map .int), rfl, .tup k1 (dpAll_ints _), .tup k2 (dpAll_ints _), alike2_ints _ _, (fun z => by cases z), (fun z => by cases z), depth_tupInts _, depth_tupInts _, ?_⟩
      dsimp only
      rw [dataLt_lex]
      by_cases hj : HT.lexLt x y = true
      · rw [if_pos hj] at h
        rw [hj]
        exact h.ok s (.tup h2 r2)
      · rw [if_neg hj] at h
        rw [Bool.not_eq_true] at hj
        rw [hj]
        exact h.ok s (.tup h1 r1)
    · exact h.elim
theorem cs_min2D : CallSim Γ (rBest Γ.K fun p q => dataLt q p) fMin2D := fun
  | m, st, H, _, [.int i, .int j], Q, E, s, .cons (.int _) (.cons (.int _) .nil), h => by
    refine ⟨_, _, .int i, .int j, rfl, .int i, .int j, alike2_int _ _, (fun z => by cases z), (fun z => by cases z), depth_int _, depth_int _, ?_⟩
    dsimp only [fMin2D] at h
    dsimp only
    rw [dataLt_int]
    by_cases hj : j < i
    · rw [if_pos hj] at h
      rw [decide_eq_true hj]
      exact h.ok s (.int _)
    · rw [if_neg hj] at h
      rw [decide_eq_false hj]
      exact h.ok s (.int _)
  | m, st, H, _, [.tup a, .tup b], Q, E, s, .cons (.tup (a := p) (vs := xs) h1 r1) (.cons (.tup (a := q) (vs := ys) h2 r2) .nil), h => by
    dsimp only [fMin2D] at h
    split at h
    · rename_i x y e1 e2
      have k1 := h1
      have k2 := h2
      rw [intsOf_vals r1 e1] at k1
      rw [intsOf_vals r2 e2] at k2
      refine ⟨_, _, .tuple (x.map .int), .tuple (y.map .int), rfl, .tup k1 (dpAll_ints _), .tup k2 (dpAll_ints _), alike2_ints _ _, (fun z => by cases z), (fun z => by cases z), depth_tupInts _, depth_tupInts _, ?_⟩
      dsimp only
      rw [dataLt_lex]
      by_cases hj : HT.lexLt y x = true
      · rw [if_pos hj] at h
        rw [hj]
        exact h.ok s (.tup h2 r2)
      · rw [if_neg hj] at h
        rw [Bool.not_eq_true] at hj
        rw [hj]
        exact h.ok s (.tup h1 r1)
    · exact h.elim
end
end MP
end
section
set_option maxRecDepth 100000
set_option maxHeartbeats 1000000
namespace MP
open PySem PySem.Spec PyProof.Rows L2
open Sem (wp)
/-! ### enumerate of a tuple -/
set_option maxHeartbeats 1000000 in
theorem meets_enumerate_newB1 {v : Value} {o : Obj} {H : Heap → Prop} (B : Begins v o H) :
    Meets (Builtin.«enumerate.__new__» ⟨[.type "enumerate", v], []⟩) (fun _ R s => H s.heap ∧
      R (.ok (.ret (.ref (s.heap.push o).objs.size))) { s with heap := (s.heap.push o).push { cls := .type "enumerate", data := .fields #[.none, .bool false, .ref s.heap.objs.size, rawInt 0, .none, .none] } }) :=
  .of_wp fun prog w A R s h => by
    obtain ⟨hp, g, d, tk, os⟩ := s; obtain ⟨h1, h⟩ := h
    have hsub := sub_enumerate
    have q1 : ∀ {A' : Around} {E : Value → Shared → Prop} {Q : Value → Shared → Prop}, Q (.ref hp.objs.size) ⟨hp.push o, g, d, tk, os⟩ → wpAny (model prog w) A' (pyIter v) Q E ⟨hp, g, d, tk, os⟩ :=
      fun q => B.iter prog w _ _ ⟨hp, g, d, tk, os⟩ _ h1 q
    wp_walk using q1
    refine wpAny_stack_any fun st => wpAny_pure ?_
    split
    · rename_i c _ _ _ _ _
      cases (c == Value.type "enumerate")
      · wp_walk using q1
        exact ⟨_, rfl, h⟩
      · wp_walk using q1
        exact ⟨_, rfl, h⟩
    · wp_walk using q1
      exact ⟨_, rfl, h⟩
section
variable {prog : Program} {w : World} {A : Around} {E : Value → Shared → Prop} {s : Shared}
theorem enum_begins1 {v : Value} {o : Obj} {H : Heap → Prop} {Q : Value → Shared → Prop} (B : Begins v o H) (h1 : H s.heap)
    (h : ∀ h', IsEnum h' (s.heap.objs.size + 1) s.heap.objs.size 0 .none → h'.get? s.heap.objs.size = some o → h'.objs.size = s.heap.objs.size + 2 →
      (∀ b o, s.heap.get? b = some o → h'.get? b = some o) → Q (.ref (s.heap.objs.size + 1)) { s with heap := h' }) :
    wpAny (model prog w) A (call (.type "enumerate") [v]) Q E s := by
  refine callType_new F.called_enumerate (by decide) (F.typeCall_enumerate_1 _) (F.newCall_enumerate_1 _) (fun obj => F.args_object_init_2 obj _) F.entry_enumerate_new
    (meets_enumerate_newB1 B) ⟨h1, ?_⟩
  have hz : (s.heap.push o).objs.size = s.heap.objs.size + 1 := Heap.size_push ..
  show _ ∧ _
  rw [hz]
  have he : IsEnum ((s.heap.push o).push { cls := .type "enumerate", data := .fields #[.none, .bool false, .ref s.heap.objs.size, rawInt 0, .none, .none] }) (s.heap.objs.size + 1) s.heap.objs.size 0 .none := by
    have := Heap.get?_push_size (s.heap.push o) (o := { cls := .type "enumerate", data := .fields #[.none, .bool false, .ref s.heap.objs.size, rawInt 0, .none, .none] }) rfl
    rw [hz] at this; exact this
  refine ⟨⟨_, he, rfl⟩, h _ he (Heap.get?_push_of_some _ (Heap.get?_push_size _ B.free)) (by rw [Heap.size_push, hz]) fun b o x => Heap.get?_push_of_some _ (Heap.get?_push_of_some _ x)⟩
end
/-- the tuple at a, each item in a new pair -/
def Itte (K : PySem.W.Frag) (a : Addr) : It :=
  ⟨fun i H => ∃ (xs : List V) (x : V), SqT K H a xs ∧ xs[i]? = some x, fun i H v H' => ∃ T x, v = .ref T ∧ H T = none ∧ H' = upd H T (.tup [.int (i : Nat), x]) ∧ ∀ xs, SqT K H a xs → xs[i]? = some x, fun i H => ∃ xs : List V, SqT K H a xs ∧ xs.length = i⟩
theorem turn_enumT {P : Program} {w : World} {K : PySem.W.Frag} {elts : List Expr} {kk : Nat} {tpos : Pos} (a e it : Addr) :
    Turn P w K (.Tuple elts kk tpos) (Itte K a) [e, it] e (fun i h => (∃ old, IsEnum h e it ((i : Nat) : Int) old) ∧ h.IsTupleIter it a i ∧ e ≠ it) where
  mem := by simp
  obj := fun i h st b hb => by
    obtain ⟨⟨old, he⟩, ⟨o, ho, hc, hd⟩, _⟩ := st
    have e' : b = e ∨ b = it := by simpa using hb
    rcases e' with z | z
    · rw [z]; exact ⟨_, he, fun v q => nomatch q⟩
    · rw [z]; exact ⟨o, ho, fun v q => by rw [hd] at q; cases q⟩
  keep := fun i h h' st k => let ⟨⟨old, he⟩, hi, hne⟩ := st; ⟨⟨old, k e (by simp) _ he⟩, hi.at fun o q => k it (by simp) o q, hne⟩
  item := by
    intro X hP hw hK hc i pins s σ H E I hf st hg
    subst hP hw hK
    obtain ⟨⟨old, he⟩, hit, hne⟩ := st
    obtain ⟨xs, x, hq, hx⟩ := hg
    obtain ⟨its, rv, p, hz⟩ := I.tuple hq
    obtain ⟨u, hu, ru⟩ := rv.get hx
    have p : s.heap.IsTuple a its.toArray := p
    have hel : e < s.heap.objs.size := Heap.lt_size he
    have hil : it < s.heap.objs.size := by obtain ⟨_, q, _⟩ := hit; exact Heap.lt_size q
    have hia : a ≠ it := fun z => by
      obtain ⟨o, q1, q2, _⟩ := hit
      obtain ⟨o', q1', q2', _⟩ := p
      rw [z, q1] at q1'
      cases q1'
      rw [q2] at q2'
      exact absurd q2' (by decide)
    have hea : e ≠ a := fun z => by
      obtain ⟨o', q1', q2', _⟩ := p
      rw [← z, he] at q1'
      cases q1'
      exact absurd (Value.type.inj q2') (by decide)
    have hlt : i < its.toArray.size := by
      by_cases hl : i < its.toArray.size
      · exact hl
      · rw [List.getElem?_eq_none (by simpa using hl)] at hu
        cases hu
    refine wpAny_pyNext_enum_itemC (Draws.tuple (A := X.A.in1) (I.ok.hd hc) it a hia its.toArray) he ⟨hit, p⟩ hlt hne (by simp only [List.mem_cons, List.not_mem_nil, or_false, not_or]; exact ⟨hne, hea⟩) fun x' h' tk hPx ho hst' hT hsz hk => ?_
    have hxu : x' = u := by
      have z : its.toArray[i]? = some x' := hPx
      rw [show its.toArray[i]? = some u by simpa using hu] at z
      exact (Option.some.inj z).symm
    subst hxu
    refine ⟨_, rfl, wpAny_letOwnedTupleGo_enum (s := { s with heap := h', toks := tk + 1 }) ho fun h'' he' sb => ?_⟩
    have hT2 : h''.get? s.heap.objs.size = some { cls := .type "tuple", data := .seq #[.int i tk, x'] } := (sb.2 _ (Nat.ne_of_gt hel)).trans hT
    have new : ObjOk X.prog X.w (upd H s.heap.objs.size (.tup [.int (i : Nat), x])) h'' s.heap.objs.size (.tup [.int (i : Nat), x]) :=
      ⟨by show 2 ≤ sizeLine; decide, [.int i tk, x'], .cons ⟨_, rfl⟩ (.cons ru .nil), ⟨_, hT2, rfl, _, rfl⟩⟩
    have I1 : Inv X pins σ (upd H s.heap.objs.size (.tup [.int (i : Nat), x])) { s with heap := h'', toks := tk + 1 } :=
      I.turnedNew (ch := [e, it]) (fun b ob hb q => (sb.2 b (fun z => hb (by simp [z]))).trans (hk b ob (fun z => hb (by simp [z])) (fun z => hb (by simp [z])) q)) hf (Nat.le_refl _) new
    refine ⟨.ref s.heap.objs.size, _, I1, rfl, ⟨_, x, rfl, I.hok.fresh (Nat.le_refl _), rfl, fun ys hy => by rw [I.tuple_inj hy hq]; exact hx⟩, ⟨⟨x', ?_⟩, hst'.1.at fun o q => (sb.2 it (Ne.symm hne)).trans q, hne⟩, fun b hb => ?_⟩
    · have e1 : ((i + 1 : Nat) : Int) = (i : Int) + 1 := by omega
      rw [e1]; exact he'
    · have hb' : b < s.heap.objs.size := by
        have e' : b = e ∨ b = it := by simpa using hb
        rcases e' with z | z
        · rw [z]; exact hel
        · rw [z]; exact hil
      rw [upd_ne (Nat.ne_of_lt hb')]
      exact (hf b hb).1
  done := by
    intro X hP hw hK hc i pins s σ H E I hf st hg
    subst hP hw hK
    obtain ⟨⟨old, he⟩, hit, hne⟩ := st
    obtain ⟨xs, hq, hx⟩ := hg
    obtain ⟨its, rv, p, hz⟩ := I.tuple hq
    have p : s.heap.IsTuple a its.toArray := p
    obtain ⟨f0, f1, f2, f3, f4, f5⟩ := hf it (by simp)
    have hl := rv.length
    have hia : a ≠ it := fun z => by
      obtain ⟨o, q1, q2, _⟩ := hit
      obtain ⟨o', q1', q2', _⟩ := p
      rw [z, q1] at q1'
      cases q1'
      rw [q2] at q2'
      exact absurd q2' (by decide)
    have hin : i = its.toArray.size := by rw [← hx, hl, List.size_toArray]
    subst hin
    exact wpAny_pyNext_enum_endD (Draws.tuple (A := X.A.in1) (I.ok.hd hc) it a hia its.toArray) he ⟨hit, p⟩ fun h' eb => ⟨rfl, I.turned (t' := s.toks) (fun b o hb q => eb b o hb q) f0 f1 f3 f4 f5⟩
  self := fun A i s Q E st h => let ⟨⟨_, he⟩, _⟩ := st; wpAny_pyIter_enum he h

section
variable {X : Cx} {Γ : Gam} {W : WX} {e a b c o tg : Expr} {da db dc : De} {pos p2 : Pos} {es rest : List Expr} {das : List De} {t : Tg} {ts : List Tg}
theorem pi_enumD {ta : TA} {p tpos : Pos} {elts : List Expr} {kk : Nat} (hg : Gl X "enumerate") (hm : X.mg "enumerate" = none) (ha : PA X [a] ta) (hs : starEach [a] X.env = [(false, eval a X.env)]) :
    PI X (.Tuple elts kk tpos) (.Call (.Name "enumerate" p) [a] [] pos) (fun σ H R => ta σ H fun vs H1 => ∃ q, vs = [.ref q] ∧ (((∃ xs, SqL X.K H1 q xs) ∧ R (Ite X.K q) H1) ∨ ((∃ xs, SqT X.K H1 q xs) ∧ R (Itte X.K q) H1))) := by
  refine ⟨fun pins s σ H R I h => ?_⟩
  refine Call_ (ld_blt I hg hm boot_enumerate (PyProof.Rows.callWith_type1 (thn (ha.run pos pins s σ H _ I h) fun us s1 ⟨vs, H1, I1, r1, q1⟩ => ?_) hs rfl))
  obtain ⟨q, ex, hq | hq⟩ := q1
  · obtain ⟨⟨xs, hq⟩, q1⟩ := hq
    subst ex
    cases r1 with
    | cons r rr =>
      cases rr
      cases r
      obtain ⟨its, rv, p', hz⟩ := I1.list hq
      refine call_enumerate_list p'.isList fun h' he hit hsz hk => wpAny_pyIter_enum he ?_
      have I2 : Inv X pins σ H1 { s1 with heap := h' } := I1.kept (t' := s1.toks) hk
      refine ⟨s1.heap.objs.size + 1, [s1.heap.objs.size + 1, s1.heap.objs.size], _, _, H1, rfl, I2, turn_enum q (s1.heap.objs.size + 1) s1.heap.objs.size, ⟨⟨.none, he⟩, hit, Nat.succ_ne_self _⟩, fun b hb => ?_, q1⟩
      have e' : b = s1.heap.objs.size + 1 ∨ b = s1.heap.objs.size := by simpa using hb
      have hle : s1.heap.objs.size ≤ b := by
        rcases e' with z | z
        · rw [z]; exact Nat.le_add_right _ _
        · rw [z]; exact Nat.le_refl _
      exact I1.fpOk hle (I1.hok.fresh hle)
  · obtain ⟨⟨xs, hq⟩, q1⟩ := hq
    subst ex
    cases r1 with
    | cons r rr =>
      cases rr
      cases r
      obtain ⟨its, rv, p', hz⟩ := I1.tuple hq
      refine enum_begins1 (begins_tuple q its.toArray) (show s1.heap.IsTuple q its.toArray from p') fun h' he hit hsz hk => wpAny_pyIter_enum he ?_
      have I2 : Inv X pins σ H1 { s1 with heap := h' } := I1.kept (t' := s1.toks) hk
      refine ⟨s1.heap.objs.size + 1, [s1.heap.objs.size + 1, s1.heap.objs.size], _, _, H1, rfl, I2, turn_enumT q (s1.heap.objs.size + 1) s1.heap.objs.size, ⟨⟨.none, he⟩, ⟨_, hit, rfl, rfl⟩, Nat.succ_ne_self _⟩, fun b hb => ?_, q1⟩
      have e' : b = s1.heap.objs.size + 1 ∨ b = s1.heap.objs.size := by simpa using hb
      have hle : s1.heap.objs.size ≤ b := by
        rcases e' with z | z
        · rw [z]; exact Nat.le_add_right _ _
        · rw [z]; exact Nat.le_refl _
      exact I1.fpOk hle (I1.hok.fresh hle)
def enumL (l : List D) : List D := (List.range l.length).map fun i => .tup [.int (i : Nat), l.getD i .non]
theorem enumL_len {l : List D} : (enumL l).length = l.length := by simp [enumL]
theorem enumL_get {l : List D} {i : Nat} {d : D} (h : l[i]? = some d) : (enumL l)[i]? = some (.tup [.int (i : Nat), d]) := by
  have hi := get_lt h
  have e : l.getD i .non = d := by rw [List.getD_eq_getElem?_getD, h]; rfl
  unfold enumL
  rw [List.getElem?_map, List.getElem?_range hi, Option.map_some, e]
def fEnum : List D → Sto → Option (RsI × Sto)
  | [.tup l], st => some (.it (enumL l) .no, st)
  | [.obj n], st => match st[n]? with
    | some (.lst _ l) => some (.it (enumL l) (.one n l), st)
    | _ => none
  | _, _ => none
theorem mono_fEnum : ∀ ds st r st', fEnum ds st = some (r, st') → st.length ≤ st'.length := by
  intro d st r st' h
  unfold fEnum at h
  repeat' (split at h)
  all_goals first | (cases h; exact Nat.le_refl _) | cases h
theorem pair_new {m : Nat → Addr} {st : Sto} {H : Hp} {T : Addr} {i : Nat} {x : V} {d : D} (s : StR Γ m st H) (hT : H T = none) (rd : Rv Γ.K m st.length H d x) :
    Keep H (upd H T (.tup [.int (i : Nat), x])) ∧ StR Γ m st (upd H T (.tup [.int (i : Nat), x])) ∧ Rv Γ.K m st.length (upd H T (.tup [.int (i : Nat), x])) (.tup [.int (i : Nat), d]) (.ref T) := by
  have k : Keep H (upd H T (.tup [.int (i : Nat), x])) := .new hT
  refine ⟨k, ⟨fun j c hj => (s.cell j c hj).mono (Ext.refl _ _) (Nat.le_refl _) k fun o q => by rw [upd_ne (ne_of_none q hT)]; exact q, s.inj, tabs_new hT s.tabs⟩, ?_⟩
  exact Rv.tup (.inl (.inl upd_same)) (.cons (.int _) (.cons (rd.mono (Ext.refl _ _) (Nat.le_refl _) k) .nil))
theorem iterOk_enumL {m0 : Nat → Addr} {L0 : Nat} {H0 : Hp} {n : Nat} {l : List D} (hn : n < L0) : IterOk Γ (Ite Γ.K (m0 n)) (enumL l) (.one n l) m0 L0 H0 := by
  intro i m st H hi e hL k s hg
  rw [enumL_len] at hi ⊢
  obtain ⟨ro, hg⟩ := gdB_at hg
  obtain ⟨vs, a, r⟩ := s.list hg
  rw [e n hn] at a
  refine ⟨fun h => ⟨vs, a, by rw [h, r.length]; exact Nat.le_refl _⟩, fun h => ⟨?_, fun x H' y => ?_⟩⟩
  · have hv : i < vs.length := by rw [← r.length]; exact h
    exact ⟨vs, vs[i], a, by simp [hv]⟩
  · obtain ⟨T, w, rfl, hT, rfl, y⟩ := y
    obtain ⟨d, hd, rd⟩ := r.getV (y vs a)
    obtain ⟨k', s', r'⟩ := pair_new (i := i) s hT rd
    exact ⟨_, enumL_get hd, k', s', r'⟩
theorem iterOk_enumT {m0 : Nat → Addr} {L0 : Nat} {H0 : Hp} {a : Addr} {l : List D} {vs : List V} (ha : SqT Γ.K H0 a vs) (r : RvL Γ.K m0 L0 H0 l vs) : IterOk Γ (Itte Γ.K a) (enumL l) .no m0 L0 H0 := by
  intro i m st H hi e hL k s _
  rw [enumL_len] at hi ⊢
  have a := k.sqT ha
  have r := r.mono e hL k
  refine ⟨fun h => ⟨vs, a, by rw [h, r.length]⟩, fun h => ⟨?_, fun x H' y => ?_⟩⟩
  · have hv : i < vs.length := by rw [← r.length]; exact h
    exact ⟨vs, vs[i], a, by simp [hv]⟩
  · obtain ⟨T, w, rfl, hT, rfl, y⟩ := y
    obtain ⟨d, hd, rd⟩ := r.getV (y vs a)
    obtain ⟨k', s', r'⟩ := pair_new (i := i) s hT rd
    exact ⟨_, enumL_get hd, k', s', r'⟩
theorem si_enum {p tpos : Pos} {elts : List Expr} {kk : Nat} (hK : X.K = Γ.K) (hg : Gl X "enumerate") (hm : X.mg "enumerate" = none) (ha : SimA X Γ W [a] das) (hs : starEach [a] X.env = [(false, eval a X.env)]) :
    SimI X Γ W (.Tuple elts kk tpos) (.Call (.Name "enumerate" p) [a] [] pos) (dAppI fEnum das) := by
  refine ⟨monoI_app ha.mono mono_fEnum, (pi_enumD hg hm ha.pa hs).imp fun σ H R ⟨m, ls, st, s, l, h⟩ => ?_⟩
  refine tA_bindI ha.mono s l mono_fEnum h fun m1 ds st1 vs H1 s1 l1 r1 q => ?_
  match ds, r1, q with
  | [.tup l], .cons (.tup (a := p) (vs := vs) h1 r1) .nil, q => exact ⟨p, rfl, .inr ⟨⟨vs, by rw [hK]; exact h1⟩, by rw [hK]; exact q.2 m1 H1 _ (Ext.refl _ _) (Keep.refl _) s1 (iterOk_enumT h1 r1)⟩⟩
  | [.obj n], .cons (.obj hn) .nil, q =>
    dsimp only [fEnum] at q
    split at q
    · rename_i ro l e
      obtain ⟨vs, a, r⟩ := s1.list e
      exact ⟨m1 n, rfl, .inl ⟨⟨vs, by rw [hK]; exact a⟩, by rw [hK]; exact q.2 m1 H1 _ (Ext.refl _ _) (Keep.refl _) s1 (iterOk_enumL hn)⟩⟩
    · exact q.elim
end
end MP
end
section
set_option maxRecDepth 100000
set_option maxHeartbeats 1000000
namespace MP
open PySem PySem.Spec PyProof.Rows L2

/-! ### sorted(set(xs)), xs a list of tuples of numbers -/
def insU (x : List Int) : List (List Int) → List (List Int)
  | [] => [x]
  | y :: r => if x = y then y :: r else if HT.lexLt x y then x :: y :: r else y :: insU x r
def sortU : List (List Int) → List (List Int)
  | [] => []
  | x :: r => insU x (sortU r)
theorem lex_total : ∀ x y : List Int, x ≠ y → HT.lexLt x y = false → HT.lexLt y x = true
  | [], [], h, _ => absurd rfl h
  | [], y :: ys, _, h => by rw [HT.lexLt_nil_cons] at h; cases h
  | x :: xs, [], _, _ => HT.lexLt_nil_cons x xs
  | x :: xs, y :: ys, hne, h => by
    rw [HT.lexLt_cons] at h ⊢
    by_cases e : x = y
    · subst e
      rw [if_pos rfl] at h ⊢
      exact lex_total xs ys (fun z => hne (by rw [z])) h
    · rw [if_neg e] at h
      rw [if_neg (Ne.symm e)]
      have := of_decide_eq_false h
      exact decide_eq_true (by omega)
theorem lex_irr (x : List Int) : HT.lexLt x x = false := by
  cases h : HT.lexLt x x with
  | false => rfl
  | true => rw [NtL.lex_asym x x h] at h; cases h
theorem lex_trans : ∀ x y z : List Int, HT.lexLt x y = true → HT.lexLt y z = true → HT.lexLt x z = true
  | [], [], _, h, _ => by rw [HT.lexLt_nil_nil] at h; cases h
  | [], _ :: _, [], _, h => by rw [HT.lexLt_cons_nil] at h; cases h
  | [], _ :: _, _ :: _, _, _ => HT.lexLt_nil_cons _ _
  | _ :: _, [], _, h, _ => by rw [HT.lexLt_cons_nil] at h; cases h
  | _ :: _, _ :: _, [], _, h => by rw [HT.lexLt_cons_nil] at h; cases h
  | x :: xs, y :: ys, z :: zs, h1, h2 => by
    rw [HT.lexLt_cons] at h1 h2 ⊢
    by_cases e1 : x = y
    · rw [if_pos e1] at h1
      subst e1
      by_cases e2 : x = z
      · rw [if_pos e2] at h2 ⊢
        exact lex_trans xs ys zs h1 h2
      · rw [if_neg e2] at h2 ⊢
        exact h2
    · rw [if_neg e1] at h1
      have a := of_decide_eq_true h1
      by_cases e2 : y = z
      · subst e2
        rw [if_neg e1]
        exact h1
      · rw [if_neg e2] at h2
        have b := of_decide_eq_true h2
        rw [if_neg (by omega)]
        exact decide_eq_true (by omega)
abbrev LtL (x y : List Int) : Prop := HT.lexLt x y = true
theorem insU_mem {x : List Int} : ∀ {l : List (List Int)} {a : List Int}, a ∈ insU x l ↔ a = x ∨ a ∈ l
  | [], a => by simp [insU]
  | y :: r, a => by
    unfold insU
    by_cases e : x = y
    · rw [if_pos e]
      subst e
      simp
    · rw [if_neg e]
      by_cases h : HT.lexLt x y = true
      · rw [if_pos h]
        simp
      · rw [if_neg h, List.mem_cons, insU_mem, List.mem_cons]
        constructor
        · rintro (h | h | h) <;> simp [h]
        · rintro (h | h | h) <;> simp [h]
theorem insU_sorted {x : List Int} : ∀ {l : List (List Int)}, l.Pairwise LtL → (insU x l).Pairwise LtL
  | [], _ => List.pairwise_singleton _ _
  | y :: r, h => by
    unfold insU
    obtain ⟨h1, h2⟩ := List.pairwise_cons.mp h
    by_cases e : x = y
    · rw [if_pos e]
      exact h
    · rw [if_neg e]
      by_cases q : HT.lexLt x y = true
      · rw [if_pos q]
        refine List.pairwise_cons.mpr ⟨fun a ha => ?_, h⟩
        rcases List.mem_cons.mp ha with rfl | ha
        · exact q
        · exact lex_trans _ _ _ q (h1 a ha)
      · rw [if_neg q]
        refine List.pairwise_cons.mpr ⟨fun a ha => ?_, insU_sorted h2⟩
        rcases insU_mem.mp ha with rfl | ha
        · exact lex_total _ _ e (by simpa using q)
        · exact h1 a ha
theorem sortU_mem : ∀ {l : List (List Int)} {a : List Int}, a ∈ sortU l ↔ a ∈ l
  | [], a => by simp [sortU]
  | y :: r, a => by unfold sortU; rw [insU_mem, sortU_mem, List.mem_cons]
theorem sortU_sorted : ∀ (l : List (List Int)), (sortU l).Pairwise LtL
  | [] => .nil
  | y :: r => insU_sorted (sortU_sorted r)
theorem sorted_uniq : ∀ {xs ys : List (List Int)}, xs.Pairwise LtL → ys.Pairwise LtL → (∀ a, a ∈ xs ↔ a ∈ ys) → xs = ys
  | [], [], _, _, _ => rfl
  | [], y :: ys, _, _, h => absurd ((h y).mpr (List.mem_cons_self ..)) (by simp)
  | x :: xs, [], _, _, h => absurd ((h x).mp (List.mem_cons_self ..)) (by simp)
  | x :: xs, y :: ys, h1, h2, h => by
    obtain ⟨a1, a2⟩ := List.pairwise_cons.mp h1
    obtain ⟨b1, b2⟩ := List.pairwise_cons.mp h2
    have e : x = y := by
      rcases List.mem_cons.mp ((h x).mp (List.mem_cons_self ..)) with e | m1
      · exact e
      · rcases List.mem_cons.mp ((h y).mpr (List.mem_cons_self ..)) with e | m2
        · exact e.symm
        · have z := NtL.lex_asym _ _ (a1 y m2)
          rw [b1 x m1] at z
          cases z
    subst e
    have ni : ∀ {l : List (List Int)}, (∀ a ∈ l, LtL x a) → x ∉ l := fun {l} q m => by
      have z := q x m
      rw [LtL, lex_irr] at z
      cases z
    rw [sorted_uniq a2 b2 fun a => ?_]
    constructor
    · intro m
      rcases List.mem_cons.mp ((h a).mp (List.mem_cons_of_mem _ m)) with e | q
      · subst e; exact absurd m (ni a1)
      · exact q
    · intro m
      rcases List.mem_cons.mp ((h a).mpr (List.mem_cons_of_mem _ m)) with e | q
      · subst e; exact absurd m (ni b1)
      · exact q
theorem code_lex {B : Int} : ∀ {a b : List Int}, a.length = b.length → TS.Bd B a → TS.Bd B b → a ≠ b → TS.code B a ≤ TS.code B b → HT.lexLt a b = true
  | [], [], _, _, _, h, _ => absurd rfl h
  | [], _ :: _, h, _, _, _, _ => by simp at h
  | _ :: _, [], h, _, _, _, _ => by simp at h
  | x :: xs, y :: ys, hl, h1, h2, hne, hle => by
    have hl' : xs.length = ys.length := by simpa using hl
    rw [HT.lexLt_cons]
    by_cases e : x = y
    · subst e
      rw [if_pos rfl]
      refine code_lex hl' h1.tail h2.tail (fun z => hne (by rw [z])) ?_
      exact Int.not_lt.mp fun z => Int.not_lt.mpr hle ((TS.code_same (B := B) (d := x) hl'.symm).mpr z)
    · rw [if_neg e]
      refine decide_eq_true ?_
      have q := fun z : y < x => Int.lt_irrefl _ (Int.lt_of_le_of_lt hle (TS.code_lt (B := B) hl'.symm h2.tail h1.tail z))
      have : ¬ y < x := q
      omega
/-- the data as rows of numbers -/
def rowsOf : List D → Option (List (List Int))
  | [] => some []
  | .tup l :: r => match intsOf l, rowsOf r with
    | some x, some t => some (x :: t)
    | _, _ => none
  | _ :: _ => none
def tupI (ns : List Int) : D := .tup (ns.map .int)
/-- alike, no number below 0, fewer than 64 -/
def rowsOk (rows : List (List Int)) : Bool := decide (rows.length < 64) && rows.all fun x => decide (x.length = (rows.headD [0]).length) && (decide (0 < x.length) && x.all fun i => decide (0 ≤ i))
def fSortSet : D → Sto → Rt
  | .obj n, st => match st[n]? with
    | some (.lst _ l) => match rowsOf l with
      | some rows => if rowsOk rows then okL ((sortU rows).map tupI) st else none
      | none => none
    | _ => none
  | _, _ => none
theorem mono_fSortSet : MonoF fSortSet := by
  intro d st r st' h
  unfold fSortSet at h
  repeat' (split at h)
  all_goals first | exact mono_okL h | cases h
def sumL (rows : List (List Int)) : Int := rows.foldr (fun x s => x.foldr (fun a t => a + t) s) 1
theorem sum1 : ∀ (x : List Int) (s : Int), (∀ i ∈ x, 0 ≤ i) → s ≤ x.foldr (fun a t => a + t) s ∧ ∀ i ∈ x, 0 < s → i < x.foldr (fun a t => a + t) s
  | [], s, _ => ⟨Int.le_refl _, fun i h => by simp at h⟩
  | a :: x, s, h => by
    obtain ⟨h1, h2⟩ := sum1 x s fun i hi => h i (List.mem_cons_of_mem _ hi)
    have h0 := h a (List.mem_cons_self ..)
    refine ⟨?_, fun i hi hs => ?_⟩
    · show s ≤ a + x.foldr (fun a t => a + t) s
      omega
    · show i < a + x.foldr (fun a t => a + t) s
      rcases List.mem_cons.mp hi with rfl | hi
      · omega
      · have := h2 i hi hs
        omega
theorem sum2 : ∀ (rows : List (List Int)), (∀ x ∈ rows, ∀ i ∈ x, 0 ≤ i) → 0 < sumL rows ∧ ∀ x ∈ rows, ∀ i ∈ x, i < sumL rows
  | [], _ => ⟨by decide, fun x h => by simp at h⟩
  | x :: rows, h => by
    obtain ⟨h1, h2⟩ := sum2 rows fun y hy => h y (List.mem_cons_of_mem _ hy)
    obtain ⟨k1, k2⟩ := sum1 x (sumL rows) (h x (List.mem_cons_self ..))
    refine ⟨Int.lt_of_lt_of_le h1 k1, fun y hy i hi => ?_⟩
    rcases List.mem_cons.mp hy with rfl | hy
    · exact k2 i hi h1
    · exact Int.lt_of_lt_of_le (h2 y hy i hi) k1
theorem rowsOf_vals {Γ : Gam} {m : Nat → Addr} {L : Nat} {H : Hp} : ∀ {ds : List D} {vs : List V} {rows : List (List Int)}, RvL Γ.K m L H ds vs → rowsOf ds = some rows →
    ∃ ks : List (Addr × List Int), vs = ks.map (fun p => V.ref p.1) ∧ ks.map (·.2) = rows ∧ ∀ p ∈ ks, SqT Γ.K H p.1 (p.2.map V.int)
  | [], _, _, .nil, h => by cases h; exact ⟨[], rfl, rfl, fun p hp => by simp at hp⟩
  | .tup l :: r, _, rows, .cons (.tup (a := a) (vs := vs) h1 r1) rs, h => by
    unfold rowsOf at h
    split at h
    · rename_i x t e1 e2
      cases h
      obtain ⟨ks, k1, k2, k3⟩ := rowsOf_vals rs e2
      rw [intsOf_vals r1 e1] at h1
      refine ⟨(a, x) :: ks, by rw [k1]; rfl, by rw [← k2]; rfl, fun p hp => ?_⟩
      rcases List.mem_cons.mp hp with rfl | hp
      · exact h1
      · exact k3 p hp
    · cases h
  | .non :: _, _, _, _, h => by cases h
  | .bl _ :: _, _, _, _, h => by cases h
  | .int _ :: _, _, _, _, h => by cases h
  | .str _ :: _, _, _, _, h => by cases h
  | .obj _ :: _, _, _, _, h => by cases h
theorem rvL_ints {K : PySem.W.Frag} {m : Nat → Addr} {L : Nat} {H : Hp} : ∀ ns : List Int, RvL K m L H (ns.map D.int) (ns.map V.int)
  | [] => .nil
  | n :: ns => .cons (.int n) (rvL_ints ns)
theorem rvL_rows {K : PySem.W.Frag} {m : Nat → Addr} {L : Nat} {H : Hp} : ∀ {ks : List (Addr × List Int)}, (∀ p ∈ ks, SqT K H p.1 (p.2.map V.int)) → RvL K m L H ((ks.map (·.2)).map tupI) (ks.map fun p => V.ref p.1)
  | [], _ => .nil
  | p :: ks, h => .cons (.tup (h p (List.mem_cons_self ..)) (rvL_ints _)) (rvL_rows fun q hq => h q (List.mem_cons_of_mem _ hq))
theorem StR.side {Γ : Gam} {m : Nat → Addr} {st : Sto} {H : Hp} {p : Addr} {o : HO} (s : StR Γ m st H) (hp : H p = none) : StR Γ m st (upd H p o) :=
  ⟨fun i c hi => (s.cell i c hi).mono (Ext.refl _ _) (Nat.le_refl _) (.new hp) fun o q => by rw [upd_ne (ne_of_none q hp)]; exact q, s.inj, tabs_new hp s.tabs⟩
section
variable {X : Cx} {Γ : Gam} {W : WX} {e a b c o : Expr} {da db dc : De} {pos pos' : Pos} {es rest : List Expr} {das : List De}
theorem sortset_core {P : Program} {w : World} {m1 : Nat → Addr} {st1 : Sto} {H1 : Hp} {d : D} {v : V} {Q : VK} {E : XK} (s1 : StR Γ m1 st1 H1) (r1 : Rv Γ.K m1 st1.length H1 d v) (q1 : Res Γ m1 st1.length H1 (fSortSet d st1) Q E) :
    rSetOfT Γ.K P w [v] H1 fun u H2 => rSortedT Γ.K P w [u] H2 Q := by
  match d, r1, q1 with
  | .obj n, .obj hn, q1 =>
    dsimp only [fSortSet] at q1
    split at q1
    · rename_i ro l0' e0
      split at q1
      · rename_i rows er
        split at q1
        · rename_i hok
          unfold rowsOk at hok
          obtain ⟨h64, hall⟩ := Bool.and_eq_true_iff.mp hok
          have h64 := of_decide_eq_true h64
          have hall : ∀ x ∈ rows, x.length = (rows.headD [0]).length ∧ 0 < x.length ∧ ∀ i ∈ x, 0 ≤ i := fun x hx => by
            have z := List.all_eq_true.mp hall x hx
            simpa using z
          obtain ⟨vs, hv, rv⟩ := s1.list e0
          obtain ⟨ks, k1, k2, k3⟩ := rowsOf_vals rv er
          rw [k1] at hv
          have hd : 1 ≤ (rows.headD [0]).length := by
            cases rows with
            | nil => decide
            | cons x r => exact (hall x (List.mem_cons_self ..)).2.1
          have hbd := (sum2 rows fun x hx => (hall x hx).2.2).2
          refine ⟨m1 n, ks, rfl, hv, k3, by rw [← List.length_map (f := (·.2)), k2]; exact h64, fun a0 L ha0 hsub hsup => ?_⟩
          have kA : Keep H1 (upd H1 a0 (SetTO P w a0 L)) := .new ha0
          have hrow : ∀ p ∈ L, p.2 ∈ rows := fun p hp => by rw [← k2]; exact List.mem_map_of_mem (f := (·.2)) (hsub p hp)
          have hB : ∀ p ∈ L, p.2.length = (rows.headD [0]).length ∧ TS.Bd (sumL rows) p.2 := fun p hp => ⟨(hall _ (hrow p hp)).1, fun i hi => ⟨(hall _ (hrow p hp)).2.2 i hi, hbd _ (hrow p hp) i hi⟩⟩
          refine ⟨a0, L, (rows.headD [0]).length, sumL rows, rfl, upd_same, fun p hp => kA.sqT (k3 p (hsub p hp)), hd, hB, fun L' p0 hperm hnd _ hpw hp0 => ?_⟩
          have e : L'.map (·.2) = sortU rows := by
            refine sorted_uniq ?_ (sortU_sorted rows) fun x => ?_
            · rw [List.pairwise_map]
              have hne : L'.Pairwise fun q r => q.2 ≠ r.2 := List.pairwise_map.mp hnd
              refine List.Pairwise.imp_of_mem (fun {q r} hq hr hh => ?_) (hpw.and hne)
              have b1 := hB q (hperm.mem_iff.mp hq)
              have b2 := hB r (hperm.mem_iff.mp hr)
              exact code_lex (b1.1.trans b2.1.symm) b1.2 b2.2 hh.2 hh.1
            · rw [sortU_mem, List.mem_map]
              constructor
              · rintro ⟨q, hq, rfl⟩
                exact hrow q (hperm.mem_iff.mp hq)
              · intro hx
                rw [← k2] at hx
                obtain ⟨q, hq, rfl⟩ := List.mem_map.mp hx
                obtain ⟨r, hr, e⟩ := List.mem_map.mp (hsup q hq)
                exact ⟨r, hperm.mem_iff.mpr hr, e⟩
          have q2 : Res Γ m1 st1.length (upd H1 a0 (SetTO P w a0 L)) (okL ((sortU rows).map tupI) st1) Q E :=
            q1.mono (Ext.refl _ _) kA (Nat.le_refl _) fun a st' z => mono_okL z
          rw [← e] at q2
          exact q2.lstN (s1.side ha0) (rvL_rows fun p hp => kA.sqT (k3 p (hsub p (hperm.mem_iff.mp hp)))) hp0
        · exact q1.elim
      · exact q1.elim
    · exact q1.elim
theorem sim_sortset {p p2 : Pos} (hK : X.K = Γ.K) (hc : X.calm = true) (hr : Room 0 X.A) (hg : Gl X "sorted") (hm : X.mg "sorted" = none) (hg2 : Gl X "set") (hm2 : X.mg "set" = none) (ha : Sim X Γ W a da)
    (he2 : starEach [a] X.env = (false, eval a X.env) :: starEach [] X.env) (he : starEach [.Call (.Name "set" p2) [a] [] pos'] X.env = (false, eval (.Call (.Name "set" p2) [a] [] pos') X.env) :: starEach [] X.env) :
    Sim X Γ W (.Call (.Name "sorted" p) [.Call (.Name "set" p2) [a] [] pos'] [] pos) (dUn fSortSet da) := by
  refine ⟨mono_un ha.mono mono_fSortSet, (pe_callB (cr_sortedT hc) hg hm boot_sorted (pa_cons (pe_callTy (cr_setOfT hc (by have := hr.units; omega)) hg2 hm2 boot_set (pa_cons ha.pe pa_nil he2) (by decide) (by decide) he2 rfl) pa_nil he) (by decide) (by decide) he rfl).imp fun σ H Q ⟨m, ls, st, s, l, h⟩ => ?_⟩
  obtain ⟨m0, ls0, st0, s0, l0, q0⟩ := tD_bind ha.mono s l mono_fSortSet h
  refine ⟨m0, ls0, st0, s0, l0, q0.imp fun v H1 ⟨m1, d, st1, s1, l1, r1, q1, _⟩ => ?_⟩
  have z := sortset_core (P := X.prog) (w := X.w) s1 r1 q1
  rw [← hK] at z
  exact z
end
end MP
end
section
set_option maxRecDepth 100000
set_option maxHeartbeats 1000000
namespace MP
open PySem PySem.Spec PyProof.Rows L2

section
variable {X : Cx} {Γ : Gam} {W : WX} {e a b c o tg iter elt : Expr} {ifs : List Expr} {da db dc dt de : De} {pos p2 py spos : Pos} {es rest : List Expr} {das : List De} {t : Tg} {di : Di} {scope : Scope} {own : List (Str × Nat)}
/-- the block of a comprehension -/
abbrev InB (X : Cx) (scope : Scope) (φ : Cx → Prop) : Prop := ∀ (s : Shared) (H : Hp) (C : Addr) (cl : List (Str × Addr)) (fp : List Addr), φ (X.blk s H scope (compEnvC scope cl C X.env) fp)
theorem InB.one {φ : Cx → Prop} (h : InB X scope φ) : φ (X.blk {} (fun _ => none) scope (compEnvC scope [] 0 X.env) []) := h _ _ _ _ _
theorem sim_lc0 (hc : X.calm = true) (hN : X.N.Nodup) (hi : SimI X Γ W tg iter di) (ok : BlkOk X.N X.env.scope scope own) (hv : ∀ j ∈ tslots t, j ∈ own.map (·.2))
    (hg : InB X scope fun Y => PG Y tg (tG Γ t)) (he : InB X scope fun Y => Sim Y Γ WF elt de) (hs : ∀ x, foldedSetIterable iter X.env x = pure x) :
    Sim X Γ W (.ListComp elt [⟨tg, iter, [], 0⟩] scope pos) (dLc di t dYes de (own.map (·.2))) :=
  sim_lc hc hN hi ok mono_yes he.one.mono hv hg (fun _ _ _ _ _ => pts_yes) (fun s H C cl fp => (he s H C cl fp).pe) hs
theorem sim_lc1 (hc : X.calm = true) (hN : X.N.Nodup) (hi : SimI X Γ W tg iter di) (ok : BlkOk X.N X.env.scope scope own) (hv : ∀ j ∈ tslots t, j ∈ own.map (·.2))
    (hg : InB X scope fun Y => PG Y tg (tG Γ t)) (ht : InB X scope fun Y => SimT Y Γ WF c dc) (he : InB X scope fun Y => Sim Y Γ WF elt de) (hs : ∀ x, foldedSetIterable iter X.env x = pure x) :
    Sim X Γ W (.ListComp elt [⟨tg, iter, [c], 0⟩] scope pos) (dLc di t dc de (own.map (·.2))) :=
  sim_lc hc hN hi ok ht.one.mono he.one.mono hv hg (fun s H C cl fp => pts_one (ht s H C cl fp).pt) (fun s H C cl fp => (he s H C cl fp).pe) hs
theorem tAsg_lc {i : Nat} {vs : List Nat} (mi : MonoI di) (mt : Mono dt) (me : Mono de) (hv : ∀ j ∈ tslots t, j ∈ vs) {σ : L2.St} {H : Hp} {D : Ends} (h : tS Γ W (dAsg (dLc di t dt de vs) (.nm i)) D σ H) : tAsg (tLc (tI Γ W di) (tG Γ t) (tT Γ WF dt) (tD Γ WF de) vs) (gName i) D σ H :=
  tLc_of mi mt me hv (tAsg_name (tAsg_of (mono_lc mi mt me) h) fun _ _ _ _ q z => tD_mono q z)
theorem ss_setLc0 {i : Nat} {y : Str} (hc : X.calm = true) (hy : X.N[i]? = some y) (hyl : X.env.scope.names.lookup y = some .local) (hsw : swapsWith (.ListComp elt [⟨tg, iter, [], 0⟩] scope pos) (some (.Name y py)) spos.line X.env = pure true)
    (hN : X.N.Nodup) (hi : SimI X Γ W tg iter di) (ok : BlkOk X.N X.env.scope scope own) (hv : ∀ j ∈ tslots t, j ∈ own.map (·.2))
    (hg : InB X scope fun Y => PG Y tg (tG Γ t)) (he : InB X scope fun Y => Sim Y Γ WF elt de) (hs : ∀ x, foldedSetIterable iter X.env x = pure x) :
    SimS X Γ W (.Assign [.Name y py] (.ListComp elt [⟨tg, iter, [], 0⟩] scope pos) spos) (dAsg (dLc di t dYes de (own.map (·.2))) (.nm i)) :=
  ⟨mono_asg (mono_lc hi.mono mono_yes he.one.mono), (ps_setLc hc hN hy hyl hsw hi.pi ok hg (fun _ _ _ _ _ => pts_yes) (fun s H C cl fp => (he s H C cl fp).pe) hs).imp fun D σ H h => tAsg_lc hi.mono mono_yes he.one.mono hv h⟩
theorem ss_setLc1 {i : Nat} {y : Str} (hc : X.calm = true) (hy : X.N[i]? = some y) (hyl : X.env.scope.names.lookup y = some .local) (hsw : swapsWith (.ListComp elt [⟨tg, iter, [c], 0⟩] scope pos) (some (.Name y py)) spos.line X.env = pure true)
    (hN : X.N.Nodup) (hi : SimI X Γ W tg iter di) (ok : BlkOk X.N X.env.scope scope own) (hv : ∀ j ∈ tslots t, j ∈ own.map (·.2))
    (hg : InB X scope fun Y => PG Y tg (tG Γ t)) (ht : InB X scope fun Y => SimT Y Γ WF c dc) (he : InB X scope fun Y => Sim Y Γ WF elt de) (hs : ∀ x, foldedSetIterable iter X.env x = pure x) :
    SimS X Γ W (.Assign [.Name y py] (.ListComp elt [⟨tg, iter, [c], 0⟩] scope pos) spos) (dAsg (dLc di t dc de (own.map (·.2))) (.nm i)) :=
  ⟨mono_asg (mono_lc hi.mono ht.one.mono he.one.mono), (ps_setLc hc hN hy hyl hsw hi.pi ok hg (fun s H C cl fp => pts_one (ht s H C cl fp).pt) (fun s H C cl fp => (he s H C cl fp).pe) hs).imp fun D σ H h => tAsg_lc hi.mono ht.one.mono he.one.mono hv h⟩
end
/-! ### within a def -/
section
variable {P : Program} {w : World} {K : PySem.W.Frag} {mg : Str → Option Value} {base : Heap} {N : List Str} {qual : Str} {sc : Scope} {f : Addr} {cdv : Value} {A : Around} {outer : List Env} {s : Shared} {H : Hp} {E : XK}
abbrev CxD (P : Program) (w : World) (K : PySem.W.Frag) (mg : Str → Option Value) (base : Heap) (N : List Str) (qual : Str) (sc : Scope) (f : Addr) (cdv : Value) (A : Around) (outer : List Env) (s : Shared) (H : Hp) (E : XK) : Cx := cxOf (L2.CX P w) P w K mg base N qual sc f cdv A outer s H E
theorem hp_def : PassesOwn (model (CxD P w K mg base N qual sc f cdv A outer s H E).prog (CxD P w K mg base N qual sc f cdv A outer s H E).w) (CxD P w K mg base N qual sc f cdv A outer s H E).A (CxD P w K mg base N qual sc f cdv A outer s H E).env (CxD P w K mg base N qual sc f cdv A outer s H E).xe := passes_of rfl
theorem tk_def : Takes (CxD P w K mg base N qual sc f cdv A outer s H E) (fun c d _ H' => E c d H') := takes_of rfl rfl rfl rfl
end
end MP
end
section
set_option maxRecDepth 100000
set_option maxHeartbeats 1000000
namespace MP
open PySem PySem.Spec PyProof.Rows L2

/-! ### own errors -/
structure ExcF (Γ : Gam) (mg : Str → Option Value) (c : Str) : Prop where
  at_ : mg c = some (.ref (Γ.cl c))
  ex : ∃ bmB newId initId, ExcBaseFacts "ValueError" newId initId bmB ∧ PySem.W.excIn Γ.K (Γ.cl c) bmB newId = true
  kp : PySem.W.keepIn Γ.K (.ref (Γ.cl c)) = true
  sub : PySem.W.subIn Γ.K (.ref (Γ.cl c)) (.type "BaseException") = some true
  ty : PySem.W.typeIn Γ.K (.ref (Γ.cl c)) = some (.type "type")
/-- an own error whose __init__ sets the one field f -/
structure ExcI (Γ : Gam) (mg : Str → Option Value) (c f p : Str) (st : Stmt) : Prop where
  at_ : mg c = some (.ref (Γ.cl c))
  oex : OexC Γ.K (Γ.cl c)
  nf : PySem.W.findIn Γ.K (.ref (Γ.cl c)) f = some none
  ex : ∃ qual fI fd, Fun Γ.K "__init__" qual st fI fd ∧ PySem.W.findIn Γ.K (.ref (Γ.cl c)) "__init__" = some (some (.ref fI)) ∧ PySem.W.typeIn Γ.K (.ref fI) = some (.type "function") ∧ Binds Γ.K fd ["self", p] []
theorem init1_ok {P : Program} {w : World} {K : PySem.W.Frag} {mg : Str → Option Value} {base : Heap} {C fI : Addr} {f qual p : Str} {fd : FuncData} {st : Stmt} {p1 p2 p3 p4 : Pos} (F : Fun K "__init__" qual st fI fd) (S : FnScope ["self", p] ["self", p] (defScope st))
    (hb : defBody st = [.Assign [.Attribute (.Name "self" p1) f p2] (.Name p p3) p4]) (h0 : (defScope st).names.lookup ("self" : Str) = some .local) (h1 : (defScope st).names.lookup (p : Str) = some .local) (hp : (p == ("__debug__" : Str)) = false) (hp2 : (p == ("__classdict__" : Str)) = false) : FnOk P w K mg base CX0 1 fI fd ["self", p] (spX1 K C f) := by
  refine F.ok S (fun vs H Q E h => ?_) (fun cdv A outer s H vs Q E hr h => ?_)
  · obtain ⟨a, v, rfl, _⟩ := h
    rfl
  · obtain ⟨a, v, rfl, T, nf, ha, k⟩ := h
    rw [hb]
    refine ⟨_, pss_one (ps_ost (pv 0 rfl (.inl h0)) (pv 1 rfl (.inl h1) hp hp2) rfl), ?_⟩
    exact ⟨v, rfl, .ref a, rfl, a, C, rfl, T, nf, .inl ⟨ha, fun dx h1 h2 => k dx h1 h2⟩⟩
section
variable {X : Cx} {Γ : Gam} {W : WX} {e a b c o i tg iter : Expr} {da db dc de do_ di_ : De} {pos pos' tpos p2 : Pos} {es : List Expr} {das : List De} {t : Tg} {di : Di}
theorem ss_raise0D {c m : Str} {j : Nat} {p p3 : Pos} (F : ExcF Γ X.mg c) (hK : X.K = Γ.K) (hcalm : X.calm = true) (tk : Takes X W) (hg : Gl X c) (hdb : (c == ("__debug__" : Str)) = false) : SimS X Γ W (.Raise (some (.Call (.Name c p) [.Constant (.str m) j p2] [] p3)) none pos) (dRaise0 c) := by
  obtain ⟨bmB, newId, initId, F1, F2⟩ := F.ex
  exact ss_raise0 (c := c) hcalm tk F1 (by rw [hK]; exact F2) F.at_ (by rw [hK]; exact F.kp) (raises_own (by rw [hK]; exact F.sub) (by rw [hK]; exact F.ty)) hg hdb
theorem ss_raise1D {c f q : Str} {st : Stmt} {p p3 p1 p2' p3' p4 : Pos} (F : ExcI Γ X.mg c f q st) (S : FnScope ["self", q] ["self", q] (defScope st)) (hb : defBody st = [.Assign [.Attribute (.Name "self" p1) f p2'] (.Name q p3') p4]) (h0 : (defScope st).names.lookup ("self" : Str) = some .local) (h1 : (defScope st).names.lookup q = some .local)
    (hq1 : (q == ("__debug__" : Str)) = false) (hq2 : (q == ("__classdict__" : Str)) = false) (hK : X.K = Γ.K) (hcalm : X.calm = true) (tk : Takes X W) (hr : Room 2 X.A) (hg : Gl X c) (ha : Sim X Γ W a da) (hdb : (c == ("__debug__" : Str)) = false) (hst : starEach [a] X.env = (false, eval a X.env) :: starEach [] X.env) :
    SimS X Γ W (.Raise (some (.Call (.Name c p) [a] [] p3)) none pos) (dRaise1 c f da) := by
  obtain ⟨qual, fI, fd, Fn, e1, e2, e3⟩ := F.ex
  rw [← hK] at Fn e1 e2 e3
  exact ss_raise1 (c := c) hcalm tk (by rw [hK]; exact F.oex) (by rw [hK]; exact F.nf) e1 e2 (init1_ok Fn S hb h0 h1 hq1 hq2) hr e3 hg F.at_ ha hdb hst
end

/-! ### classes -/
structure MethX (Γ : Gam) (cls meth : Str) (st : Stmt) (ps : List Str) (qual : Str) : Prop where
  ex : ∃ f fd, Fun Γ.K meth qual st f fd ∧ PySem.W.findIn Γ.K (.ref (Γ.cl cls)) meth = some (some (.ref f)) ∧ PySem.W.isFn Γ.K (.ref f) = true ∧ Binds Γ.K fd ps []
structure MakeX (Γ : Gam) (mg : Str → Option Value) (cls : Str) : Prop where
  at_ : mg cls = some (.ref (Γ.cl cls))
  makes : PySem.W.makesIn Γ.K (Γ.cl cls) = true
  kp : PySem.W.keepIn Γ.K (.ref (Γ.cl cls)) = true
structure DenM (P : Program) (w : World) (Γ : Gam) (mg : Str → Option Value) (base : Heap) (k : Nat) (cls meth : Str) (n : Nat) (g : List D → Sto → Rt) : Prop where
  ex : ∃ f fd ps, FnOk P w Γ.K mg base (L2.CX P w) k f fd ps (spD Γ n g) ∧ PySem.W.findIn Γ.K (.ref (Γ.cl cls)) meth = some (some (.ref f)) ∧ PySem.W.isFn Γ.K (.ref f) = true ∧ Binds Γ.K fd ps []
  mono : MonoFA g
section
variable {P : Program} {w : World} {Γ : Gam} {mg : Str → Option Value} {base : Heap}
theorem denM_of {cls meth qual : Str} {st : Stmt} {N ps : List Str} {k : Nat} (F : MethX Γ cls meth st ps qual) (S : FnScope N ps (defScope st)) {db : Ds}
    (hbody : ∀ (f : Addr) (cdv : Value) (A : Around) (outer : List Env) (s : Shared) (H : Hp) (E : XK), Room k (A.deeper (envOfC qual (defScope st) s.heap.objs.size f cdv)) →
      SimB (cxOf (L2.CX P w) P w Γ.K mg base N qual (defScope st) f cdv A outer s H E) Γ (fun c d _ H' => E c d H') (defBody st) db) (hk : k ≤ 100 := by decide) : DenM P w Γ mg base (k + 1) cls meth ps.length (runD N.length db) := by
  obtain ⟨f, fd, F, h1, h2, b⟩ := F.ex
  have hm := (hbody 0 .none callerA [] {} (fun _ => none) (fun _ _ _ => False) (room_c hk _)).mono
  exact ⟨⟨f, fd, ps, fn_sim rfl F S rfl (hbody f), h1, h2, b⟩, mono_runD hm⟩
theorem sim_makeD {X : Cx} {W : WX} {e : Expr} {es : List Expr} {das : List De} {c : Str} {p pos : Pos} {k n : Nat} {g : List D → Sto → Rt} (G : DenM X.prog X.w Γ X.mg X.base k c "__init__" (n + 1) g) (M : MakeX Γ X.mg c) (hK : X.K = Γ.K) (hr : Room (k + 1) X.A) (hg : Gl X c)
    (hx : ∀ σ, PassesAt (L2.CX X.prog X.w) X σ (fun c d H' => W c d σ H')) (h : SimA X Γ W (e :: es) das) (hn : das.length = n) (hdb : (c == ("__debug__" : Str)) = false) (he : starEach (e :: es) X.env = (false, eval e X.env) :: starEach es X.env)
    (hpl : (backTo pos (starEach es X.env)).any (·.1) = false) : Sim X Γ W (.Call (.Name c p) (e :: es) [] pos) (dApp (fMake c g) das) := by
  obtain ⟨⟨f, fd, ps, F, h1, h2, hb⟩, mo⟩ := G
  rw [← hK] at F h1 h2 hb
  exact sim_make ⟨by rw [hK]; exact M.makes, h1, h2, by rw [hK]; exact M.kp⟩ F mo hr hg M.at_ hb hx h hn hdb he hpl
end
end MP
end
section
set_option maxRecDepth 100000
set_option maxHeartbeats 1000000
namespace MP
open PySem PySem.Spec PyProof.Rows L2 PySem.W

/-! ### isinstance of a caught error, with a dict or without -/
section
variable {prog : Program} {w : World} {A : Around} {E : Value → Shared → Prop} {s : Shared} {K : Frag} {x D : Addr} {ox : Obj} {od : Option Obj}
theorem findObj_dataO {C : Addr} {name : Str} {a g : Value} (hc : (clsIn K C).isSome = true) (ha : findIn K (.ref C) name = some (some a)) (hg : specialIn K a "__get__" = some (some g)) (ht : takesIn K a = some true) : findObj K C od name = some (.bind g a) := by
  cases od with
  | none => exact findObj_dataN hc ha hg ht
  | some o => exact findObj_data hc ha hg ht
theorem kin_classO {Q : Option Value → Shared → Prop} (hga : findIn K (.ref D) "__getattribute__" = some (some (.builtin "BaseException.__getattribute__"))) (hgt : findIn K (.ref D) "__getattr__" = some none) (hsub : subIn K (.ref D) (.type "BaseException") = some true)
    (hdct : hasDictIn K D = true) (ha : findIn K (.ref D) "__class__" = some (some (.builtin "object.__class__")))
    (hn : specialIn K (.builtin "object.__class__") "__get__" = some (some (.builtin "getset_descriptor.__get__"))) (htk : takesIn K (.builtin "object.__class__") = some true) (hm : mroIn K D (.type "object") = some true)
    (X : K.In s.heap) (I : InstAt s.heap x ox D od) (h : Q (some (.ref D)) { s with toks := s.toks + 1 }) : wpAny (model prog w) A (getAttr? (.ref x) "__class__") Q E s := by
  have hf : findObj K D od "__class__" = some (.bind (.builtin "getset_descriptor.__get__") (.builtin "object.__class__")) := findObj_dataO (by obtain ⟨cd, hc, _⟩ := any_some hdct; rw [hc]; rfl) ha hn htk
  obtain ⟨hp, g, d, t, os⟩ := s
  have L0 := I.type (M := model prog w)
  have L1 := looks_findIn (M := model prog w) X hga
  have L2 := looks_findIn (M := model prog w) X hgt
  have L3 := looks_find (M := model prog w) X I hf
  have sub : Looks (model prog w) hp (isInstance (.ref x) (.type "BaseException")) true := L0.andThen (looks_subIn X hsub)
  have hx0 : (false && onTheHeap (Value.builtin "BaseException.__getattribute__")) = false := rfl
  have hx2 : (Value.builtin "BaseException.__getattribute__" == Value.builtin "object.__getattribute__") = false := by decide +kernel
  have hx1 : (onTheHeap (Value.ref D) && Value.builtin "BaseException.__getattribute__" == Value.builtin "object.__getattribute__") = false := by rw [hx2]; rfl
  unfold getAttr? getAttrBy? getAttrBy
  refine wpAny_bind (wpAny_mkText (wpAny_bind (wpAny_attempt (wpAny_holding (wpAny_bind (L0.at (wpAny_bind (L1.at ?_))))))))
  show wpAny _ _ (if (onTheHeap (Value.ref D) && Value.builtin "BaseException.__getattribute__" == Value.builtin "object.__getattribute__") = true then _ else _) _ _ _
  rw [hx1, if_neg Bool.false_ne_true]
  unfold getAttrByItsOwn hookBefore
  refine wpAny_bind ?_
  rw [if_pos (show onTheHeap (Value.ref D) = true from rfl)]
  refine L2.at ?_
  refine wpAny_bind (wpAny_attempt (wpAny_holding ?_))
  unfold callGetattribute
  rw [hx0, if_neg Bool.false_ne_true]
  unfold boundAndCalled
  rw [PySem.F.excAttr_ValueError.ga.bind (.ref x)]
  refine wpAny_bind (wpAny_pure ?_)
  show wpAny _ _ (call (.builtin "BaseException.__getattribute__") [.ref x, .str "__class__" t]) _ _ _
  refine wpAny_call (codeAny_call_builtin PySem.F.excAttr_ValueError.ga.plain PySem.F.entry_bexc_ga ?_)
  refine @check_slot (model prog w) _ _ ⟨hp, g, d, t + 1, os⟩ "BaseException.__getattribute__" "BaseException" "__getattribute__" (.ref x) [.str "__class__" t] [] _ (by decide +kernel) (by decide +kernel) sub (PySem.F.args_bexc_ga (.ref x) (.str "__class__" t)) ?_
  unfold Builtin.«object.__getattribute__»
  refine wpAny_bind (wpAny_of_eq (a := ((Value.ref x : Value), [Value.str "__class__" t])) (by first | rfl | (simp only [slotArgs]; rfl)) ?_)
  refine wpAny_bind (wpAny_pure (wpAny_bind (L0.at (wpAny_bind (L3.at ?_)))))
  show wpAny _ _ (holding [Value.builtin "object.__class__"] (call (.builtin "getset_descriptor.__get__") [.builtin "object.__class__", .ref x, .ref D]) >>= ret) _ _ _
  refine wpAny_bind (wpAny_holding (wpAny_call (class_get (s := ⟨hp, g, d, t + 1, os⟩) (ox := ox) (od := od) X I hm ?_)))
  refine wpAny_pure ?_
  show wpAny _ _ (handedOut (.ref D)) _ _ _
  rw [handedOut_of (v := .ref D) rfl]
  first
    | exact wpAny_pure (wpAny_pure h)
    | exact wpAny_pure h
    | exact wpAny_pure (wpAny_bind (wpAny_pure (wpAny_pure h)))
theorem kitx_excO (C : ExcC K D) : KitX K (.ref x) (.ref D) (fun h => InstAt h x ox D od) where
  ty := fun _ _ _ I => I.type
  it := fun _ _ X _ => by
    obtain ⟨cdD, hcD, _⟩ := any_some C.hd
    unfold clsIn at hcD
    split at hcD
    · rename_i c' d' cd' sl' ho
      intro A' Q' E' s' k q
      unfold isType loadHead
      exact wpAny_bind (wpAny_loadPart (k _ _ (X _ _ ho)) (wpAny_pure q))
    · cases hcD
  ne := fun h tp dd its n sl X htp => by
    obtain ⟨cdD, hcD, _⟩ := any_some C.hd
    refine Bool.eq_false_iff.mpr fun q => ?_
    have e : D = tp := Value.ref.inj (beq_iff_eq.mp q)
    subst e
    unfold clsIn at hcD
    split at hcD
    · rename_i c' d' cd' sl' ho
      have z := (X _ _ ho).symm.trans htp
      cases z
    · cases hcD
  ca := fun X I k => kin_classO C.hg C.hk C.hs C.hd C.ha C.hn C.ht C.hm X I k
end

/-! ### the caught error in its suite -/
def rIsO (K : Frag) (a : Addr) (cls : Value) (d : Option Addr) : List V → Hp → VK → Prop := fun xs H Q => ∃ (D : Addr) (c : V) (cv : Value) (b : Bool), cls = .ref D ∧ ExcC K D ∧ xs = [.ref a, c] ∧ (∀ u, RelV c u → u = cv) ∧ (d = none ∨ ∃ dd fs, d = some dd ∧ H dd = some (.xd fs)) ∧ kitOne K (.ref D) cv = some b ∧ Q (.bl b) H
theorem call_isO {X : Cx} {a : Addr} {cls : Value} {d : Option Addr} {oe : Obj} {pn : List (Addr × Obj)} (hz : Zc cls d oe) (hf : ∃ vs, oe.data = .fields vs) : CallR (X.suite a ((a, oe) :: pn)) (.builtin "isinstance") (rIsO X.K a cls d) := by
  intro pins s σ H xs us Q I r h
  obtain ⟨D, c, cv, b, rfl, C, rfl, hcv, hd, e, q⟩ := h
  cases r with
  | cons rx rr =>
    cases rr with
    | cons rt rr =>
      cases rr
      cases rx
      have ec := hcv _ rt
      subst ec
      obtain ⟨hget, _⟩ := I.pin (a, oe) (List.mem_append.mpr (.inl List.mem_cons_self))
      obtain ⟨vs, hv⟩ := hf
      have J : ∃ od, InstAt s.heap a oe D od := by
        have n1 : notCls oe := by unfold notCls; rw [hv] <;> rfl
        rcases hd with hd | ⟨dd, fs, hd, hx⟩
        · subst hd
          exact ⟨none, hget, hz.1, n1, by rw [hz.2]; trivial⟩
        · subst hd
          have hx : ObjOk X.prog X.w H s.heap dd (.xd fs) := I.hok dd _ hx
          obtain ⟨mA, hns, hr⟩ := hx
          obtain ⟨od, ho, hl⟩ := lookIn_ns hns
          exact ⟨some od, hget, hz.1, n1, by rw [hz.2]; exact ho⟩
      obtain ⟨od, J⟩ := J
      exact kia_one (kitx_excO (od := od) C) I.kIn J e (fun z => nomatch z) fun tk => ⟨.bl b, H, I.kept (t' := tk) fun _ _ z => z, rfl, q⟩
/-- a the caught exception, cls its class, d its dict -/
def tXfO (K : Frag) (a : Addr) (cls : Value) (d : Option Addr) (f : Str) (te : TE) : TE := fun σ H Q => te σ H fun x H1 => x = .ref a ∧ ∃ C, cls = .ref C ∧ XfC K C ∧ findIn K (.ref C) f = some none ∧ ∃ (dd : Addr) (fs : List (Str × V)) (v : V), d = some dd ∧ H1 dd = some (.xd fs) ∧ fs.lookup f = some v ∧ Q v H1
theorem pe_xfO {X : Cx} {a : Addr} {oe : Obj} {cls : Value} {d : Option Addr} {pn : List (Addr × Obj)} {e : Expr} {te : TE} {pos : Pos} {n : Str} (hz : Zc cls d oe) (hf : ∃ vs, oe.data = .fields vs) (he : PE (X.suite a ((a, oe) :: pn)) e te) (hb : attributeBase e n X.env (eval e X.env) = eval e X.env) :
    PE (X.suite a ((a, oe) :: pn)) (.Attribute e n pos) (tXfO X.K a cls d n te) := by
  refine ⟨fun pins s σ H Q I h => ?_⟩
  refine attr_of hb (thn (he.run pins s σ H _ I h) fun u s1 hh => ?_)
  obtain ⟨x, H1, I1, rx, ex, C, ec, T, hno, dd, fs, v, ed, ea, l, q⟩ := hh
  subst ex
  obtain rfl : u = Value.ref a := rx
  subst ec
  subst ed
  obtain ⟨ha, _⟩ := I1.pin (a, oe) (List.mem_append_left _ List.mem_cons_self)
  obtain ⟨vs, hd⟩ := hf
  have hx : ObjOk X.prog X.w H1 s1.heap dd (.xd fs) := I1.hok dd _ ea
  obtain ⟨mA, hns, hr⟩ := hx
  obtain ⟨od, ho, hl⟩ := lookIn_ns hns
  obtain ⟨u, hu, ru⟩ := RelO.some_of (v := v) (o := mA n) (by rw [← l]; exact hr n)
  have J : InstAt s1.heap a oe C (some od) := ⟨ha, hz.1, by unfold notCls; rw [hd] <;> rfl, by rw [hz.2]; exact ho⟩
  exact HandSPX.exc_get I1.kIn J T.ga T.gg T.exC (findObj_own T.hdC hno rfl (by rw [hl, hu])) (handed_of ru) ⟨v, H1, I1.tok _, ru, q⟩

/-- while the exception at a of the class c is held -/
abbrev Gam.hold (Γ : Gam) (a : Addr) (c : Str) (d : Option Addr) : Gam := { Γ with ex := [(a, c, d)] }
/-- what isinstance(e, T) says, by e's class -/
def IsEX (Γ : Gam) (tbl : List (Str × Bool)) (tv : Value) : Prop := ∀ c b, tbl.lookup c = some b → kitOne Γ.K (.ref (Γ.cl c)) tv = some b ∧ ExcC Γ.K (Γ.cl c)
def fIsE (tbl : List (Str × Bool)) : D → Sto → Rt
  | .obj n, st => match st[n]? with
    | some (.exc true c _) => match tbl.lookup c with
      | some b => okD (.bl b) st
      | none => none
    | _ => none
  | _, _ => none
theorem mono_fIsE {tbl : List (Str × Bool)} : MonoF (fIsE tbl) := by
  intro d st r st' h
  unfold fIsE at h
  repeat' (split at h)
  all_goals first | exact mono_ok h | cases h
def fXf (cs : List Str) (f : Str) : D → Sto → Rt
  | .obj n, st => match st[n]? with
    | some (.exc true c fs) => if cs.contains c then match fs.lookup f with | some d => okD d st | none => none else none
    | _ => none
  | _, _ => none
theorem mono_fXf {cs : List Str} {f : Str} : MonoF (fXf cs f) := by
  intro d st r st' h
  unfold fXf at h
  repeat' (split at h)
  all_goals first | exact mono_ok h | cases h
def XfX (Γ : Gam) (cs : List Str) (f : Str) : Prop := ∀ c, cs.contains c = true → XfC Γ.K (Γ.cl c) ∧ findIn Γ.K (.ref (Γ.cl c)) f = some none
section
variable {X : Cx} {Γ : Gam} {W : WX} {e a b o : Expr} {da db dc de : De} {pos pos' p p2 : Pos} {es rest : List Expr} {das : List De} {at_ : Addr} {c : Str} {d : Option Addr} {oe : Obj} {pn : List (Addr × Obj)}
theorem held {m : Nat → Addr} {st : Sto} {H : Hp} {n : Nat} {c' : Str} {fs : List (Str × D)} (s : StR (Γ.hold at_ c d) m st H) (h : st[n]? = some (.exc true c' fs)) : m n = at_ ∧ c' = c ∧ ExcR Γ m st.length H fs d := by
  obtain ⟨d', h1, h2⟩ := s.cell n _ h
  have e : (m n, c', d') = (at_, c, d) := by
    have z : (m n, c', d') ∈ [(at_, c, d)] := h1
    exact List.mem_singleton.mp z
  injection e with e1 e
  injection e with e2 e3
  subst e2 e3
  exact ⟨e1, rfl, h2⟩
theorem excR_d {m : Nat → Addr} {L : Nat} {H : Hp} {fs : List (Str × D)} (h : ExcR Γ m L H fs d) : d = none ∨ ∃ dd fs, d = some dd ∧ H dd = some (.xd fs) := by
  rcases h with ⟨_, h⟩ | ⟨_, a, vs, h1, h2, _⟩
  · exact .inl h
  · exact .inr ⟨a, vs, h1, h2⟩
theorem sim_isE {tbl : List (Str × Bool)} {T : Str} {cv : V} {tv : Value} (hz : Zc (.ref (Γ.cl c)) d oe) (hf : ∃ vs, oe.data = .fields vs) (hK : X.K = Γ.K) (hg : Gl X "isinstance") (hm : X.mg "isinstance" = none) (hT : PE (X.suite at_ ((at_, oe) :: pn)) (.Name T p2) (tC cv)) (hcv : ∀ u, RelV cv u → u = tv) (hx : IsEX Γ tbl tv)
    (ha : Sim (X.suite at_ ((at_, oe) :: pn)) (Γ.hold at_ c d) W a da) (he : starEach [a, .Name T p2] X.env = (false, eval a X.env) :: starEach [.Name T p2] X.env) (he2 : starEach [.Name T p2] X.env = (false, eval (.Name T p2) X.env) :: starEach [] X.env) (hpl : (backTo pos (starEach [.Name T p2] X.env)).any (·.1) = false) :
    Sim (X.suite at_ ((at_, oe) :: pn)) (Γ.hold at_ c d) W (.Call (.Name "isinstance" p) [a, .Name T p2] [] pos) (dUn (fIsE tbl) da) := by
  refine ⟨mono_un ha.mono mono_fIsE, (pe_callB (call_isO hz hf) hg hm boot_isinstance (pa_cons ha.pe (pa_cons hT pa_nil he2) he) (by decide) (by decide) he hpl).imp fun σ H Q ⟨m, ls, st, s, l, h⟩ => ?_⟩
  obtain ⟨m0, ls0, st0, s0, l0, q0⟩ := tD_bind ha.mono s l mono_fIsE h
  refine ⟨m0, ls0, st0, s0, l0, q0.imp fun v H1 ⟨m1, dd, st1, s1, l1, r1, q1, _⟩ => ?_⟩
  match dd, r1, q1 with
  | .obj n, .obj _, q1 =>
    dsimp only [fIsE] at q1
    split at q1
    · rename_i c' fs e
      split at q1
      · rename_i k ek
        obtain ⟨e1, e2, e3⟩ := held s1 e
        subst e2
        obtain ⟨h1, h2⟩ := hx _ _ ek
        exact ⟨_, cv, tv, k, rfl, by rw [hK]; exact h2, by rw [e1], hcv, excR_d e3, by rw [hK]; exact h1, q1.ok s1 (.bl k)⟩
      · exact q1.elim
    · exact q1.elim
theorem sim_xf {cs : List Str} {f : Str} (hz : Zc (.ref (Γ.cl c)) d oe) (hf : ∃ vs, oe.data = .fields vs) (hK : X.K = Γ.K) (hx : XfX Γ cs f) (ha : Sim (X.suite at_ ((at_, oe) :: pn)) (Γ.hold at_ c d) W a da) (hb : attributeBase a f X.env (eval a X.env) = eval a X.env) :
    Sim (X.suite at_ ((at_, oe) :: pn)) (Γ.hold at_ c d) W (.Attribute a f pos) (dUn (fXf cs f) da) := by
  refine ⟨mono_un ha.mono mono_fXf, (pe_xfO hz hf ha.pe hb).imp fun σ H Q ⟨m, ls, st, s, l, h⟩ => ?_⟩
  obtain ⟨m0, ls0, st0, s0, l0, q0⟩ := tD_bind ha.mono s l mono_fXf h
  refine ⟨m0, ls0, st0, s0, l0, q0.imp fun v H1 ⟨m1, dd, st1, s1, l1, r1, q1, _⟩ => ?_⟩
  match dd, r1, q1 with
  | .obj n, .obj _, q1 =>
    dsimp only [fXf] at q1
    split at q1
    · rename_i c' fs e
      split at q1
      · rename_i hcs
        split at q1
        · rename_i d' ed
          obtain ⟨e1, e2, e3⟩ := held s1 e
          subst e2
          obtain ⟨h1, h2⟩ := hx _ hcs
          rcases e3 with ⟨z, _⟩ | ⟨_, a0, vs, z1, z2, z3⟩
          · rw [z] at ed
            cases ed
          · obtain ⟨v, hv, rv⟩ := FsR.look (Γ := Γ) z3 ed
            exact ⟨by rw [e1], _, rfl, by rw [hK]; exact h1, by rw [hK]; exact h2, a0, vs, v, z1, z2, hv, q1.ok s1 rv⟩
        · exact q1.elim
      · exact q1.elim
    · exact q1.elim
end

/-! ### try: .. except T as e: .. -/
def Cell.dead : Cell → Cell
  | .exc _ c fs => .exc false c fs
  | c => c
/-- behind the suite: slot i is free again, the exception is held no more -/
def endTry (i : Nat) : Rss → Rss
  | some (.next, ls, st) => some (.next, ls.set i none, st.map Cell.dead)
  | some (.brk, ls, st) => some (.brk, ls.set i none, st.map Cell.dead)
  | some (.cont, ls, st) => some (.cont, ls.set i none, st.map Cell.dead)
  | some (.ret d, ls, st) => some (.ret d, ls, st.map Cell.dead)
  | _ => none
def dTryAs (tbl : List (Str × Bool)) (i : Nat) (db dsu : Ds) : Ds := fun ls st => match db ls st with
  | some (.exc c fs, ls1, st1) => match tbl.lookup c with
    | some true => endTry i (dsu (ls1.set i (some (.obj st1.length))) (st1 ++ [.exc true c fs]))
    | some false => some (.exc c fs, ls1, st1)
    | none => none
  | r => r
theorem endTry_mono {i : Nat} {r : Rss} {n : Nat} (h : ∀ a l st', r = some (a, l, st') → n ≤ st'.length) : ∀ a l st', endTry i r = some (a, l, st') → n ≤ st'.length := fun a l st' q => by
  match r, h, q with
  | some (.next, l, st), h, q => cases q; rw [List.length_map]; exact h _ _ _ rfl
  | some (.brk, l, st), h, q => cases q; rw [List.length_map]; exact h _ _ _ rfl
  | some (.cont, l, st), h, q => cases q; rw [List.length_map]; exact h _ _ _ rfl
  | some (.ret d, l, st), h, q => cases q; rw [List.length_map]; exact h _ _ _ rfl
  | some (.exc c fs, l, st), h, q => cases q
  | none, h, q => cases q
theorem mono_tryAs {tbl : List (Str × Bool)} {i : Nat} {db dsu : Ds} (hb : MonoS db) (hs : MonoS dsu) : MonoS (dTryAs tbl i db dsu) := fun ls st a l st' h => by
  unfold dTryAs at h
  split at h
  · rename_i c fs ls1 st1 e
    have h1 := hb _ _ _ _ _ e
    split at h
    · have z := endTry_mono (fun a l st' q => hs _ _ a l st' q) _ _ _ h
      rw [List.length_append] at z
      exact Nat.le_trans h1 (Nat.le_trans (Nat.le_add_right _ _) z)
    · cases h
      exact h1
    · cases h
  · exact hb _ _ _ _ _ h
section
variable {Γ : Gam} {m : Nat → Addr} {st : Sto} {H : Hp} {at_ : Addr} {c : Str} {d : Option Addr}
theorem StR.dead (s : StR (Γ.hold at_ c d) m st H) : StR Γ m (st.map Cell.dead) H := by
  have old : ∀ {n : Nat} {k : Cell}, (st.map Cell.dead)[n]? = some k → ∃ k', st[n]? = some k' ∧ k = k'.dead := fun {n k} h => by
    rw [List.getElem?_map] at h
    cases e : st[n]? with
    | none => rw [e] at h; cases h
    | some k' => rw [e] at h; exact ⟨k', rfl, (Option.some.inj h).symm⟩
  have mt : ∀ {k : Cell}, k.dead.mut = true → k.mut = true := fun {k} h => by
    cases k <;> first | exact h | cases h
  refine ⟨fun n k h => ?_, fun i j k k' hi hj h1 h2 q => ?_, s.tabs⟩
  · obtain ⟨k', e, rfl⟩ := old h
    have z := s.cell n k' e
    rw [List.length_map]
    match k', z with
    | .lst true l, z => exact z
    | .lst false l, z => exact z
    | .ins c fs, z => exact z
    | .dct _, z => exact z
    | .rng _ _ _, z => exact z
    | .dki _, z => exact z
    | .exc _ c fs, _ => exact trivial
  · obtain ⟨k1, e1, rfl⟩ := old hi
    obtain ⟨k2, e2, rfl⟩ := old hj
    exact s.inj i j k1 k2 e1 e2 (mt h1) (mt h2) q
theorem StR.hold_ex (hex : Γ.ex = []) (s : StR Γ m st H) {fs : List (Str × D)} (hx : ExcR Γ m st.length H fs d) : StR (Γ.hold at_ c d) (extM m st.length at_) (st ++ [.exc true c fs]) H := by
  have hl : (st ++ [Cell.exc true c fs]).length = st.length + 1 := by rw [List.length_append, List.length_singleton]
  have e : Ext m st.length (extM m st.length at_) := extM_ext
  refine ⟨fun n k h => ?_, fun i j k k' hi hj h1 h2 q => ?_, s.tabs⟩
  · rw [hl]
    rcases get_snoc h with ⟨hn, h'⟩ | ⟨hn, h'⟩
    · rw [extM_old (Nat.ne_of_lt hn)]
      have z := (s.cell n k h').mono (L' := st.length + 1) e (Nat.le_succ _) (Keep.refl H) fun o q => q
      match k, z with
      | .lst true l, z => exact z
      | .lst false l, z => exact z
      | .ins c fs, z => exact z
      | .dct _, z => exact z
      | .rng _ _ _, z => exact z
      | .dki _, z => exact z
      | .exc false c fs, _ => exact trivial
      | .exc true c fs, ⟨d', z, _⟩ =>
        rw [hex] at z
        cases z
    · rw [hn, h', extM_new]
      exact ⟨d, List.mem_singleton.mpr rfl, hx.mono e (Nat.le_succ _) (Keep.refl H)⟩
  · rcases get_snoc hi with ⟨a1, b1⟩ | ⟨a1, b1⟩
    · rcases get_snoc hj with ⟨a2, b2⟩ | ⟨a2, b2⟩
      · rw [extM_old (Nat.ne_of_lt a1), extM_old (Nat.ne_of_lt a2)] at q
        exact s.inj i j k k' b1 b2 h1 h2 q
      · subst b2; cases h2
    · subst b1; cases h1
theorem LsR.setN {L : Nat} {ls : Ls} {σ : L2.St} (h : LsR Γ m L H ls σ) (i : Nat) (o : Option V) : LsR Γ m L H (ls.set i none) (σ.set i o) := by
  refine ⟨by rw [List.length_set, List.length_set, h.len], fun j e q => ?_⟩
  by_cases hj : i = j
  · subst hj
    have hi : i < ls.length := by
      by_cases c : i < ls.length
      · exact c
      · rw [List.getElem?_eq_none (by simpa using c)] at q
        cases q
    rw [List.getElem?_set_self hi] at q
    cases q
  · rw [List.getElem?_set_ne hj] at q
    obtain ⟨w, a, b⟩ := h.at_ j e q
    exact ⟨w, by rw [List.getElem?_set_ne hj]; exact a, b⟩
end

def ExmX (Γ : Gam) (tbl : List (Str × Bool)) (tv : Value) : Prop := ∀ c b, tbl.lookup c = some b → exmOne Γ.K (.ref (Γ.cl c)) tv = some b
section
variable {X : Cx} {Γ : Gam} {W : WX} {x n : Str} {tv : Value} {i : Nat} {body suite : List Stmt} {b₀ : Stmt} {np pos pos' : Pos} {db dsu : Ds} {tbl : List (Str × Bool)}
theorem tS_try (hex : Γ.ex = []) (hx : ExmX Γ tbl tv) (hK : X.K = Γ.K) (mb : MonoS db) (ms : MonoS dsu) {D : Ends} {σ : L2.St} {H : Hp} (h : tS Γ W (dTryAs tbl i db dsu) D σ H) :
    tS Γ (wAs X.K tv i (fun a cls d D σ H => ∃ c, cls = .ref (Γ.cl c) ∧ tS (Γ.hold a c d) WF dsu D σ H) W D) db D σ H := by
  obtain ⟨m, ls, st, s, l, h⟩ := h
  refine ⟨m, ls, st, s, l, ?_⟩
  unfold dTryAs at h
  have mb := fun a l st' q => mb ls st a l st' q
  match db ls st, h, mb with
  | some (.next, l1, st1), h, _ => exact h
  | some (.brk, l1, st1), h, _ => exact h
  | some (.cont, l1, st1), h, _ => exact h
  | some (.ret d, l1, st1), h, _ => exact h
  | some (.exc c fs, l1, st1), h, mb =>
    have hl := mb _ _ _ rfl
    refine ⟨hl, fun m1 H1 σ1 dd e1 k1 s1 ls1 x1 => ?_⟩
    dsimp only at h
    split at h
    · rename_i et
      refine ⟨true, by rw [hK]; exact hx _ _ et, fun _ a ha => ⟨c, rfl, ?_⟩, fun q => Bool.noConfusion q⟩
      have hl2 : (st1 ++ [Cell.exc true c fs]).length = st1.length + 1 := by rw [List.length_append, List.length_singleton]
      have e2 : Ext m1 st1.length (extM m1 st1.length a) := extM_ext
      have rv : Rv Γ.K (extM m1 st1.length a) (st1 ++ [Cell.exc true c fs]).length H1 (.obj st1.length) (.ref a) := by
        have z := Rv.obj (K := Γ.K) (m := extM m1 st1.length a) (H := H1) (n := st1.length) (L := (st1 ++ [Cell.exc true c fs]).length) (by rw [hl2]; exact Nat.lt_succ_self _)
        rw [extM_new] at z
        exact z
      refine ⟨extM m1 st1.length a, l1.set i (some (.obj st1.length)), st1 ++ [.exc true c fs], s1.hold_ex hex x1, ?_, ?_⟩
      · have z : LsR Γ (extM m1 st1.length a) (st1 ++ [Cell.exc true c fs]).length H1 l1 σ1 := ls1.mono e2 (by rw [hl2]; exact Nat.le_succ _) (Keep.refl _)
        have z := z.set i rv
        exact ⟨z.len, z.at_⟩
      · have ms := fun a l st' q => ms (l1.set i (some (.obj st1.length))) (st1 ++ [.exc true c fs]) a l st' q
        have ee : ∀ {m2 : Nat → Addr}, Ext (extM m1 st1.length a) (st1 ++ [Cell.exc true c fs]).length m2 → Ext m st.length m2 := fun {m2} q => (e1.trans e2 hl).trans q (by rw [hl2]; exact Nat.le_trans hl (Nat.le_succ _))
        show ResS (Γ.hold a c dd) (extM m1 st1.length a) (st1 ++ [Cell.exc true c fs]).length H1 (dsu (l1.set i (some (.obj st1.length))) (st1 ++ [.exc true c fs])) _ WF
        revert h ms
        generalize dsu (l1.set i (some (.obj st1.length))) (st1 ++ [Cell.exc true c fs]) = r3
        intro h ms
        match r3, h, ms with
        | some (.next, l3, st3), h, ms =>
          have h : ResS Γ m st.length H (some (.next, l3.set i none, st3.map Cell.dead)) D W := h
          exact ⟨ms _ _ _ rfl, fun m2 H2 σ2 q2 k2 s2 l2 => h.2 m2 H2 (σ2.set i none) (ee q2) (k1.trans k2) s2.dead (by rw [List.length_map]; exact LsR.setN (Γ := Γ) ⟨l2.len, l2.at_⟩ i none)⟩
        | some (.brk, l3, st3), h, ms =>
          have h : ResS Γ m st.length H (some (.brk, l3.set i none, st3.map Cell.dead)) D W := h
          exact ⟨ms _ _ _ rfl, fun m2 H2 σ2 q2 k2 s2 l2 => h.2 m2 H2 (σ2.set i none) (ee q2) (k1.trans k2) s2.dead (by rw [List.length_map]; exact LsR.setN (Γ := Γ) ⟨l2.len, l2.at_⟩ i none)⟩
        | some (.cont, l3, st3), h, ms =>
          have h : ResS Γ m st.length H (some (.cont, l3.set i none, st3.map Cell.dead)) D W := h
          exact ⟨ms _ _ _ rfl, fun m2 H2 σ2 q2 k2 s2 l2 => h.2 m2 H2 (σ2.set i none) (ee q2) (k1.trans k2) s2.dead (by rw [List.length_map]; exact LsR.setN (Γ := Γ) ⟨l2.len, l2.at_⟩ i none)⟩
        | some (.ret v, l3, st3), h, ms =>
          have h : ResS Γ m st.length H (some (.ret v, l3, st3.map Cell.dead)) D W := h
          exact ⟨ms _ _ _ rfl, fun m2 H2 v q2 k2 s2 r2 => h.2 m2 H2 v (ee q2) (k1.trans k2) s2.dead (by rw [List.length_map]; exact r2)⟩
        | some (.exc _ _, l3, st3), h, ms => exact h.elim
        | none, h, ms => exact h.elim
    · rename_i et
      exact ⟨false, by rw [hK]; exact hx _ _ et, fun q => Bool.noConfusion q, fun _ => h.2 m1 H1 σ1 dd e1 k1 s1 ls1 x1⟩
    · exact h.elim
theorem ss_tryAs (hs : X.stack = X.env :: X.outer) (hf : X.env.frame = some X.env.locals) (hex : Γ.ex = []) (hx : ExmX Γ tbl tv) (hK : X.K = Γ.K) (hN : X.N.Nodup) (hi : X.N[i]? = some n) (hln : X.env.kindOf n = some .local) (hc : Names X x tv) (tk : Takes X W) (hp : PassesOwn (model X.prog X.w) X.A X.env X.xe)
    (hb : ∀ (W : WX) (pn : List (Addr × Obj)) (xe : Value → Shared → Prop), Takes (X.tr pn xe) W → PassesOwn (model X.prog X.w) X.A X.env xe → SimB (X.tr pn xe) Γ W body db)
    (hsu : ∀ (a : Addr) (oe : Obj) (c : Str) (d : Option Addr) (pn : List (Addr × Obj)), Zc (.ref (Γ.cl c)) d oe → (∃ vs, oe.data = .fields vs) → SimB (X.suite a ((a, oe) :: pn)) (Γ.hold a c d) WF (b₀ :: suite) dsu) :
    SimS X Γ W (.Try body [.ExceptHandler (some (.Name x np)) (some n) (b₀ :: suite) pos'] [] [] pos) (dTryAs tbl i db dsu) := by
  have mb : MonoS db := (hb W X.pn X.xe tk hp).mono
  have ms : MonoS dsu := (hsu 0 { cls := .ref (Γ.cl Str.empty), dict := none, data := .fields #[] } Str.empty none [] ⟨rfl, rfl⟩ ⟨_, rfl⟩).mono
  refine ⟨mono_tryAs mb ms, (ps_try_as hs hf hN hi hln hc tk (tb := fun W => tS Γ W db) (ts := fun a cls d D σ H => ∃ c, cls = .ref (Γ.cl c) ∧ tS (Γ.hold a c d) WF dsu D σ H) (fun W pn xe t p => (hb W pn xe t p).ps) fun a oe cls d pn hz hv => ?_).imp fun D σ H h => tS_try hex hx hK mb ms h⟩
  refine ⟨fun pins s σ H D I ⟨c, ec, w⟩ => ?_⟩
  subst ec
  exact (hsu a oe c d pn hz hv).ps.run pins s σ H D I w
end
end MP
end
section
set_option maxRecDepth 100000
set_option maxHeartbeats 1000000
namespace MP
open PySem PySem.Spec PyProof.Rows L2 LamX

/-! ### a lambda handed to a def that calls it in a try -/
/-- def x(a): try: a() except e as n: suite; return None -- asked with a lambda that does r -/
def raisedD (tbl : List (Str × Bool)) (N i : Nat) (dsu : Ds) (r : Rt) : Rt := match r with
  | some (.ok _, st1) => okD .non st1
  | some (.exc c fs, st1) => match tbl.lookup c with
    | some true => match endTry i (dsu ((List.replicate N none).set i (some (.obj st1.length))) (st1 ++ [.exc true c fs])) with
      | some (.next, _, st2) => okD .non st2
      | some (.ret d, _, st2) => okD d st2
      | _ => none
    | _ => none
  | none => none
theorem raisedD_mono {tbl : List (Str × Bool)} {N i : Nat} {dsu : Ds} (ms : MonoS dsu) {r : Rt} {n : Nat} (h : ∀ a st', r = some (a, st') → n ≤ st'.length) : ∀ a st', raisedD tbl N i dsu r = some (a, st') → n ≤ st'.length := fun a st' q => by
  match r, h, q with
  | some (.ok _, st1), h, q =>
    cases q
    exact h _ _ rfl
  | some (.exc c fs, st1), h, q =>
    have h1 := h _ _ rfl
    unfold raisedD at q
    dsimp only at q
    split at q
    · have z := endTry_mono (i := i) (fun a l st' q => ms ((List.replicate N none).set i (some (.obj st1.length))) (st1 ++ [.exc true c fs]) a l st' q)
      rw [List.length_append] at z
      split at q
      · rename_i e
        cases q
        exact Nat.le_trans h1 (Nat.le_trans (Nat.le_add_right _ _) (z _ _ _ e))
      · rename_i e
        cases q
        exact Nat.le_trans h1 (Nat.le_trans (Nat.le_add_right _ _) (z _ _ _ e))
      · cases q
    · cases q
  | none, h, q => cases q
def TTr (Γ : Gam) (tbl : List (Str × Bool)) (N i : Nat) (dsu : Ds) (dbody : De) : (XK → Hp → VK → Prop) → Hp → VK → Prop := fun tl H Q =>
  ∃ m ls st σ0 E0, StR Γ m st H ∧ LsR Γ m st.length H ls σ0 ∧ (∀ E H' Q', tD Γ (fun c d _ H => E c d H) dbody σ0 H' Q' → tl E H' Q') ∧ Res Γ m st.length H (raisedD tbl N i dsu (dbody ls st)) Q E0
theorem LsR.blank {Γ : Gam} {m : Nat → Addr} {L : Nat} {H : Hp} {σ : L2.St} {N : Nat} (h : σ.length = N) : LsR Γ m L H (List.replicate N none) σ := ⟨by rw [List.length_replicate, h], fun i d q => by
  rw [List.getElem?_replicate] at q
  split at q <;> cases q⟩
section
variable {X : Cx} {Γ : Gam} {Ng : List Str} {x a e n q : Str} {sg : Scope} {g : Addr} {cdg tv : Value} {j i : Nat} {p1 p2 p3 p4 p5 p6 p7 p8 : Pos} {b₀ : Stmt} {suite : List Stmt} {tbl : List (Str × Bool)} {dsu : Ds} {dbody : De}
theorem raised_gives (hex : Γ.ex = []) (hx : ExmX Γ tbl tv) (hK : X.K = Γ.K) (ms : MonoS dsu) (mb : Mono dbody) (hN : Ng.Nodup) (hi : Ng[i]? = some n) (hln : sg.names.lookup n = some .local)
    (hc : sg.names.lookup e = some .globalImplicit) (hme : X.mg e = some tv) (hde : (e == ("__debug__" : Str)) = false) (h0 : ∀ f : Addr, (L2.start Ng [V.ref f])[0]? = some (some (V.ref f))) (hlen : ∀ f : Addr, (L2.start Ng [V.ref f]).length = Ng.length)
    (hsu : ∀ (s : Shared) (H : Hp) (a : Addr) (oe : Obj) (c : Str) (d : Option Addr) (pn : List (Addr × Obj)), Zc (.ref (Γ.cl c)) d oe → (∃ vs, oe.data = .fields vs) →
      SimB ((cxOf C8.CX0 X.prog X.w X.K X.mg X.base Ng x sg g cdg X.A X.stack s H C8.E0).nox.suite a ((a, oe) :: pn)) (Γ.hold a c d) WF (b₀ :: suite) dsu) :
    GivesTo X Ng x sg g cdg [.Try [.Expr (.Call (.Name a p1) [] [] p2) p3] [.ExceptHandler (some (.Name e p4)) (some n) (b₀ :: suite) p5] [] [] p6, .Return (some (.Constant .none j p7)) p8] a q (TTr Γ tbl Ng.length i dsu dbody) := by
  intro f c' s H Q tl act hco h
  have hgl : Gl (cxOf C8.CX0 X.prog X.w X.K X.mg X.base Ng x sg g cdg X.A X.stack s H C8.E0).nox e := hc
  refine ⟨_, pss_cons (ps_try_as (i := i) (X := (cxOf C8.CX0 X.prog X.w X.K X.mg X.base Ng x sg g cdg X.A X.stack s H C8.E0).nox) (c := tv)
      (tb := fun W D σ H => ∃ Ech : XK, (∀ cls d σ' H', Ech cls d H' → W cls d σ' H') ∧ σ[0]? = some (some (.ref f)) ∧ H c' = some (CodeO c' q) ∧ tl Ech H (fun _ H' => D.nx σ H'))
      (ts := fun a cls d D σ H => σ.length = Ng.length → ∃ c, cls = .ref (Γ.cl c) ∧ tS (Γ.hold a c d) WF dsu D σ H)
      rfl rfl hN hi hln ⟨hgl, hde, .inl hme⟩ LamX.takes0 (fun W pn xe tk _ => ?_) (fun a oe cls d pn hz hv => ?_)) (pss_one (ps_ret pe_non)), ?_⟩
  · refine ⟨fun pins s' σ H' D I h' => ?_⟩
    obtain ⟨Ech, hW, h1, h2, h3⟩ := h'
    have hp := act W pn xe Ech p1 p2 tk hW
    have hq := pss_one (ps_expr (pos := p3) hp rfl)
    exact hq.run pins s' σ H' D I ⟨h1, h2, h3⟩
  · refine ⟨fun pins s σ H D I w => ?_⟩
    obtain ⟨c, ec, w2⟩ := w I.len
    subst ec
    exact (hsu _ _ a oe c d pn hz hv).ps.run pins s σ H D I w2
  · obtain ⟨m, ls, st, σ0, E0, sr, lr, htl, h⟩ := h
    refine ⟨fun cls d H' => ∃ b, PySem.W.exmOne X.K cls tv = some b ∧ (b = true → ∀ a, H' a = none → ∀ σ' : L2.St, σ'.length = Ng.length → ∃ c, cls = .ref (Γ.cl c) ∧
        tS (Γ.hold a c d) WF dsu { nx := fun _ H' => Q .non H', rt := Q, bk := fun _ _ => False, ct := fun _ _ => False } (σ'.set i (some (.ref a))) H') ∧ (b = false → False), fun cls d σ' H' ⟨b, e1, e2, e3⟩ => ⟨b, e1, fun hb a ha hl => ?_, fun hb => e3 hb⟩, h0 f, hco, ?_⟩
    · rw [List.length_set] at hl
      exact e2 hb a ha σ' hl
    · refine htl _ _ _ ⟨m, ls, st, sr, lr, ?_⟩
      have mb := fun a st' q => mb ls st a st' q
      match dbody ls st, h, mb with
      | some (.ok d, st1), h, mb => exact ⟨mb _ _ rfl, fun m1 H1 v e1 k1 s1 r1 => h.2 m1 H1 .non e1 k1 s1 .non⟩
      | some (.exc c fs, st1), h, mb =>
        have hl := mb _ _ rfl
        refine ⟨hl, fun m1 H1 dd e1 k1 s1 x1 => ?_⟩
        unfold raisedD at h
        dsimp only at h
        split at h
        · rename_i et
          refine ⟨true, by rw [hK]; exact hx _ _ et, fun _ a ha σ' hl' => ⟨c, rfl, ?_⟩, fun q => Bool.noConfusion q⟩
          have hl2 : (st1 ++ [Cell.exc true c fs]).length = st1.length + 1 := by rw [List.length_append, List.length_singleton]
          have e2 : Ext m1 st1.length (extM m1 st1.length a) := extM_ext
          have rv : Rv Γ.K (extM m1 st1.length a) (st1 ++ [Cell.exc true c fs]).length H1 (.obj st1.length) (.ref a) := by
            have z := Rv.obj (K := Γ.K) (m := extM m1 st1.length a) (H := H1) (n := st1.length) (L := (st1 ++ [Cell.exc true c fs]).length) (by rw [hl2]; exact Nat.lt_succ_self _)
            rw [extM_new] at z
            exact z
          refine ⟨extM m1 st1.length a, (List.replicate Ng.length none).set i (some (.obj st1.length)), st1 ++ [.exc true c fs], s1.hold_ex hex x1, ?_, ?_⟩
          · have z : LsR Γ (extM m1 st1.length a) (st1 ++ [Cell.exc true c fs]).length H1 (List.replicate Ng.length none) σ' := .blank hl'
            have z := z.set i rv
            exact ⟨z.len, z.at_⟩
          · have ms := fun a l st' q => ms ((List.replicate Ng.length none).set i (some (.obj st1.length))) (st1 ++ [.exc true c fs]) a l st' q
            have ee : ∀ {m2 : Nat → Addr}, Ext (extM m1 st1.length a) (st1 ++ [Cell.exc true c fs]).length m2 → Ext m st.length m2 := fun {m2} q => (e1.trans e2 hl).trans q (by rw [hl2]; exact Nat.le_trans hl (Nat.le_succ _))
            show ResS (Γ.hold a c dd) (extM m1 st1.length a) (st1 ++ [Cell.exc true c fs]).length H1 (dsu ((List.replicate Ng.length none).set i (some (.obj st1.length))) (st1 ++ [.exc true c fs])) _ WF
            revert h ms
            generalize dsu ((List.replicate Ng.length none).set i (some (.obj st1.length))) (st1 ++ [Cell.exc true c fs]) = r3
            intro h ms
            match r3, h, ms with
            | some (.next, l3, st3), h, ms =>
              have h : Res Γ m st.length H (okD .non (st3.map Cell.dead)) Q E0 := h
              exact ⟨ms _ _ _ rfl, fun m2 H2 σ2 q2 k2 s2 l2 => h.2 m2 H2 .non (ee q2) (k1.trans k2) s2.dead .non⟩
            | some (.brk, l3, st3), h, ms => exact h.elim
            | some (.cont, l3, st3), h, ms => exact h.elim
            | some (.ret v, l3, st3), h, ms =>
              have h : Res Γ m st.length H (okD v (st3.map Cell.dead)) Q E0 := h
              exact ⟨ms _ _ _ rfl, fun m2 H2 v q2 k2 s2 r2 => h.2 m2 H2 v (ee q2) (k1.trans k2) s2.dead (by rw [List.length_map]; exact r2)⟩
            | some (.exc _ _, l3, st3), h, ms => exact h.elim
            | none, h, ms => exact h.elim
        · exact h.elim
end

theorem StR.extN {Γ : Gam} {m : Nat → Addr} {st : Sto} {H H1 : Hp} (s : StR Γ m st H) (e : ExtN H H1) (t : Tabs Γ.T H1) : Keep H H1 ∧ StR Γ m st H1 := by
  have k : Keep H H1 := ⟨fun b xs h => e b _ h (fun ps z => by cases z), fun b o u h => e b _ h (fun ps z => by cases z), fun b vs h => e b _ h (fun ps z => by cases z)⟩
  refine ⟨k, ⟨fun n c h => ?_, s.inj, t⟩⟩
  have z := s.cell n c h
  match c, z with
  | .lst true l, ⟨vs, h, r⟩ => exact ⟨vs, k.roL h, r.mono (Ext.refl _ _) (Nat.le_refl _) k⟩
  | .lst false l, ⟨vs, h, r⟩ => exact ⟨vs, e _ _ h (fun ps z => by cases z), r.mono (Ext.refl _ _) (Nat.le_refl _) k⟩
  | .ins c fs, ⟨dx, vs, h, r⟩ => exact ⟨dx, vs, e _ _ h (fun ps z => by cases z), FsR.mono (Γ := Γ) (Ext.refl _ _) (Nat.le_refl _) k r⟩
  | .exc true c fs, ⟨d, h, r⟩ => exact ⟨d, h, r.mono (Ext.refl _ _) (Nat.le_refl _) k⟩
  | .exc false _ _, _ => exact trivial
  | .dct ps, ⟨qs, h, r⟩ => exact ⟨qs, e _ _ h (fun ps z => by cases z), r.mono (Ext.refl _ _) (Nat.le_refl _) k⟩
  | .rng _ _ _, h => exact e _ _ h (fun ps z => by cases z)
  | .dki _, h => exact e _ _ h (fun ps z => by cases z)
/-- x(lambda: body), x such a def -/
def dRaised (tbl : List (Str × Bool)) (N i : Nat) (dsu : Ds) (dbody : De) : De := fun ls st => raisedD tbl N i dsu (dbody ls st)
theorem mono_raised {tbl : List (Str × Bool)} {N i : Nat} {dsu : Ds} {dbody : De} (ms : MonoS dsu) (mb : Mono dbody) : Mono (dRaised tbl N i dsu dbody) := fun ls st r st' h => raisedD_mono ms (fun a s z => mb ls st a s z) r st' h
section
variable {X : Cx} {Γ : Gam} {W : WX} {Ng : List Str} {x a e n : Str} {st : Stmt} {tv : Value} {c P : Addr} {j i k : Nat} {p1 p2 p3 p4 p5 p6 p7 p8 p lpos pos : Pos} {b₀ : Stmt} {suite : List Stmt} {tbl : List (Str × Bool)} {dsu : Ds} {dbody : De} {params : Arguments} {body : Expr} {scope : Scope}
theorem sim_raised (F : FunX Γ.K X.mg x st [a]) (Sg : FnScope Ng [a] (defScope st)) (hbg : defBody st = [.Try [.Expr (.Call (.Name a p1) [] [] p2) p3] [.ExceptHandler (some (.Name e p4)) (some n) (b₀ :: suite) p5] [] [] p6, .Return (some (.Constant .none j p7)) p8])
    (hex : Γ.ex = []) (hx : ExmX Γ tbl tv) (hK : X.K = Γ.K) (hN0 : Ng[0]? = some a) (hva : Vis (defScope st) a) (hi : Ng[i]? = some n) (hln : (defScope st).names.lookup n = some .local) (hc : (defScope st).names.lookup e = some .globalImplicit) (hme : X.mg e = some tv)
    (hde : (e == ("__debug__" : Str)) = false) (hda : (a == ("__debug__" : Str)) = false) (hca : (a == ("__classdict__" : Str)) = false) (h0 : ∀ f : Addr, (L2.start Ng [V.ref f])[0]? = some (some (V.ref f))) (hlen : ∀ f : Addr, (L2.start Ng [V.ref f]).length = Ng.length)
    (ms : MonoS dsu)
    (hsu : ∀ (g : Addr) (cdg : Value) (A : Around) (outer : List Env) (s : Shared) (H : Hp) (a : Addr) (oe : Obj) (c : Str) (d : Option Addr) (pn : List (Addr × Obj)), Room 1 (A.deeper (envOfC x (defScope st) s.heap.objs.size g cdg)) → Zc (.ref (Γ.cl c)) d oe → (∃ vs, oe.data = .fields vs) →
      SimB ((cxOf C8.CX0 X.prog X.w X.K X.mg X.base Ng x (defScope st) g cdg A outer s H C8.E0).nox.suite a ((a, oe) :: pn)) (Γ.hold a c d) WF (b₀ :: suite) dsu)
    (hg : Gl X x) (hdx : (x == ("__debug__" : Str)) = false) (TB : TabB X.base X.mg c P) (hcode : X.env.code = .ref c) (hmT : (P, X.env.qual ++ "<lambda>") ∈ Γ.T) (hu : ∀ p ∈ Γ.T, p.1 = P → p.2 = X.env.qual ++ "<lambda>") (hr : Room (k + 2) X.A) (L : LamS X.env.scope scope) (hdef : defaultsOf params X.env = ([], []))
    (hbind : ∀ (q : Str) (cl : List (Str × Addr)) (pm cv ctv : Value), bindArgs (PySem.W.kla_fn "<lambda>" q params body scope cl pm cv ctv) ⟨[], []⟩ = pure [])
    (hbody : ∀ (A : Around) (outer : List Env) (s : Shared) (H : Hp) (E : XK) (f c' : Addr), Room k (A.deeper (lamEnv X scope s.heap.objs.size f c')) → Sim (lamCx X A outer s H E scope f c') Γ (fun c d _ H' => E c d H') body dbody) (hk : k ≤ 100 := by decide) :
    Sim X Γ W (.Call (.Name x p) [.Lambda params body scope lpos] [] pos) (dRaised tbl Ng.length i dsu dbody) := by
  have mb : Mono dbody := (hbody callerA [] {} (fun _ => none) (fun _ _ _ => False) 0 0 (room_c hk _)).mono
  obtain ⟨g, fd, F, hm, b⟩ := F.ex
  have kp := F.kp
  obtain ⟨oc, od, kV, doc, pm, an, cdv, ct, osl, rfl, lk, hcd⟩ := F.ex
  rw [← hK] at kp lk hcd b
  rw [hbg] at lk b
  refine ⟨mono_raised ms mb, (pe_lamcall (T := Γ.T) (t := fun E => tD Γ (fun c d _ H => E c d H) dbody) (TT := TTr Γ tbl Ng.length i dsu dbody) hg hm kp lk hcd b Sg hN0 hva
    (raised_gives hex hx hK ms mb Sg.nd hi hln hc hme hde h0 hlen fun s H a oe c d pn hz hv => hsu g cdv X.A X.stack s H a oe c d pn ((hr.deeper _).mono (Nat.succ_le_succ (Nat.zero_le _))) hz hv) TB hcode hmT hu hr L hdef hbind (fun A outer s H E f c' h => (hbody A outer s H E f c' h).pe) hdx hda hca).imp fun σ H Q ⟨m, ls, st, s, l, h⟩ => ?_⟩
  refine ⟨s.tabs, fun H1 e T1 => ?_⟩
  obtain ⟨k1, s1⟩ := s.extN e T1
  exact ⟨m, ls, st, σ, _, s1, l.mono (Ext.refl _ _) (Nat.le_refl _) k1, fun E H' Q' z => z, Res.mono (r := raisedD tbl Ng.length i dsu (dbody ls st)) h (Ext.refl _ _) k1 (Nat.le_refl _) fun a st' q => mono_raised ms mb ls st a st' q⟩
end

theorem hx_lam {X : Cx} {A : Around} {outer : List Env} {s : Shared} {H : Hp} {E : XK} {scope : Scope} {f c' : Addr} :
    ∀ σ, PassesAt (L2.CX (lamCx X A outer s H E scope f c').prog (lamCx X A outer s H E scope f c').w) (lamCx X A outer s H E scope f c') σ (fun c d H' => (fun c d (_ : L2.St) H' => E c d H') c d σ H') := fun σ =>
  passAt (X := lamCx X A outer s H E scope f c') (W := fun c d _ H' => E c d H') (takes_of rfl rfl rfl rfl) σ
/-- the suite of the one except clause of the def's first statement -/
def suiteOf : List Stmt → List Stmt
  | .Try _ [.ExceptHandler _ _ b _] _ _ _ :: _ => b
  | _ => []
theorem type_list_count : typeOf (.builtin "list.count") = pure (.type "method_descriptor") := by kernel_rfl
theorem type_list_index : typeOf (.builtin "list.index") = pure (.type "method_descriptor") := by kernel_rfl
end MP
end
section
set_option maxRecDepth 100000
set_option maxHeartbeats 1000000
namespace PySem.W
open PySem PySem.Spec PySem.Calls PyProof.Rows
/-! ### x != y by an own __eq__; len(x) by an own __len__ -/
section
variable {prog : Program} {w : World} {A : Around} {E : Value → Shared → Prop} {s : Shared} {K : Frag} {x C f L : Addr} {h₀ : Heap} {m : Str → Option Value} {ox : Obj} {od : Option Obj} {b tb : Value}
theorem one_bind (self : Value) : bindSpecial (.builtin "object.__ne__") self = pure (.builtin "object.__ne__", [self]) := PySem.F.cmp_object.ne.bind self
theorem ifBound_B {M : Model} {args : List Value} {name : Str} {id : String} {Q : Option Value → Shared → Prop} (X : K.In s.heap) (I : InstAt s.heap x ox C od) (hs : findIn K (.ref C) name = some (some (.builtin id))) (hb : ∀ self, bindSpecial (.builtin id) self = pure (.builtin id, [self]))
    (h : wpAny M A (call (.builtin id) (.ref x :: args)) (fun v => Q (some v)) E s) : wpAny M A (callSpecialIfBound? (.ref x) name args) Q E s := by
  simp only [callSpecialIfBound?, bindSpecialIfBound?]
  refine wpAny_holding (wpAny_bind (wpAny_bind (wpAny_bind (I.type.here ((looks_findIn X hs).here ?_)))))
  simp only [hb]
  refine wpAny_bind (wpAny_askSetting (wpAny_ite ?_))
  have fin : wpAny M A (call (.builtin id) ([.ref x] ++ args) >>= fun v => pure (some v)) Q E s := wpAny_bind (wpAny_mono h (fun v s' h' => wpAny_pure h') fun _ _ h' => h')
  split
  · exact wpAny_bind (wpAny_pure (wpAny_pure (by exact fin)))
  · exact wpAny_tryCatch (wpAny_bind (wpAny_pure (wpAny_pure (by exact fin))))
theorem objNe_own {y : Value} {Q : Fin → Shared → Prop} (X : K.In s.heap) (I : InstAt s.heap x ox C od) (hu : A.units < cLine) (hs : findIn K (.ref C) "__eq__" = some (some (.ref f))) (hf : isFn K (.ref f) = true)
    (hcall : wpAny (model prog w) A (call (.ref f) [.ref x, y]) (fun v s' => ∃ b, v = .bool b ∧ Q (.done (.ret (.bool (!b)))) s') E s) :
    wpAny (model prog w) A (Builtin.«object.__ne__» ⟨[.ref x, y], []⟩) Q E s := by
  unfold Builtin.«object.__ne__»
  repeat (first
    | with_reducible refine wpAny_cRoomFor hu ?_
    | (refine wpAny_bind (m := callSpecialIfBound? (.ref x) (Str.ofString "__eq__") [y])
        (ifBound_K X I hs hf (wpAny_mono hcall (fun r s' hr => by
          obtain ⟨b, rfl, hq⟩ := hr
          repeat (first | exact hq | exact wpAny_pure hq | exact wpAny_truthy_bool hq | (refine wpAny_bind (m := truthy (.bool _)) (wpAny_truthy_bool ?_)) | wp_step)) fun _ _ e => e)))
    | wp_step)
theorem tryNe_own {y : Value} {Q : Option Value → Shared → Prop} (X : K.In s.heap) (I : InstAt s.heap x ox C od) (hu : A.units + 1 < cLine) (hn : findIn K (.ref C) "__ne__" = some (some (.builtin "object.__ne__"))) (ho : subIn K (.ref C) (.type "object") = some true)
    (hs : findIn K (.ref C) "__eq__" = some (some (.ref f))) (hf : isFn K (.ref f) = true)
    (hcall : wpAny (model prog w) A.in1 (call (.ref f) [.ref x, y]) (fun v s' => ∃ b, v = .bool b ∧ Q (some (.bool (!b))) s') E s) :
    wpAny (model prog w) A (tryCompare (.ref x) "__ne__" y) Q E s := by
  have sub : Looks (model prog w) s.heap (isInstance (.ref x) (.type "object")) true := (I.type (M := model prog w)).andThen (looks_subIn X ho)
  unfold tryCompare
  refine wpAny_bind (ifBound_B X I hn one_bind (wpAny_call (codeAny_call_builtin PySem.F.cmp_object.ne.plain PySem.F.cmpEntry_ne
    (check_slot PySem.F.cmpKind_ne PySem.F.cmpSplit_ne sub (PySem.F.cmpArgs_ne _ _) (objNe_own (A := A.in1) X I hu hs hf (wpAny_mono hcall (fun v s' hv => ?_) fun _ _ e => e))))))
  obtain ⟨b, rfl, hq⟩ := hv
  first | exact ⟨b, rfl, wpAny_pure hq⟩ | exact ⟨b, rfl, wpAny_pure (wpAny_pure hq)⟩ | exact ⟨b, rfl, hq⟩
theorem ne_K {Q : Value → Shared → Prop} (hu : A.units + 1 < cLine) (F : Fr h₀ L s.heap m) (X₀ : K.In h₀) (I : InstAt s.heap x ox C od) (hb : Looks (model prog w) s.heap (typeOf b) tb) (hn : notFirst K C tb = true)
    (hne : findIn K (.ref C) "__ne__" = some (some (.builtin "object.__ne__"))) (ho : subIn K (.ref C) (.type "object") = some true)
    (hs : findIn K (.ref C) "__eq__" = some (some (.ref f))) (hf : isFn K (.ref f) = true)
    (h : wpAny (model prog w) A.in1 (call (.ref f) [.ref x, b]) (fun v s' => ∃ k, v = .bool k ∧ Q (.bool (!k)) s') E s) : wpAny (model prog w) A (richCompare .NotEq (.ref x) b) Q E s := by
  have X := X₀.keeps F.keep
  have one : wpAny (model prog w) A (tryCompare (.ref x) (cmpInfo .NotEq).2.1 b) (fun r s' => ∃ k, r = some (.bool k) ∧ Q (.bool k) s') E s := by
    refine tryNe_own X I hu hne ho hs hf (wpAny_mono h (fun v s' ⟨k, ek, q⟩ => ⟨k, ek, !k, rfl, q⟩) fun _ _ e => e)
  unfold richCompare
  simp only [oneThing_ref]
  refine wpAny_holding (wpAny_bind (wpAny_cRoomFor (Nat.lt_of_succ_lt hu) ?_))
  refine wpAny_bind (I.type.here (wpAny_bind (hb.here ?_)))
  split
  · rename_i q
    have e : subIn K tb (.ref C) = some false := by
      rcases Bool.or_eq_true_iff.mp hn with e | e
      · rw [beq_iff_eq.mp e] at q; simp at q
      · exact beq_iff_eq.mp e
    refine wpAny_bind ((looks_subIn X e).here ?_)
    simp only [Bool.false_eq_true, if_false]
    refine wpAny_bind (wpAny_mono one (fun r s' z => ?_) fun _ _ e => e)
    obtain ⟨v, rfl, hq⟩ := z
    exact wpAny_pure hq
  · refine wpAny_bind (wpAny_pure ?_)
    simp only [Bool.false_eq_true, if_false]
    refine wpAny_bind (wpAny_mono one (fun r s' z => ?_) fun _ _ e => e)
    obtain ⟨v, rfl, hq⟩ := z
    exact wpAny_pure hq
/-- an own special method, asked by a builtin -/
theorem special_K {M : Model} {args : List Value} {name : Str} {Q : Option Value → Shared → Prop} (X : K.In s.heap) (I : InstAt s.heap x ox C od) (hs : findIn K (.ref C) name = some (some (.ref f))) (hf : isFn K (.ref f) = true)
    (h : wpAny M A (call (.ref f) (.ref x :: args)) (fun v => Q (some v)) E s) : wpAny M A (callSpecial? (.ref x) name args) Q E s := by
  unfold callSpecial?
  refine wpAny_bind (wpAny_bind (I.type.here ((looks_findIn X hs).here ?_)))
  refine wpAny_holding (wpAny_bind ((bind_fn X _ (beq_iff_eq.mp hf)).here ?_))
  show wpAny M A (call (.ref f) ([.ref x] ++ args) [] >>= fun v => pure (some v)) Q E s
  exact wpAny_bind (wpAny_mono h (fun v s' h' => wpAny_pure h') fun _ _ h' => h')
theorem len_own {Q : Value → Shared → Prop} (X : K.In s.heap) (I : InstAt s.heap x ox C od) (hs : findIn K (.ref C) "__len__" = some (some (.ref f))) (hf : isFn K (.ref f) = true)
    (h : wpAny (model prog w) A.in1 (call (.ref f) [.ref x]) (fun v s' => ∃ (n : Nat) (t : Tok), v = .int n t ∧ (n : Int) < 2 ^ 63 ∧ Q (.int n s'.toks) { s' with toks := s'.toks + 1 }) E s) : wpAny (model prog w) A (call (.builtin "len") [.ref x]) Q E s := by
  refine Calls.call_function_entry kind_len plain_len entry_len (args_len1 _) ?_
  unfold Builtin.«len»
  refine wpAny_bind (m := oneArg "len" _) (wpAny_pure ?_)
  refine wpAny_bind (m := callSpecial? (.ref x) (Str.ofString "__len__")) (special_K (A := A.in1) X I hs hf (wpAny_mono h (fun v s' hv => ?_) fun _ _ e => e))
  obtain ⟨n, t, rfl, hl, q⟩ := hv
  refine wpAny_bind (wpAny_holding (wpAny_pure ?_))
  refine wpAny_bind (wpAny_letGo ?_)
  show wpAny _ _ (if ((n : Nat) : Int) < 0 then _ else _) _ _ _
  rw [if_neg (by omega)]
  show wpAny _ _ (if ((n : Nat) : Int) ≥ 2 ^ 63 then _ else _) _ _ _
  rw [if_neg (by omega)]
  exact wpAny_bind (wpAny_mkInt (wpAny_pure ⟨_, rfl, q⟩))
end
end PySem.W
end
section
set_option maxRecDepth 100000
set_option maxHeartbeats 1000000
namespace MP
open PySem PySem.Spec PyProof.Rows L2

/-! ### instances: ==, !=, len, isinstance -/
theorem run_at {X : Cx} {A : Around} {n : Nat} {CX : CXT} {f : Addr} {fd : FuncData} {ps : List Str} {sp : Sp} {E : XK} {pins : List (Addr × Obj)} {σ : L2.St} {H : Hp} {s : Shared} {Q : VK} {us : List Value} {vs : List V} (sb : Sub X n A) (F : FnOk X.prog X.w X.K X.mg X.base CX n f fd ps sp) (hb : Binds X.K fd ps [])
    (hx : ∀ s', ∀ e, CX X.stack H s E e s' → X.xe e s') (I : Inv X pins σ H s) (r : Vals vs us) (h : sp vs H Q E) : wpAny (model X.prog X.w) A (call (.ref f) us) (EP X pins σ Q) X.xe s := by
  have e0 : Env0 X.prog X.w X.K X.mg X.base A X.stack s H := by
    have e := I.env0
    exact ⟨by rw [sb.fr]; exact e.frames, e.mod, e.bs, e.bsz, e.funs, e.frf, e.hok, e.bare⟩
  have hl : us.length = ps.length := by rw [← r.length]; exact F.len _ _ _ _ h
  refine wpAny_call (codeAny_mono (F.run A X.stack s H ⟨us, []⟩ us vs _ E sb.room e0 (by
    have := hb s us I.kIn (by simpa using hl)
    simpa using this) r h) fun r s' hq => ?_)
  cases r with
  | error e => exact hx s' e hq
  | ok fl =>
    cases fl with
    | ret w => exact I.after hq
    | next => exact False.elim hq
    | brk => exact False.elim hq
    | cont => exact False.elim hq
theorem no_exc {X : Cx} {H : Hp} {s : Shared} : ∀ s' e, L2.CX X.prog X.w X.stack H s EF e s' → X.xe e s' := fun s' e h => by
  obtain ⟨_, _, _, _, _, _, _, _, _, _, _, _, z⟩ := h
  exact z.elim
def rEqI (Γ : Gam) (C : Addr) (g : List D → Sto → Rt) (k : Bool → Bool) : R2 := fun x y H Q => ∃ a b dx dy fs gs, x = .ref a ∧ y = .ref b ∧ H a = some (.ins C dx fs) ∧ H b = some (.ins C dy gs) ∧ spD Γ 2 g [x, y] H (fun v H' => ∃ b, v = .bl b ∧ Q (.bl (k b)) H') EF
structure OwnEqX (Γ : Gam) (cls : Str) : Prop where
  ne : PySem.W.findIn Γ.K (.ref (Γ.cl cls)) "__ne__" = some (some (.builtin "object.__ne__"))
  ob : PySem.W.subIn Γ.K (.ref (Γ.cl cls)) (.type "object") = some true
section
variable {X : Cx} {Γ : Gam} {W : WX} {cls : Str} {k : Nat} {g : List D → Sto → Rt}
theorem op_eqI (G : DenM X.prog X.w Γ X.mg X.base k cls "__eq__" 2 g) (hK : X.K = Γ.K) (hr : Room k X.A) : OpR X (compareOp .Eq) (rEqI Γ (Γ.cl cls) g id) := by
  intro pins s σ H x y v u Q I rx ry h
  obtain ⟨⟨f, fd, ps, F, h1, h2, hb⟩, mo⟩ := G
  rw [← hK] at F h1 h2 hb
  obtain ⟨a, b, dx, dy, fs, gs, rfl, rfl, ha, hb', hsp⟩ := h
  cases rx
  cases ry
  obtain ⟨mA, J, _⟩ := ins_get I.hok ha
  obtain ⟨mB, J', _⟩ := ins_get I.hok hb'
  obtain ⟨od, J, _⟩ := J.look
  obtain ⟨od', J', _⟩ := J'.look
  obtain ⟨m, hF⟩ := I.fr
  show wpAny (model X.prog X.w) X.A (richCompare .Eq _ _) (EP X pins σ Q) X.xe s
  refine PySem.W.cmp_K (op := .Eq) (tb := .ref (Γ.cl cls)) hr.units0 hF I.ok.mod.kin J J'.type (by simp [PySem.W.notFirst]) h1 h2 ?_
  refine wpAny_mono (run_at ⟨hr, rfl⟩ F hb (no_exc (X := X)) I (show Vals [V.ref a, V.ref b] [Value.ref a, Value.ref b] from .cons rfl (.cons rfl .nil)) hsp) (fun v s' hq => ?_) fun _ _ e => e
  obtain ⟨v', H', I', rv, b, ev, q⟩ := hq
  subst ev
  cases rv
  exact ⟨.bl b, H', I', rfl, q⟩
theorem op_neI (G : DenM X.prog X.w Γ X.mg X.base k cls "__eq__" 2 g) (N : OwnEqX Γ cls) (hK : X.K = Γ.K) (hr : Room (k + 1) X.A) : OpR X (compareOp .NotEq) (rEqI Γ (Γ.cl cls) g (!·)) := by
  intro pins s σ H x y v u Q I rx ry h
  obtain ⟨⟨f, fd, ps, F, h1, h2, hb⟩, mo⟩ := G
  have n1 := N.ne
  have n2 := N.ob
  rw [← hK] at F h1 h2 hb n1 n2
  obtain ⟨a, b, dx, dy, fs, gs, rfl, rfl, ha, hb', hsp⟩ := h
  cases rx
  cases ry
  obtain ⟨mA, J, _⟩ := ins_get I.hok ha
  obtain ⟨mB, J', _⟩ := ins_get I.hok hb'
  obtain ⟨od, J, _⟩ := J.look
  obtain ⟨od', J', _⟩ := J'.look
  obtain ⟨m, hF⟩ := I.fr
  show wpAny (model X.prog X.w) X.A (richCompare .NotEq _ _) (EP X pins σ Q) X.xe s
  refine PySem.W.ne_K (tb := .ref (Γ.cl cls)) (by have := hr.units; omega) hF I.ok.mod.kin J J'.type (by simp [PySem.W.notFirst]) n1 n2 h1 h2 ?_
  refine wpAny_mono (run_at (Sub.in1 ⟨hr, rfl⟩) F hb (no_exc (X := X)) I (show Vals [V.ref a, V.ref b] [Value.ref a, Value.ref b] from .cons rfl (.cons rfl .nil)) hsp) (fun v s' hq => ?_) fun _ _ e => e
  obtain ⟨v', H', I', rv, b, ev, q⟩ := hq
  subst ev
  cases rv
  exact ⟨b, rfl, .bl (!b), H', I', rfl, q⟩
end
def isIns (cls : Str) (d : D) (st : Sto) : Bool := match d with
  | .obj n => match st[n]? with
    | some (.ins c _) => c == cls
    | _ => false
  | _ => false
def blK (k : Bool → Bool) : D → Sto → Rt
  | .bl b, st => okD (.bl (k b)) st
  | _, _ => none
theorem mono_blK {k : Bool → Bool} : MonoF (blK k) := by
  intro d st r st' h
  unfold blK at h
  split at h
  · exact mono_ok h
  · cases h
/-- == where the left side may be an instance of cls -/
def fEqO (cls : Str) (g : List D → Sto → Rt) (d e : D) (st : Sto) : Rt := if isIns cls d st then (if isIns cls e st then bindO (g [d, e] st) (blK id) else none) else fEq d e st
def fNeO (cls : Str) (g : List D → Sto → Rt) (d e : D) (st : Sto) : Rt := if isIns cls d st then (if isIns cls e st then bindO (g [d, e] st) (blK (!·)) else none) else fNe d e st
theorem mono_fEqO {cls : Str} {g : List D → Sto → Rt} (mg : MonoFA g) : MonoF2 (fEqO cls g) := by
  intro d e st r st' h
  unfold fEqO at h
  repeat' (split at h)
  · exact bindO_mono (fun a s z => mg _ _ a s z) mono_blK _ _ h
  · cases h
  · exact mono_fEq _ _ _ _ _ h
theorem mono_fNeO {cls : Str} {g : List D → Sto → Rt} (mg : MonoFA g) : MonoF2 (fNeO cls g) := by
  intro d e st r st' h
  unfold fNeO at h
  repeat' (split at h)
  · exact bindO_mono (fun a s z => mg _ _ a s z) mono_blK _ _ h
  · cases h
  · exact mono_fNe _ _ _ _ _ h
section
variable {Γ : Gam} {cls : Str} {g : List D → Sto → Rt}
theorem isIns_at {m : Nat → Addr} {st : Sto} {H : Hp} {d : D} {v : V} (s : StR Γ m st H) (h : isIns cls d st = true) (r : Rv Γ.K m st.length H d v) : ∃ a dx fs, v = .ref a ∧ H a = some (.ins (Γ.cl cls) dx fs) := by
  unfold isIns at h
  split at h
  · rename_i n
    split at h
    · rename_i c fs e
      have ec : c = cls := beq_iff_eq.mp h
      subst ec
      cases r
      obtain ⟨dx, vs, h1, h2⟩ := s.cell n _ e
      exact ⟨_, dx, vs, rfl, h1⟩
    · cases h
  · cases h
theorem eqI_of {k : Bool → Bool} {m : Nat → Addr} {st : Sto} {H : Hp} {d e : D} {x y : V} {Q : VK} {E : XK} (mg : MonoFA g) (s : StR Γ m st H) (rx : Rv Γ.K m st.length H d x) (ry : Rv Γ.K m st.length H e y) (h1 : isIns cls d st = true) (h2 : isIns cls e st = true)
    (h : Res Γ m st.length H (bindO (g [d, e] st) (blK k)) Q E) : rEqI Γ (Γ.cl cls) g k x y H Q := by
  obtain ⟨a, dx, fs, rfl, ha⟩ := isIns_at s h1 rx
  obtain ⟨b, dy, gs, rfl, hb⟩ := isIns_at s h2 ry
  refine ⟨a, b, dx, dy, fs, gs, rfl, rfl, ha, hb, rfl, m, [d, e], st, s, .cons rx (.cons ry .nil), ?_⟩
  refine (Res.bindO h (fun a st' q => mg _ _ a st' q) mono_blK).imp fun v H1 ⟨m1, d1, st1, e1, k1, hl, s1, r1, q⟩ => ?_
  unfold blK at q
  split at q
  · rename_i b
    cases r1
    exact ⟨b, rfl, q.ok s1 (.bl _)⟩
  · exact q.elim
theorem os_eqO (mg : MonoFA g) : OpSim Γ (fun x y H Q => rEqI Γ (Γ.cl cls) g id x y H Q ∨ rEqD Γ.K x y H Q) (fEqO cls g) := fun m st H x y d e Q E s rx ry h => by
  unfold fEqO at h
  split at h
  · rename_i h1
    split at h
    · rename_i h2
      exact .inl (eqI_of mg s rx ry h1 h2 h)
    · exact h.elim
  · exact .inr (os_eq m st H x y d e Q E s rx ry h)
theorem os_neO (mg : MonoFA g) : OpSim Γ (fun x y H Q => rEqI Γ (Γ.cl cls) g (!·) x y H Q ∨ rNeD Γ.K x y H Q) (fNeO cls g) := fun m st H x y d e Q E s rx ry h => by
  unfold fNeO at h
  split at h
  · rename_i h1
    split at h
    · rename_i h2
      exact .inl (eqI_of mg s rx ry h1 h2 h)
    · exact h.elim
  · exact .inr (os_ne m st H x y d e Q E s rx ry h)
end
section
variable {X : Cx} {Γ : Gam} {W : WX} {cls : Str} {k : Nat} {g : List D → Sto → Rt} {e a b : Expr} {da db : De} {pos p p2 : Pos} {es : List Expr} {das : List De}
theorem sim_eqO (G : DenM X.prog X.w Γ X.mg X.base k cls "__eq__" 2 g) (hK : X.K = Γ.K) (hr : Room k X.A) (ha : Sim X Γ W a da) (hb : Sim X Γ W b db) (hm : behindInMarks .Eq b = false) : Sim X Γ W (.Compare a [.Eq] [b] pos) (dBin (fEqO cls g) da db) :=
  sim_cmp ((op_eqI G hK hr).or (op_eqD hr.units)) (by rw [hK]; exact os_eqO G.mono) (mono_fEqO G.mono) ha hb hm
theorem simT_eqO (G : DenM X.prog X.w Γ X.mg X.base k cls "__eq__" 2 g) (hK : X.K = Γ.K) (hr : Room k X.A) (ha : Sim X Γ W a da) (hb : Sim X Γ W b db) (hm : behindInMarks .Eq b = false) : SimT X Γ W (.Compare a [.Eq] [b] pos) (dBin (fEqO cls g) da db) :=
  simT_cmp ((op_eqI G hK hr).or (op_eqD hr.units)) (by rw [hK]; exact os_eqO G.mono) (mono_fEqO G.mono) ha hb hm
theorem sim_neO (G : DenM X.prog X.w Γ X.mg X.base k cls "__eq__" 2 g) (N : OwnEqX Γ cls) (hK : X.K = Γ.K) (hr : Room (k + 1) X.A) (ha : Sim X Γ W a da) (hb : Sim X Γ W b db) (hm : behindInMarks .NotEq b = false) : Sim X Γ W (.Compare a [.NotEq] [b] pos) (dBin (fNeO cls g) da db) :=
  sim_cmp ((op_neI G N hK hr).or (op_neD hr.units)) (by rw [hK]; exact os_neO G.mono) (mono_fNeO G.mono) ha hb hm
theorem simT_neO (G : DenM X.prog X.w Γ X.mg X.base k cls "__eq__" 2 g) (N : OwnEqX Γ cls) (hK : X.K = Γ.K) (hr : Room (k + 1) X.A) (ha : Sim X Γ W a da) (hb : Sim X Γ W b db) (hm : behindInMarks .NotEq b = false) : SimT X Γ W (.Compare a [.NotEq] [b] pos) (dBin (fNeO cls g) da db) :=
  simT_cmp ((op_neI G N hK hr).or (op_neD hr.units)) (by rw [hK]; exact os_neO G.mono) (mono_fNeO G.mono) ha hb hm

/-! len of an instance -/
def rLenI (Γ : Gam) (C : Addr) (g : List D → Sto → Rt) : List V → Hp → VK → Prop := fun xs H Q => ∃ a dx fs, xs = [.ref a] ∧ H a = some (.ins C dx fs) ∧ spD Γ 1 g xs H (fun v H' => ∃ n : Nat, v = .int n ∧ (n : Int) < 2 ^ 63 ∧ Q (.int n) H') EF
theorem call_lenI (G : DenM X.prog X.w Γ X.mg X.base k cls "__len__" 1 g) (hK : X.K = Γ.K) (hr : Room (k + 1) X.A) : CallR X (.builtin "len") (rLenI Γ (Γ.cl cls) g) := by
  intro pins s σ H xs us Q I r h
  obtain ⟨⟨f, fd, ps, F, h1, h2, hb⟩, mo⟩ := G
  rw [← hK] at F h1 h2 hb
  obtain ⟨a, dx, fs, rfl, ha, hsp⟩ := h
  obtain ⟨u, rfl, rx⟩ := vals1 r
  cases rx
  obtain ⟨mA, J, _⟩ := ins_get I.hok ha
  obtain ⟨od, J, _⟩ := J.look
  refine PySem.W.len_own I.kIn J h1 h2 (wpAny_mono (run_at (Sub.in1 ⟨hr, rfl⟩) F hb (no_exc (X := X)) I (show Vals [V.ref a] [Value.ref a] from .cons rfl .nil) hsp) (fun v s' hq => ?_) fun _ _ e => e)
  obtain ⟨v', H', I', rv, n, ev, hn, q⟩ := hq
  subst ev
  obtain ⟨t, rfl⟩ := rv
  exact ⟨n, t, rfl, hn, .int n, H', I'.tok _, ⟨_, rfl⟩, q⟩
def natK : D → Sto → Rt
  | .int i, st => if 0 ≤ i ∧ i < 2 ^ 63 then okD (.int i) st else none
  | _, _ => none
theorem mono_natK : MonoF natK := by
  intro d st r st' h
  unfold natK at h
  repeat' (split at h)
  all_goals first | exact mono_ok h | cases h
def fLenO (cls : Str) (g : List D → Sto → Rt) : List D → Sto → Rt
  | [d], st => if isIns cls d st then bindO (g [d] st) natK else fLen [d] st
  | _, _ => none
theorem mono_fLenO (mg : MonoFA g) : MonoFA (fLenO cls g) := by
  intro ds st r st' h
  unfold fLenO at h
  split at h
  · split at h
    · exact bindO_mono (fun a s z => mg _ _ a s z) mono_natK _ _ h
    · exact mono_fLen _ _ _ _ h
  · cases h
theorem cs_lenO (mg : MonoFA g) : CallSim Γ (fun xs H Q => rLenI Γ (Γ.cl cls) g xs H Q ∨ rLenD Γ.K xs H Q) (fLenO cls g) := fun m st H vs ds Q E s r h => by
  unfold fLenO at h
  split at h
  · rename_i d
    split at h
    · rename_i h1
      cases r with
      | cons r0 rr =>
        cases rr
        obtain ⟨a, dx, fs, rfl, ha⟩ := isIns_at s h1 r0
        refine .inl ⟨a, dx, fs, rfl, ha, rfl, m, [d], st, s, .cons r0 .nil, ?_⟩
        refine (Res.bindO h (fun a st' q => mg _ _ a st' q) mono_natK).imp fun v H1 ⟨m1, d1, st1, e1, k1, hl, s1, r1, q⟩ => ?_
        unfold natK at q
        split at q
        · rename_i i
          split at q
          · rename_i hi
            cases r1
            refine ⟨i.toNat, by rw [Int.toNat_of_nonneg hi.1], by rw [Int.toNat_of_nonneg hi.1]; exact hi.2, ?_⟩
            rw [Int.toNat_of_nonneg hi.1]
            exact q.ok s1 (.int _)
          · exact q.elim
        · exact q.elim
    · exact .inr (cs_len m st H vs [d] Q E s r h)
  · exact h.elim
theorem sim_lenO (G : DenM X.prog X.w Γ X.mg X.base k cls "__len__" 1 g) (hK : X.K = Γ.K) (hr : Room (k + 1) X.A) (hg : Gl X "len") (hm : X.mg "len" = none) (h : SimA X Γ W (e :: es) das)
    (he : starEach (e :: es) X.env = (false, eval e X.env) :: starEach es X.env) (hpl : (backTo pos (starEach es X.env)).any (·.1) = false) : Sim X Γ W (.Call (.Name "len" p) (e :: es) [] pos) (dApp (fLenO cls g) das) :=
  sim_callB ((call_lenI G hK hr).or cr_len) (by rw [hK]; exact cs_lenO G.mono) (mono_fLenO G.mono) hg hm (by decide +kernel) h (by decide) (by decide) he hpl

/-! isinstance of an instance -/
structure IsIX (Γ : Gam) (tbl : List (Str × Bool)) (T : Str) : Prop where
  ok : ∀ c b, tbl.lookup c = some b → Cls Γ.K (Γ.cl c) ∧ PySem.W.findIn Γ.K (.ref (Γ.cl c)) "__class__" = some (some (.builtin "object.__class__")) ∧ PySem.W.mroIn Γ.K (Γ.cl c) (.type "object") = some true ∧ PySem.W.kitOne Γ.K (.ref (Γ.cl c)) (.ref (Γ.cl T)) = some b
  hn : PySem.W.specialIn Γ.K (.builtin "object.__class__") "__get__" = some (some (.builtin "getset_descriptor.__get__"))
  ht : PySem.W.takesIn Γ.K (.builtin "object.__class__") = some true
def fIsI (tbl : List (Str × Bool)) : D → Sto → Rt
  | .obj n, st => match st[n]? with
    | some (.ins c _) => match tbl.lookup c with
      | some b => okD (.bl b) st
      | none => none
    | _ => none
  | _, _ => none
theorem mono_fIsI {tbl : List (Str × Bool)} : MonoF (fIsI tbl) := by
  intro d st r st' h
  unfold fIsI at h
  repeat' (split at h)
  all_goals first | exact mono_ok h | cases h
theorem sim_isI {tbl : List (Str × Bool)} {T : Str} (hx : IsIX Γ tbl T) (hT : X.mg T = some (.ref (Γ.cl T))) (hK : X.K = Γ.K) (hg : Gl X "isinstance") (hm : X.mg "isinstance" = none) (hg2 : Gl X T) (hd2 : (T == ("__debug__" : Str)) = false) (ha : Sim X Γ W a da)
    (he : starEach [a, .Name T p2] X.env = (false, eval a X.env) :: starEach [.Name T p2] X.env) (he2 : starEach [.Name T p2] X.env = (false, eval (.Name T p2) X.env) :: starEach [] X.env) (hpl : (backTo pos (starEach [.Name T p2] X.env)).any (·.1) = false) :
    Sim X Γ W (.Call (.Name "isinstance" p) [a, .Name T p2] [] pos) (dUn (fIsI tbl) da) := by
  refine ⟨mono_un ha.mono mono_fIsI, (pe_callB call_isi hg hm boot_isinstance (pa_cons ha.pe (pa_cons (pe_glob (v := .ref (Γ.cl T)) hg2 hT rfl hd2) pa_nil he2) he) (by decide) (by decide) he hpl).imp fun σ H Q ⟨m, ls, st, s, l, h⟩ => ?_⟩
  obtain ⟨m0, ls0, st0, s0, l0, q0⟩ := tD_bind ha.mono s l mono_fIsI h
  refine ⟨m0, ls0, st0, s0, l0, q0.imp fun v H1 ⟨m1, dd, st1, s1, l1, r1, q1, _⟩ => ?_⟩
  match dd, r1, q1 with
  | .obj n, .obj _, q1 =>
    dsimp only [fIsI] at q1
    split at q1
    · rename_i c fs e
      split at q1
      · rename_i k ek
        obtain ⟨h1, h2, h3, h4⟩ := hx.ok _ _ ek
        obtain ⟨dx, vs, z1, z2⟩ := s1.cell n _ e
        rw [← hK] at h1 h2 h3 h4
        have n1 := hx.hn
        have n2 := hx.ht
        rw [← hK] at n1 n2
        exact ⟨_, .ref (Γ.cl T), _, _, k, rfl, .own _, .base (.ins z1 h1 h2 n1 n2 h3), h4, q1.ok s1 (.bl k)⟩
      · exact q1.elim
    · exact q1.elim
end
end MP
end
section
set_option maxRecDepth 100000
set_option maxHeartbeats 1000000
namespace MP
open PySem PySem.Spec PyProof.Rows L2

/-! ### list.count, list.index of plain values -/
def rCntF (K : PySem.W.Frag) : V → List V → Hp → VK → Prop := fun x xs H Q => ∃ (p : Addr) (ys : List V) (y : V), x = .ref p ∧ xs = [y] ∧ SqL K H p ys ∧ flatV y = true ∧ ys.all flatV = true ∧ Q (.int (ys.countP fun z => eqV z y : Nat)) H
theorem eqU_count {y : V} : ∀ {ys : List V} {us : List Value}, Vals ys us → ys.all flatV = true → us.countP (eqU y) = ys.countP fun z => eqV z y
  | _, _, .nil, _ => rfl
  | z :: ys, _, .cons r t, h => by
    rw [List.all_cons, Bool.and_eq_true] at h
    rw [List.countP_cons, List.countP_cons, eqU_count t h.2, eqU_of r h.1]
theorem mt_countF {X : Cx} : MtR X "list.count" (rCntF X.K) := by
  intro pins s σ H x xs v us Q I rx rxs h
  obtain ⟨p, ys, y, rfl, rfl, hs, fy, fys, q⟩ := h
  cases rx
  obtain ⟨u, rfl, ru⟩ := rxs.one
  obtain ⟨its, rv, ⟨⟨cls, dd, data, sl⟩, n, ho, hc, hdn, hd⟩, hlen⟩ := I.list hs
  simp only at hc hd
  subst hc hd
  refine call_meets PySem.F.slot_list_count ⟨_, ho, rfl⟩ PySem.F.entry_list_count (PySem.F.args_list_count_2 _ _)
    (SeqAt.list_countAt p its.toArray n dd sl u (eqU y)) ⟨ho, fun u' hu' => mem_eqAt ru fy rv fys u' (by simpa using hu'), ?_⟩
  have ec : its.toArray.toList.countP (eqU y) = ys.countP fun z => eqV z y := eqU_count rv fys
  refine ⟨.int (ys.countP fun z => eqV z y : Nat), H, I.tok _, ⟨s.toks, ?_⟩, q⟩
  show Value.int ((its.toArray.toList.countP (eqU y) : Nat) : Int) s.toks = _
  rw [ec]
def flD : D → Option V
  | .non => some .non
  | .bl b => some (.bl b)
  | .int i => some (.int i)
  | .str s => some (.str s)
  | _ => none
theorem flD_v {K : PySem.W.Frag} {m : Nat → Addr} {L : Nat} {H : Hp} : ∀ {d : D} {v w : V}, Rv K m L H d v → flD d = some w → v = w ∧ flatV v = true
  | .non, _, _, .non, h => by cases h; exact ⟨rfl, rfl⟩
  | .bl _, _, _, .bl _, h => by cases h; exact ⟨rfl, rfl⟩
  | .int _, _, _, .int _, h => by cases h; exact ⟨rfl, rfl⟩
  | .str _, _, _, .str _, h => by cases h; exact ⟨rfl, rfl⟩
theorem flDs_v {K : PySem.W.Frag} {m : Nat → Addr} {L : Nat} {H : Hp} : ∀ {ds : List D} {vs ws : List V}, RvL K m L H ds vs → mapO flD ds = some ws → vs = ws ∧ vs.all flatV = true
  | [], _, _, .nil, h => by cases h; exact ⟨rfl, rfl⟩
  | d :: ds, _, _, .cons r rs, h => by
    obtain ⟨b, t, e1, e2, rfl⟩ := mapO_cons h
    obtain ⟨h1, h2⟩ := flD_v r e1
    obtain ⟨h3, h4⟩ := flDs_v rs e2
    refine ⟨by rw [h1, h3], ?_⟩
    rw [List.all_cons, h2, h4]
    rfl
def fCount : D → List D → Sto → Rt
  | .obj n, [d], st => match st[n]? with
    | some (.lst _ l) => match mapO flD l, flD d with
      | some ys, some y => okD (.int (ys.countP fun z => eqV z y : Nat)) st
      | _, _ => none
    | _ => none
  | _, _, _ => none
def fIndex : D → List D → Sto → Rt
  | .obj n, [d], st => match st[n]? with
    | some (.lst _ l) => match mapO flD l, flD d with
      | some ys, some y => match ys.findIdx? fun z => eqV z y with
        | some j => okD (.int (j : Nat)) st
        | none => none
      | _, _ => none
    | _ => none
  | _, _, _ => none
theorem mono_fCount : MonoM fCount := by
  intro x ds st r st' h
  unfold fCount at h
  repeat' (split at h)
  all_goals first | exact mono_ok h | cases h
theorem mono_fIndex : MonoM fIndex := by
  intro x ds st r st' h
  unfold fIndex at h
  repeat' (split at h)
  all_goals first | exact mono_ok h | cases h
theorem ms_count {Γ : Gam} : MtSim Γ (rCntF Γ.K) fCount := fun
  | m, st, H, _, _, .obj n, [d], Q, E, s, .obj _, .cons rd .nil, h => by
    dsimp only [fCount] at h
    split at h
    · rename_i ro l e
      split at h
      · rename_i ys y e1 e2
        obtain ⟨vs, a, r⟩ := s.list e
        obtain ⟨h1, h2⟩ := flDs_v r e1
        obtain ⟨h3, h4⟩ := flD_v rd e2
        subst h1 h3
        exact ⟨m n, _, _, rfl, rfl, a, h4, h2, h.ok s (.int _)⟩
      · exact h.elim
    · exact h.elim
theorem ms_index {Γ : Gam} : MtSim Γ (rIndex Γ.K) fIndex := fun
  | m, st, H, _, _, .obj n, [d], Q, E, s, .obj _, .cons rd .nil, h => by
    dsimp only [fIndex] at h
    split at h
    · rename_i ro l e
      split at h
      · rename_i ys y e1 e2
        split at h
        · rename_i j ej
          obtain ⟨vs, a, r⟩ := s.list e
          obtain ⟨h1, h2⟩ := flDs_v r e1
          obtain ⟨h3, h4⟩ := flD_v rd e2
          subst h1 h3
          obtain ⟨hj, p1, p2⟩ := List.findIdx?_eq_some_iff_getElem.mp ej
          refine ⟨m n, _, _, j, _, rfl, rfl, a, h4, h2, List.getElem?_eq_getElem hj, p1, fun k z' hk hz => ?_, h.ok s (.int _)⟩
          obtain ⟨hk', e3⟩ := List.getElem?_eq_some_iff.mp hz
          have := p2 k hk
          rw [e3] at this
          simpa using this
        · exact h.elim
      · exact h.elim
    · exact h.elim

/-! ### a def whose own code object is known -/
structure FunC (K : PySem.W.Frag) (mg : Str → Option Value) (x : Str) (st : Stmt) (ps : List Str) (c : Addr) : Prop where
  ex : ∃ (f : Addr) (oc : Value) (od : Option Addr) (kV doc pm : Value) (an : Option Addr) (ct : Value) (osl : Array (Option Value)),
    K.lookup f = some ⟨oc, od, .func (PySem.W.fnOf x x (defArgs st) (defBody st) (defScope st) .none kV doc pm an (.ref c) ct), osl⟩ ∧ PySem.W.codeIn K (.ref c) x = true ∧ mg x = some (.ref f) ∧ Binds K (PySem.W.fnOf x x (defArgs st) (defBody st) (defScope st) .none kV doc pm an (.ref c) ct) ps []
section
variable {P : Program} {w : World} {Γ : Gam} {mg : Str → Option Value} {base : Heap}
theorem den_ofC {x : Str} {st : Stmt} {N ps : List Str} {k : Nat} {c : Addr} (F : FunC Γ.K mg x st ps c) (S : FnScope N ps (defScope st)) {db : Ds}
    (hbody : ∀ (f : Addr) (A : Around) (outer : List Env) (s : Shared) (H : Hp) (E : XK), Room k (A.deeper (envOfC x (defScope st) s.heap.objs.size f (.ref c))) →
      SimB (cxOf (L2.CX P w) P w Γ.K mg base N x (defScope st) f (.ref c) A outer s H E) Γ (fun c d _ H' => E c d H') (defBody st) db) (hk : k ≤ 100 := by decide) :
    ∃ f fd, FnOk P w Γ.K mg base (L2.CX P w) (k + 1) f fd ps (spD Γ ps.length (runD N.length db)) ∧ mg x = some (.ref f) ∧ Binds Γ.K fd ps [] := by
  obtain ⟨f, oc, od, kV, doc, pm, an, ct, osl, lk, hcd, hm, hb⟩ := F.ex
  refine ⟨f, _, fn_of lk hcd S (fun vs H Q E h => h.1) fun A outer s H vs Q E hr h => ?_, hm, hb⟩
  obtain ⟨_, m, ds, sto, sr, rv, h⟩ := h
  have B := hbody f A outer s H E hr
  refine ⟨_, B.ps, m, startL N.length ds, sto, sr, startL_rel rv, ?_⟩
  have mb := fun a l st' q => B.mono (startL N.length ds) sto a l st' q
  unfold runD at h
  match db (startL N.length ds) sto, h, mb with
  | some (.next, ls', st'), h, mb => exact ⟨h.1, fun m' H' σ' e k s l => h.2 m' H' .non e k s .non⟩
  | some (.ret d, ls', st'), h, mb => exact h
  | some (.exc c fs, ls', st'), h, mb => exact ⟨h.1, fun m' H' σ' dd e k s l x => h.2 m' H' dd e k s x⟩
  | some (.brk, ls', st'), h, mb => exact h.elim
  | some (.cont, ls', st'), h, mb => exact h.elim
/-- the law's own def -/
theorem den_ofL {x : Str} {st : Stmt} {N ps : List Str} {k : Nat} {f : Addr} {oc : Value} {od : Option Addr} {kV doc pm cdv : Value} {an : Option Addr} {ct : Value} {osl : Array (Option Value)} (lk : Γ.K.lookup f = some ⟨oc, od, .func (PySem.W.fnOf x x (defArgs st) (defBody st) (defScope st) .none kV doc pm an cdv ct), osl⟩)
    (hcd : PySem.W.codeIn Γ.K cdv x = true) (S : FnScope N ps (defScope st)) {db : Ds}
    (hbody : ∀ (A : Around) (outer : List Env) (s : Shared) (H : Hp) (E : XK), Room k (A.deeper (envOfC x (defScope st) s.heap.objs.size f cdv)) →
      SimB (cxOf (L2.CX P w) P w Γ.K mg base N x (defScope st) f cdv A outer s H E) Γ (fun c d _ H' => E c d H') (defBody st) db) (hk : k ≤ 100 := by decide) :
    FnOk P w Γ.K mg base (L2.CX P w) (k + 1) f (PySem.W.fnOf x x (defArgs st) (defBody st) (defScope st) .none kV doc pm an cdv ct) ps (spD Γ ps.length (runD N.length db)) := by
  refine fn_of lk hcd S (fun vs H Q E h => h.1) fun A outer s H vs Q E hr h => ?_
  obtain ⟨_, m, ds, sto, sr, rv, h⟩ := h
  have B := hbody A outer s H E hr
  refine ⟨_, B.ps, m, startL N.length ds, sto, sr, startL_rel rv, ?_⟩
  have mb := fun a l st' q => B.mono (startL N.length ds) sto a l st' q
  unfold runD at h
  match db (startL N.length ds) sto, h, mb with
  | some (.next, ls', st'), h, mb => exact ⟨h.1, fun m' H' σ' e k s l => h.2 m' H' .non e k s .non⟩
  | some (.ret d, ls', st'), h, mb => exact h
  | some (.exc c fs, ls', st'), h, mb => exact ⟨h.1, fun m' H' σ' dd e k s l x => h.2 m' H' dd e k s x⟩
  | some (.brk, ls', st'), h, mb => exact h.elim
  | some (.cont, ls', st'), h, mb => exact h.elim
end
end MP
end
section
set_option maxRecDepth 100000
set_option maxHeartbeats 1000000
namespace MP
open PySem PySem.Spec PyProof.Rows L2

/-! ### the facts of the written part, in bundles -/
def clM (l : List (Str × Addr)) (s : Str) : Addr := (l.lookup s).getD 0
def zB (K : PySem.W.Frag) (l : List Str) : Bool := l.all fun x => decide (PySem.W.nsIn K mainGlobals x = some none)
theorem zB_ok {K : PySem.W.Frag} {l : List Str} {h : Heap} {mg : Str → Option Value} (X : K.In h) (G : h.Ns mainGlobals mg) (b : zB K l = true) (x : Str) (hx : x ∈ l) : mg x = none :=
  PySem.W.mg_none_of X G (of_decide_eq_true (List.all_eq_true.mp b x hx))
def excCB (K : PySem.W.Frag) (D : Addr) : Bool := decide (PySem.W.findIn K (.ref D) "__getattribute__" = some (some (.builtin "BaseException.__getattribute__"))) && (decide (PySem.W.findIn K (.ref D) "__getattr__" = some none) && (decide (PySem.W.subIn K (.ref D) (.type "BaseException") = some true) &&
  (PySem.W.hasDictIn K D && (decide (PySem.W.findIn K (.ref D) "__class__" = some (some (.builtin "object.__class__"))) && (decide (PySem.W.specialIn K (.builtin "object.__class__") "__get__" = some (some (.builtin "getset_descriptor.__get__"))) &&
  (decide (PySem.W.takesIn K (.builtin "object.__class__") = some true) && decide (PySem.W.mroIn K D (.type "object") = some true)))))))
theorem excCB_ok {K : PySem.W.Frag} {D : Addr} (h : excCB K D = true) : ExcC K D := by
  unfold excCB at h
  simp only [Bool.and_eq_true, decide_eq_true_eq] at h
  obtain ⟨h1, h2, h3, h4, h5, h6, h7, h8⟩ := h
  exact ⟨h1, h2, h3, h4, h5, h6, h7, h8⟩
theorem lookup_mem {β : Type} {c : Str} {b : β} : ∀ {l : List (Str × β)}, l.lookup c = some b → (c, b) ∈ l
  | [], h => by cases h
  | (d, e) :: r, h => by
    rw [List.lookup_cons] at h
    cases q : c == d with
    | true => rw [q] at h; cases h; rw [eq_of_beq q]; exact List.mem_cons_self ..
    | false => rw [q] at h; exact List.mem_cons_of_mem _ (lookup_mem h)
/-- isinstance(e, T) for e of each class -/
def ieB (Γ : Gam) (tbl : List (Str × Bool)) (tv : Value) : Bool := tbl.all fun p => decide (PySem.W.kitOne Γ.K (.ref (Γ.cl p.1)) tv = some p.2) && excCB Γ.K (Γ.cl p.1)
theorem ieB_ok {Γ : Gam} {tbl : List (Str × Bool)} {tv : Value} (h : ieB Γ tbl tv = true) : IsEX Γ tbl tv := fun c b e => by
  obtain ⟨h1, h2⟩ := Bool.and_eq_true_iff.mp (List.all_eq_true.mp h _ (lookup_mem e))
  exact ⟨of_decide_eq_true h1, excCB_ok h2⟩
def emB (Γ : Gam) (tbl : List (Str × Bool)) (tv : Value) : Bool := tbl.all fun p => decide (PySem.W.exmOne Γ.K (.ref (Γ.cl p.1)) tv = some p.2)
theorem emB_ok {Γ : Gam} {tbl : List (Str × Bool)} {tv : Value} (h : emB Γ tbl tv = true) : ExmX Γ tbl tv := fun c b e => of_decide_eq_true (List.all_eq_true.mp h _ (lookup_mem e))
def xfBs (Γ : Gam) (cs : List Str) (f : Str) : Bool := cs.all fun c => xfB Γ.K (Γ.cl c) && decide (PySem.W.findIn Γ.K (.ref (Γ.cl c)) f = some none)
theorem xfBs_ok {Γ : Gam} {cs : List Str} {f : Str} (h : xfBs Γ cs f = true) : XfX Γ cs f := fun c e => by
  obtain ⟨h1, h2⟩ := Bool.and_eq_true_iff.mp (List.all_eq_true.mp h c (by simpa using e))
  exact ⟨xfB_ok h1, of_decide_eq_true h2⟩
def clsB (K : PySem.W.Frag) (C : Addr) : Bool := PySem.W.plainGet K C Str.empty && (PySem.W.hasDictIn K C && (PySem.W.plainOver K C && decide (PySem.W.findIn K (.ref C) "__setattr__" = some (some (.builtin "object.__setattr__")))))
theorem clsB_ok {K : PySem.W.Frag} {C : Addr} (h : clsB K C = true) : Cls K C := by
  unfold clsB at h
  simp only [Bool.and_eq_true, decide_eq_true_eq] at h
  obtain ⟨h1, h2, h3, h4⟩ := h
  exact ⟨h1, h2, h3, h4⟩
def fldB (Γ : Gam) (cs : List Str) (f : Str) : Bool := cs.all fun c => clsB Γ.K (Γ.cl c) && decide (PySem.W.findIn Γ.K (.ref (Γ.cl c)) f = some none)
theorem fldB_ok {Γ : Gam} {cs : List Str} {f : Str} (h : fldB Γ cs f = true) : FldOk Γ cs f := fun c e => by
  obtain ⟨h1, h2⟩ := Bool.and_eq_true_iff.mp (List.all_eq_true.mp h c (by simpa using e))
  exact ⟨clsB_ok h1, show PySem.W.findIn Γ.K (.ref (Γ.cl c)) f = some none from of_decide_eq_true h2⟩
def makeB (Γ : Gam) (c : Str) : Bool := PySem.W.makesIn Γ.K (Γ.cl c) && PySem.W.keepIn Γ.K (.ref (Γ.cl c))
theorem makeB_ok {Γ : Gam} {mg : Str → Option Value} {c : Str} (g : mg c = some (.ref (Γ.cl c))) (h : makeB Γ c = true) : MakeX Γ mg c := ⟨g, (Bool.and_eq_true_iff.mp h).1, (Bool.and_eq_true_iff.mp h).2⟩
def oeB (Γ : Gam) (c : Str) : Bool := decide (PySem.W.findIn Γ.K (.ref (Γ.cl c)) "__ne__" = some (some (.builtin "object.__ne__"))) && decide (PySem.W.subIn Γ.K (.ref (Γ.cl c)) (.type "object") = some true)
theorem oeB_ok {Γ : Gam} {c : Str} (h : oeB Γ c = true) : OwnEqX Γ c := ⟨of_decide_eq_true (Bool.and_eq_true_iff.mp h).1, of_decide_eq_true (Bool.and_eq_true_iff.mp h).2⟩
def iiB (Γ : Gam) (tbl : List (Str × Bool)) (T : Str) : Bool := (tbl.all fun p => clsB Γ.K (Γ.cl p.1) && (decide (PySem.W.findIn Γ.K (.ref (Γ.cl p.1)) "__class__" = some (some (.builtin "object.__class__"))) && (decide (PySem.W.mroIn Γ.K (Γ.cl p.1) (.type "object") = some true) &&
  decide (PySem.W.kitOne Γ.K (.ref (Γ.cl p.1)) (.ref (Γ.cl T)) = some p.2)))) && (decide (PySem.W.specialIn Γ.K (.builtin "object.__class__") "__get__" = some (some (.builtin "getset_descriptor.__get__"))) && decide (PySem.W.takesIn Γ.K (.builtin "object.__class__") = some true))
theorem iiB_ok {Γ : Gam} {tbl : List (Str × Bool)} {T : Str} (h : iiB Γ tbl T = true) : IsIX Γ tbl T := by
  unfold iiB at h
  obtain ⟨h1, h2⟩ := Bool.and_eq_true_iff.mp h
  obtain ⟨h2, h3⟩ := Bool.and_eq_true_iff.mp h2
  refine ⟨fun c b e => ?_, of_decide_eq_true h2, of_decide_eq_true h3⟩
  have z := List.all_eq_true.mp h1 _ (lookup_mem e)
  simp only [Bool.and_eq_true, decide_eq_true_eq] at z
  obtain ⟨z1, z2, z3, z4⟩ := z
  exact ⟨clsB_ok z1, z2, z3, z4⟩
def excFB (Γ : Gam) (c : Str) : Bool := PySem.W.excIn Γ.K (Γ.cl c) [.type "ValueError", .type "Exception", .type "BaseException", .type "object"] "ValueError.__new__" && (PySem.W.keepIn Γ.K (.ref (Γ.cl c)) && (decide (PySem.W.subIn Γ.K (.ref (Γ.cl c)) (.type "BaseException") = some true) && decide (PySem.W.typeIn Γ.K (.ref (Γ.cl c)) = some (.type "type"))))
theorem excFB_ok {Γ : Gam} {mg : Str → Option Value} {c : Str} (g : mg c = some (.ref (Γ.cl c))) (h : excFB Γ c = true) : ExcF Γ mg c := by
  unfold excFB at h
  simp only [Bool.and_eq_true, decide_eq_true_eq] at h
  obtain ⟨h1, h2, h3, h4⟩ := h
  exact ⟨g, ⟨_, _, _, PySem.F.excBase_ValueError, h1⟩, h2, h3, h4⟩
/-- an error with an own __init__, beside its class object and its __init__ -/
def excIB (K : PySem.W.Frag) (C : Addr) (f : Str) : Bool := decide (PySem.W.findIn K (.ref C) "__setattr__" = some (some (.builtin "object.__setattr__"))) && (decide (PySem.W.subIn K (.ref C) (.type "BaseException") = some true) && (decide (PySem.W.typeIn K (.ref C) = some (.type "type")) &&
  (PySem.W.keepIn K (.ref C) && decide (PySem.W.findIn K (.ref C) f = some none))))
theorem excIB_ok {Γ : Gam} {mg : Str → Option Value} {c f p qual : Str} {st : Stmt} {fI : Addr} {fd : FuncData} (g : mg c = some (.ref (Γ.cl c))) (h : excIB Γ.K (Γ.cl c) f = true)
    (hc : ∃ nm q N bs bm sn sub ab col dd k0 k1 k2 k3 k5, Γ.K.lookup (Γ.cl c) = some (excClassObj nm q (Γ.cl c) N bs bm true sn sub ab col dd k0 k1 k2 k3 k5 "ValueError.__new__") ∧ PySem.HandSPX.refsVE bm = true)
    (F : Fun Γ.K "__init__" qual st fI fd) (hi : PySem.W.findIn Γ.K (.ref (Γ.cl c)) "__init__" = some (some (.ref fI))) (ht : PySem.W.typeIn Γ.K (.ref fI) = some (.type "function")) (hb : Binds Γ.K fd ["self", p] []) : ExcI Γ mg c f p st := by
  unfold excIB at h
  simp only [Bool.and_eq_true, decide_eq_true_eq] at h
  obtain ⟨h1, h2, h3, h4, h5⟩ := h
  exact ⟨g, ⟨hc, h1, h2, h3, h4⟩, h5, qual, fI, fd, F, hi, ht, hb⟩
/-! ### the end of a law without a lambda, of a law with lambdas -/
/-- the law's plain statement: at every script, locked or not, it says True -/
def Says (g : List D → Sto → Rt) : Prop := ∀ (ro : Bool) (ns : List Int), ns.length ≤ 63 → ∃ st', 1 ≤ List.length st' ∧ g [.obj 0] [.lst ro (ns.map .int)] = some (.ok (.bl true), st')
theorem sq_cell {K : PySem.W.Frag} {H : Hp} {a : Addr} {xs : List V} (h : SqL K H a xs) : (H a = some (.lst xs)) ∨ RoL K H a xs := by
  rcases h with (h | h) | h
  · exact .inl h
  · exact .inr (.inl h)
  · exact .inr (.inr h)
theorem spD_start {Γ : Gam} {g : List D → Sto → Rt} (hg : Says g) {H : Hp} {a : Addr} {ns : List Int} (hn : ns.length ≤ 63) (hT : LamX.Tabs Γ.T H) (hs : SqL Γ.K H a (ns.map V.int)) : spD Γ 1 g [.ref a] H (fun v _ => v = .bl true) fun _ _ _ => False := by
  have key : ∀ ro : Bool, CellR Γ (fun _ => a) 1 H a (.lst ro (ns.map .int)) → spD Γ 1 g [.ref a] H (fun v _ => v = .bl true) fun _ _ _ => False := fun ro hc => by
    obtain ⟨st', hl, e⟩ := hg ro ns hn
    have s : StR Γ (fun _ => a) [.lst ro (ns.map .int)] H := by
      refine ⟨fun n c h => ?_, fun i j c d hi hj _ _ _ => ?_, hT⟩
      · have z := get_lt h
        have e0 : n = 0 := by simpa using z
        subst e0
        cases h
        exact hc
      · have z1 := get_lt hi
        have z2 := get_lt hj
        simp at z1 z2
        omega
    refine ⟨rfl, fun _ => a, [.obj 0], [.lst ro (ns.map .int)], s, .cons (.obj (m := fun _ => a) (n := 0) (Nat.zero_lt_succ 0)) .nil, ?_⟩
    rw [e]
    exact ⟨hl, fun m' H' v _ _ _ r => by cases r; rfl⟩
  rcases sq_cell hs with h | h
  · exact key false ⟨_, h, rvL_ints ns⟩
  · exact key true ⟨_, h, rvL_ints ns⟩
end MP
end
section
set_option maxRecDepth 100000
namespace MP
open PySem PySem.Spec PyProof.Rows L2 PySem.W
/-! ### gcd and lcm -/
def fGcd : List D → Sto → Rt
  | [.int a, .int b], st => okD (.int ((Nat.gcd a.natAbs b.natAbs : Nat) : Int)) st
  | _, _ => none
theorem mono_fGcd : MonoFA fGcd := by
  intro d st r st' h
  unfold fGcd at h
  repeat' (split at h)
  all_goals first | exact mono_ok h | cases h
theorem cs_gcd {Γ : Gam} : CallSim Γ rGcd fGcd := fun
  | m, st, H, _, [.int i, .int j], Q, E, s, .cons (.int _) (.cons (.int _) .nil), h => ⟨i, j, rfl, h.ok s (.int _)⟩
theorem args_lcm3 (a b c : Value) : argsOk "math.lcm" ⟨[a, b, c], []⟩ := by unfold argsOk; kernel_rfl
theorem run_lcm3 (a : Int) (t : Tok) (b : Int) (u : Tok) (c : Int) (v : Tok) (hc0 : ¬(max 1 a.natAbs).log2 / 30 + 1 > 450) (hc1 : ¬(max a.natAbs b.natAbs).log2 / 30 + 1 > 450) (hc2 : ¬(max ((Nat.lcm 1 a.natAbs).lcm b.natAbs) c.natAbs).log2 / 30 + 1 > 450)
    (hsz : (((((Nat.lcm 1 a.natAbs).lcm b.natAbs).lcm c.natAbs : Nat) : Int)).natAbs.log2 < bitsLine) :
    Gives (Builtin.«math.lcm» ⟨[.int a t, .int b u, .int c v], []⟩) (.int (((((Nat.lcm 1 a.natAbs).lcm b.natAbs).lcm c.natAbs : Nat) : Int))) :=
  .of_wp fun M A E s Q h => by
    obtain ⟨hp, g, d, tk, os⟩ := s
    wp_walk
    rw [if_neg hc2]
    wp_walk
    (try (refine wpAny_ite_false (decide_eq_false (Nat.not_le.mpr hsz)) ?_; wp_walk))
    exact ⟨_, rfl, h⟩
/-- so large may the numbers of lcm be -/
def lcmOk (a b c : Int) : Bool := decide (¬(max 1 a.natAbs).log2 / 30 + 1 > 450) && (decide (¬(max a.natAbs b.natAbs).log2 / 30 + 1 > 450) && (decide (¬(max ((Nat.lcm 1 a.natAbs).lcm b.natAbs) c.natAbs).log2 / 30 + 1 > 450) && decide (((Nat.lcm 1 a.natAbs).lcm b.natAbs).lcm c.natAbs < 2 ^ 13500)))
abbrev lcm3 (a b c : Int) : Int := ((((Nat.lcm 1 a.natAbs).lcm b.natAbs).lcm c.natAbs : Nat) : Int)
def rLcm3 : List V → Hp → VK → Prop := fun vs H Q => ∃ a b c : Int, vs = [.int a, .int b, .int c] ∧ lcmOk a b c = true ∧ Q (.int (lcm3 a b c)) H
theorem cr_lcm3 {X : Cx} : CallR X (.builtin "math.lcm") rLcm3 := by
  intro pins s σ H vs us Q I r h
  obtain ⟨a, b, c, rfl, hk, q⟩ := h
  obtain ⟨t, u, v, rfl⟩ : ∃ t u v, us = [.int a t, .int b u, .int c v] := by
    cases r with
    | cons p q =>
      cases q with
      | cons p' q' =>
        cases q' with
        | cons p'' q'' =>
          cases q''
          obtain ⟨t, rfl⟩ := p
          obtain ⟨u, rfl⟩ := p'
          obtain ⟨v, rfl⟩ := p''
          exact ⟨t, u, v, rfl⟩
  unfold lcmOk at hk
  simp only [Bool.and_eq_true, decide_eq_true_eq] at hk
  obtain ⟨h0, h1, h2, h3⟩ := hk
  have hsz : (((((Nat.lcm 1 a.natAbs).lcm b.natAbs).lcm c.natAbs : Nat) : Int)).natAbs.log2 < bitsLine := by
    rw [Int.natAbs_natCast]
    have := mg_log (k := 13499) h3
    have e : bitsLine = 134217728 := by decide +kernel
    omega
  exact call_function_meets MGF.kind_lcm MGF.plain_lcm MGF.entry_lcm (args_lcm3 _ _ _) (run_lcm3 a t b u c v h0 h1 h2 hsz).meets ⟨.int _, H, I.tok _, ⟨_, rfl⟩, q⟩
def fLcm3 : List D → Sto → Rt
  | [.int a, .int b, .int c], st => if lcmOk a b c then okD (.int (lcm3 a b c)) st else none
  | _, _ => none
theorem mono_fLcm3 : MonoFA fLcm3 := by
  intro d st r st' h
  unfold fLcm3 at h
  repeat' (split at h)
  all_goals first | exact mono_ok h | cases h
theorem cs_lcm3 {Γ : Gam} : CallSim Γ rLcm3 fLcm3 := fun
  | m, st, H, _, [.int i, .int j, .int k], Q, E, s, .cons (.int _) (.cons (.int _) (.cons (.int _) .nil)), h => by
    dsimp only [fLcm3] at h
    split at h
    · rename_i hk
      exact ⟨i, j, k, rfl, hk, h.ok s (.int _)⟩
    · exact h.elim
section
variable {X : Cx} {Γ : Gam} {W : WX} {e : Expr} {es : List Expr} {das : List De} {pos : Pos}
/-- f(..), f a module's name for a built-in function -/
theorem sim_callBM {f : List D → Sto → Rt} {r : List V → Hp → VK → Prop} {id : String} {x : Str} {p : Pos} (hr : CallR X (.builtin id) r) (hc : CallSim Γ r f) (hf : MonoFA f) (hg : Gl X x) (hm : X.mg x = some (.builtin id)) (h : SimA X Γ W (e :: es) das)
    (hdb : (x == ("__debug__" : Str)) = false) (he : starEach (e :: es) X.env = (false, eval e X.env) :: starEach es X.env) (hpl : (backTo pos (starEach es X.env)).any (·.1) = false) : Sim X Γ W (.Call (.Name x p) (e :: es) [] pos) (dApp f das) :=
  ⟨mono_app h.mono hf, (pe_callBfun hr hg hm h.pa hdb he hpl).imp fun σ H Q q => tD_app h.mono hf hc q⟩
theorem ss_par3 {a b c : Expr} {i j l : Nat} {x y z : Str} {px py pz pt : Pos} {kt k2 pt2} (hc : X.calm = true) (hN : X.N.Nodup) (hi : X.N[i]? = some x) (hj : X.N[j]? = some y) (hl : X.N[l]? = some z) (hij : i ≠ j) (hil : i ≠ l) (hjl : j ≠ l) (hx : X.env.scope.names.lookup x = some .local) (hy : X.env.scope.names.lookup y = some .local) (hz : X.env.scope.names.lookup z = some .local) (ha : SimA X Γ W [a, b, c] das) (hd : das.length = 3)
    (hw : swappedStores [.Tuple [.Name x px, .Name y py, .Name z pz] kt pt] (.Tuple [a, b, c] k2 pt2) X.env = pure (some [x, y, z])) (hs : swapsWithSole [.Tuple [.Name x px, .Name y py, .Name z pz] kt pt] (.Tuple [a, b, c] k2 pt2) pos.line X.env = pure false) :
    SimS X Γ W (.Assign [.Tuple [.Name x px, .Name y py, .Name z pz] kt pt] (.Tuple [a, b, c] k2 pt2) pos) (dAsg (dApp fTup das) (.tp [.nm i, .nm j, .nm l])) := by
  refine ⟨mono_asg (mono_app ha.mono mono_fTup), (ps_par3 hc hN hi hj hl hij hil hjl hx hy hz ha.pa hw hs).imp fun D σ H ⟨m, ls, st, s, l0, h⟩ => ?_⟩
  refine ⟨m, ls, st, s, l0, ?_⟩
  have ma := fun r st' q => ha.mono ls st r st' q
  have hlen := fun ds st' (q : evA das ls st = some (.ok ds, st')) => (evA_len q).trans hd
  unfold dAsg dApp at h
  match evA das ls st, h, ma, hlen with
  | some (.exc c fs, st1), h, ma, _ =>
    have hl := ma _ _ rfl
    exact ⟨hl, fun m1 H1 dd e1 k1 s1 x1 => h.2 m1 H1 σ dd e1 k1 s1 (l0.mono e1 hl k1) x1⟩
  | some (.ok ds, st1), h, ma, hlen =>
    have hl := ma _ _ rfl
    refine ⟨hl, fun m1 H1 vs e1 k1 s1 r1 => ?_⟩
    have hds := hlen _ _ rfl
    match ds, r1, hds, h with
    | [d, d', d''], .cons (v := v) ra (.cons (v := w) rb (.cons (v := w') rc .nil)), _, h =>
      have h : ResS Γ m st.length H (some (.next, ((ls.set i (some d)).set j (some d')).set l (some d''), st1)) D W := h
      exact ⟨v, w, w', rfl, h.2 m1 H1 _ e1 k1 s1 ((((l0.mono e1 hl k1).set i ra).set j rb).set l rc)⟩
end
end MP
end
section
set_option maxRecDepth 100000
set_option maxHeartbeats 1000000
namespace MP
open PySem PySem.Spec PyProof.Rows L2

/-! ### comprehensions of two clauses -/
def loopD (gd : Gd) (t : Tg) (B : De) (lsw : Ls) : List D → Sto → Rt
  | [], st => if gdB gd st then okD .non st else none
  | d :: r, st => if gdB gd st then
      match asg t d lsw with
      | some ls1 => bindO (B ls1 st) fun _ st2 => loopD gd t B lsw r st2
      | none => none
    else none
theorem loopD_mono {gd : Gd} {t : Tg} {B : De} {lsw : Ls} (mB : Mono B) : ∀ (items : List D) (st : Sto) (r : Rs) (st' : Sto), loopD gd t B lsw items st = some (r, st') → st.length ≤ st'.length
  | [], st, r, st', h => by
    unfold loopD at h
    split at h
    · exact mono_ok h
    · cases h
  | d :: items, st, r, st', h => by
    unfold loopD at h
    split at h
    · split at h
      · exact bindO_mono (fun a s z => mB _ st a s z) (fun b st2 r st' h => loopD_mono mB items _ _ _ h) r st' h
      · cases h
    · cases h
theorem loopD_cons {gd : Gd} {t : Tg} {B : De} {lsw ls1 : Ls} {d : D} {r : List D} {st : Sto} (hg : gdB gd st = true) (ha : asg t d lsw = some ls1) : loopD gd t B lsw (d :: r) st = bindO (B ls1 st) fun _ st2 => loopD gd t B lsw r st2 := by
  rw [loopD, if_pos hg, ha]
def appD (k : Nat) : D → Sto → Rt := fun y st => match st[k]? with
  | some (.lst false acc) => if acc.length < LINE then some (.ok .non, st.set k (.lst false (acc ++ [y]))) else none
  | _ => none
theorem mono_appD {k : Nat} : MonoF (appD k) := fun y st r st' h => by
  unfold appD at h
  split at h
  · split at h
    · cases h
      rw [List.length_set]
      exact Nat.le_refl _
    · cases h
  · cases h
def ifJ (B : De) (ls : Ls) : D → Sto → Rt
  | .bl true, st2 => B ls st2
  | .bl false, st2 => okD .non st2
  | _, _ => none
def ifD (dt B : De) : De := fun ls st => bindO (dt ls st) (ifJ B ls)
theorem mono_ifJ {B : De} {ls : Ls} (mB : Mono B) : MonoF (ifJ B ls) := fun b st r st' h => by
  unfold ifJ at h
  split at h
  · exact mB _ _ _ _ h
  · exact mono_ok h
  · cases h
theorem mono_ifD {dt B : De} (mt : Mono dt) (mB : Mono B) : Mono (ifD dt B) := fun ls st r st' h => bindO_mono (fun a s z => mt ls st a s z) (mono_ifJ mB) r st' h
def inD (di1 : Di) (t1 : Tg) (vs1 : List Nat) (B1 : De) : De := fun ls st => match di1 ls st with
  | some (.it items gd, st1) => loopD gd t1 B1 (wipeL ls vs1) items st1
  | _ => none
theorem mono_inD {di1 : Di} {t1 : Tg} {vs1 : List Nat} {B1 : De} (mi : MonoI di1) (mB : Mono B1) : Mono (inD di1 t1 vs1 B1) := fun ls st r st' h => by
  unfold inD at h
  split at h
  · rename_i e
    exact Nat.le_trans (mi _ _ _ _ e) (loopD_mono mB _ _ _ _ h)
  · cases h
def endD (de : De) (k : Nat) : De := fun ls st => bindO (de ls st) (appD k)
theorem mono_endD {de : De} {k : Nat} (me : Mono de) : Mono (endD de k) := fun ls st r st' h => bindO_mono (fun a s z => me ls st a s z) mono_appD r st' h
abbrev bodyD (dt : De) (di1 : Di) (t1 : Tg) (dt1 de : De) (vs1 : List Nat) (k : Nat) : De := ifD dt (inD di1 t1 vs1 (ifD dt1 (endD de k)))
def giveD (k : Nat) : D → Sto → Rt := fun _ st => okD (.obj k) st
def dLc2 (di : Di) (t : Tg) (dt : De) (di1 : Di) (t1 : Tg) (dt1 de : De) (vs vs1 : List Nat) : De := fun ls st => match di ls st with
  | some (.it items gd, st1) => bindO (loopD gd t (bodyD dt di1 t1 dt1 de vs1 st1.length) (wipeL ls vs) items (st1 ++ [.lst false []])) (giveD st1.length)
  | some (.exc c fs, st1) => some (.exc c fs, st1)
  | none => none
theorem mono_give {k : Nat} : MonoF (giveD k) := fun _ _ _ _ h => mono_ok h
theorem mono_lc2 {di di1 : Di} {t t1 : Tg} {dt dt1 de : De} {vs vs1 : List Nat} (mi : MonoI di) (mt : Mono dt) (mi1 : MonoI di1) (mt1 : Mono dt1) (me : Mono de) : Mono (dLc2 di t dt di1 t1 dt1 de vs vs1) := fun ls st r st' h => by
  unfold dLc2 at h
  split at h
  · rename_i items gd st1 e
    have z := bindO_mono (fun a s z => loopD_mono (mono_ifD mt (mono_inD mi1 (mono_ifD mt1 (mono_endD me)))) _ _ a s z) mono_give r st' h
    rw [List.length_append] at z
    exact Nat.le_trans (mi _ _ _ _ e) (Nat.le_trans (Nat.le_add_right _ _) z)
  · rename_i c fs st1 e
    cases h
    exact mi _ _ _ _ e
  · cases h
section
variable {Γ : Gam}
theorem loop_turn {J : It} {items : List D} {gd : Gd} {t : Tg} {B : De} {lsw : Ls} {σ : L2.St} {vs : List Nat} {mi mb m0 : Nat → Addr} {Li Lb : Nat} {Hi Hb H0 : Hp} {st0 : Sto} {F : Hp → Prop} {E : XK} (mB : Mono B) (hv : ∀ j ∈ tslots t, j ∈ vs)
    (hit : IterOk Γ J items gd mi Li Hi) (ei : Ext mi Li mb) (hi : Li ≤ Lb) (ki : Keep Hi Hb) (l : LsR Γ mb Lb Hb lsw (wipe σ vs))
    (e0 : Ext mb Lb m0) (hl0 : Lb ≤ st0.length) (k0 : Keep Hb H0) (s0 : StR Γ m0 st0 H0) (h : Res Γ m0 st0.length H0 (loopD gd t B lsw items st0) (fun _ H => F H) E) :
    ∃ W : Nat → Nat → Hp → Prop, (∃ n, W 0 n H0) ∧ ∀ i n H, W i n H → (J.stop i H ∧ F H) ∨ (J.go i H ∧ ∃ Nx : Hp → Prop, (∀ H', Nx H' → ∃ n', n' < n ∧ W (i + 1) n' H') ∧ ∀ x H', J.yld i H x H' → tG Γ t x (wipe σ vs) H' fun σ2 H2 => wipe σ2 vs = wipe σ vs ∧
      ∃ m ls1 st, Ext mb Lb m ∧ Lb ≤ st.length ∧ Keep Hb H2 ∧ StR Γ m st H2 ∧ LsR Γ m st.length H2 ls1 σ2 ∧ Res Γ m st.length H2 (B ls1 st) (fun _ H3 => Nx H3) EF) := by
  refine ⟨fun i n H => n = items.length - i ∧ i ≤ items.length ∧ ∃ m st, Ext mb Lb m ∧ Lb ≤ st.length ∧ Keep Hb H ∧ StR Γ m st H ∧ Res Γ m st.length H (loopD gd t B lsw (items.drop i) st) (fun _ H => F H) E,
    ⟨items.length, rfl, Nat.zero_le _, m0, st0, e0, hl0, k0, s0, h⟩, ?_⟩
  rintro i n H2 ⟨rfl, hil, m2, st2, e2, hl2, k2, s2, q2⟩
  have hguard : gdB gd st2 = true := by
    by_cases c : gdB gd st2 = true
    · exact c
    · cases e : items.drop i with
      | nil => rw [e, loopD, if_neg c] at q2; exact q2.elim
      | cons d r => rw [e, loopD, if_neg c] at q2; exact q2.elim
  obtain ⟨hstop, hgo⟩ := hit i m2 st2 H2 hil (ei.trans e2 hi) (Nat.le_trans hi hl2) (ki.trans k2) s2 hguard
  by_cases hlt : i < items.length
  · refine .inr ⟨(hgo hlt).1, fun H' => ∃ m st, Ext mb Lb m ∧ Lb ≤ st.length ∧ Keep Hb H' ∧ StR Γ m st H' ∧ Res Γ m st.length H' (loopD gd t B lsw (items.drop (i + 1)) st) (fun _ H => F H) E, fun H' n => ⟨_, by omega, rfl, hlt, n⟩, fun x H3 y => ?_⟩
    obtain ⟨d, hd, k3, s3, rd⟩ := (hgo hlt).2 x H3 y
    have hdrop : items.drop i = d :: items.drop (i + 1) := by
      rw [List.drop_eq_getElem_cons hlt]
      have : items[i] = d := by
        rw [List.getElem?_eq_getElem hlt] at hd
        exact Option.some.inj hd
      rw [this]
    rw [hdrop] at q2
    cases ea : asg t d lsw with
    | none =>
      rw [loopD, if_pos hguard, ea] at q2
      exact q2.elim
    | some ls1 =>
      rw [loopD_cons hguard ea] at q2
      have l3 := (l.mono e2 hl2 k2).mono (Ext.refl _ _) (Nat.le_refl _) k3
      refine ⟨m2, st2.length, lsw, d, ls1, l3, rd, ea, fun σ3 hl3 hk3 => ⟨wipe_same (by rw [← hl3.len, asg_len ea, l3.len]) fun j hj => hk3 j fun z => hj (hv j z), m2, ls1, st2, e2, hl2, k2.trans k3, s3, hl3, ?_⟩⟩
      have mL : MonoF fun (_ : D) st2 => loopD gd t B lsw (items.drop (i + 1)) st2 := fun _ st a st' q => loopD_mono mB _ st a st' q
      have q3 := q2.mono (Ext.refl _ _) k3 (Nat.le_refl _) fun a st' q => bindO_mono (fun a s z => mB ls1 st2 a s z) mL a st' q
      exact (Res.bindO q3 (fun a st' q => mB ls1 st2 a st' q) mL).imp fun v H4 ⟨m4, d4, st4, e4, k4, hl4, s4, r4, q4⟩ => ⟨m4, st4, e2.trans e4 hl2, Nat.le_trans hl2 hl4, (k2.trans k3).trans k4, s4, q4⟩
  · have e : i = items.length := by omega
    refine .inl ⟨hstop e, ?_⟩
    rw [e, List.drop_length, loopD, if_pos hguard] at q2
    exact q2.ok s2 .non
end
end MP
end
section
set_option maxRecDepth 100000
set_option maxHeartbeats 1000000
namespace MP
open PySem PySem.Spec PyProof.Rows L2
section
variable {X : Cx} {Γ : Gam} {W : WX} {e a b c o tg tg1 iter iter1 elt : Expr} {da db dc dt dt1 de : De} {pos p2 py spos : Pos} {t t1 : Tg} {di di1 : Di} {scope : Scope} {own : List (Str × Nat)}
theorem tLc2_of (mi : MonoI di) (mt : Mono dt) (mi1 : MonoI di1) (mt1 : Mono dt1) (me : Mono de) {vs vs1 : List Nat} (hv : ∀ j ∈ tslots t, j ∈ vs) (hv1 : ∀ j ∈ tslots t1, j ∈ vs1) {σ : L2.St} {H : Hp} {Q : VK} (h : tD Γ W (dLc2 di t dt di1 t1 dt1 de vs vs1) σ H Q) :
    tLc2 (tI Γ W di) (tG Γ t) (tT Γ WF dt) (tI Γ WF di1) (tG Γ t1) (tT Γ WF dt1) (tD Γ WF de) vs vs1 σ H Q := by
  obtain ⟨m, ls, st, s, l, h⟩ := h
  refine ⟨m, ls, st, s, l, ?_⟩
  unfold dLc2 at h
  have mi := fun r st' q => mi ls st r st' q
  match di ls st, h, mi with
  | some (.exc c fs, st1), h, _ => exact h
  | some (.it items gd, st1), h, mi =>
    have hl := mi _ _ rfl
    refine ⟨hl, fun m1 H1 J e1 k1 s1 hit D hD => ?_⟩
    have mE : Mono (ifD dt1 (endD de st1.length)) := mono_ifD mt1 (mono_endD me)
    have mB : Mono (bodyD dt di1 t1 dt1 de vs1 st1.length) := mono_ifD mt (mono_inD mi1 mE)
    have h : Res Γ m st.length H (bindO (loopD gd t (bodyD dt di1 t1 dt1 de vs1 st1.length) (wipeL ls vs) items (st1 ++ [.lst false []])) (giveD st1.length)) Q (fun c d H' => W c d σ H') := h
    have kD : Keep H1 (upd H1 D (.lst [])) := .new hD
    have eD : Ext m1 st1.length (extM m1 st1.length D) := extM_ext
    have sD := s1.push (p := D) (c := .lst false []) (o := .lst []) hD ⟨[], upd_same, .nil⟩
    have hlen : (st1 ++ [Cell.lst false []]).length = st1.length + 1 := by rw [List.length_append, List.length_singleton]
    have h' := h.mono (e1.trans eD hl) (k1.trans kD) (L' := (st1 ++ [Cell.lst false []]).length) (by rw [hlen]; exact Nat.le_trans hl (Nat.le_succ _)) fun a st' q => bindO_mono (fun a s z => loopD_mono mB _ _ a s z) mono_give a st' q
    have hL := (Res.bindO h' (fun a st' q => loopD_mono mB _ _ a st' q) mono_give).imp (Q' := fun _ H2 => Q (.ref D) H2) fun v H2 ⟨m2, d2, st2, e2, k2, hl2, s2, r2, q2⟩ => by
      have z : Rv Γ.K m2 st2.length H2 (.obj st1.length) (.ref D) := by
        have mD2 : m2 st1.length = D := by rw [e2 _ (by rw [hlen]; exact Nat.lt_succ_self _), extM_new]
        rw [← mD2]
        exact .obj (Nat.lt_of_lt_of_le (by rw [hlen]; exact Nat.lt_succ_self _) hl2)
      exact Res.ok q2 s2 z
    have l0 : LsR Γ (extM m1 st1.length D) (st1 ++ [Cell.lst false []]).length (upd H1 D (.lst [])) (wipeL ls vs) (wipe σ vs) := (((l.mono e1 hl k1).mono eD (by rw [hlen]; exact Nat.le_succ _) kD)).wipe vs
    obtain ⟨Wf, hW0, hW⟩ := loop_turn (Γ := Γ) mB hv hit eD (by rw [hlen]; exact Nat.le_succ _) kD l0 (Ext.refl _ _) (Nat.le_refl _) (Keep.refl _) sD hL
    refine ⟨Wf, hW0, fun i n H2 w => ?_⟩
    rcases hW i n H2 w with ⟨stop, fin⟩ | ⟨go, Nx, hNx, step⟩
    · exact .inl ⟨stop, fin⟩
    refine .inr ⟨go, Nx, hNx, fun x H3 y => ?_⟩
    obtain ⟨a1, a2, a3, a4, a5, l5, r5, as5, z⟩ := step x H3 y
    refine ⟨a1, a2, a3, a4, a5, l5, r5, as5, fun σ2 hl2 hk2 => ?_⟩
    obtain ⟨hw2, m2, ls2, st2, e2, hb2, k2, s2, ll2, q2⟩ := z σ2 hl2 hk2
    have mD2 : m2 st1.length = D := by rw [e2 _ (by rw [hlen]; exact Nat.lt_succ_self _), extM_new]
    have lt2 : st1.length < st2.length := Nat.lt_of_lt_of_le (by rw [hlen]; exact Nat.lt_succ_self _) hb2
    refine ⟨hw2, m2, ls2, st2, s2, ll2, (Res.bindO q2 (fun a st' q => mt ls2 st2 a st' q) (mono_ifJ (mono_inD mi1 mE))).imp fun v H4 ⟨m4, d4, st4, e4, k4, hl4, s4, r4, q4⟩ => ?_⟩
    unfold ifJ at q4
    split at q4
    · cases r4
      refine ⟨true, rfl, iteT ?_⟩
      have lt4 : st1.length < st4.length := Nat.lt_of_lt_of_le lt2 hl4
      have mD4 : m4 st1.length = D := by rw [e4 _ lt2, mD2]
      refine ⟨m4, ls2, st4, s4, ll2.mono e4 hl4 k4, ?_⟩
      unfold inD at q4
      have mi1' := fun r st' q => mi1 ls2 st4 r st' q
      match di1 ls2 st4, q4, mi1' with
      | some (.it items1 gd1, st5), q4, mi1' =>
        have hl5 := mi1' _ _ rfl
        refine ⟨hl5, fun m5 H5 J1 e5 k5 s5 hit1 => ?_⟩
        have q4 : Res Γ m4 st4.length H4 (loopD gd1 t1 (ifD dt1 (endD de st1.length)) (wipeL ls2 vs1) items1 st5) (fun _ H3 => Nx H3) EF := q4
        have q5 := q4.mono e5 k5 hl5 fun a st' q => loopD_mono mE _ _ a st' q
        have lt5 : st1.length < st5.length := Nat.lt_of_lt_of_le lt4 hl5
        have mD5 : m5 st1.length = D := by rw [e5 _ lt4, mD4]
        have l5' := (((ll2.mono e4 hl4 k4).mono e5 hl5 k5)).wipe vs1
        obtain ⟨W1, hW10, hW1⟩ := loop_turn (Γ := Γ) mE hv1 hit1 (Ext.refl _ _) (Nat.le_refl _) (Keep.refl _) l5' (Ext.refl _ _) (Nat.le_refl _) (Keep.refl _) s5 q5
        refine ⟨W1, hW10, fun j n1 H6 w1 => ?_⟩
        rcases hW1 j n1 H6 w1 with ⟨stop1, fin1⟩ | ⟨go1, Nx1, hNx1, step1⟩
        · exact .inl ⟨stop1, fin1⟩
        refine .inr ⟨go1, Nx1, hNx1, fun x1 H7 y1 => ?_⟩
        obtain ⟨b1, b2, b3, b4, b5, l7, r7, as7, z7⟩ := step1 x1 H7 y1
        refine ⟨b1, b2, b3, b4, b5, l7, r7, as7, fun σ3 hl3 hk3 => ?_⟩
        obtain ⟨hw3, m8, ls8, st8, e8, hb8, k8, s8, ll8, q8⟩ := z7 σ3 hl3 hk3
        have lt8 : st1.length < st8.length := Nat.lt_of_lt_of_le lt5 hb8
        have mD8 : m8 st1.length = D := by rw [e8 _ lt5, mD5]
        refine ⟨hw3, m8, ls8, st8, s8, ll8, (Res.bindO q8 (fun a st' q => mt1 ls8 st8 a st' q) (mono_ifJ (mono_endD me))).imp fun v H9 ⟨m9, d9, st9, e9, k9, hl9, s9, r9, q9⟩ => ?_⟩
        unfold ifJ at q9
        split at q9
        · cases r9
          refine ⟨true, rfl, iteT ?_⟩
          have lt9 : st1.length < st9.length := Nat.lt_of_lt_of_le lt8 hl9
          have mD9 : m9 st1.length = D := by rw [e9 _ lt8, mD8]
          refine ⟨m9, ls8, st9, s9, ll8.mono e9 hl9 k9, (Res.bindO q9 (fun a st' q => me ls8 st9 a st' q) mono_appD).imp fun v H10 ⟨m10, d10, st10, e10, k10, hl10, s10, r10, q10⟩ => ?_⟩
          unfold appD at q10
          split at q10
          · rename_i acc eacc
            split at q10
            · rename_i hacc
              obtain ⟨ws, hw, rw'⟩ := s10.lst eacc
              have mD10 : m10 st1.length = D := by rw [e10 _ lt9, mD9]
              have hwD := hw
              rw [mD10] at hwD
              refine ⟨ws, hwD, by rw [← rw'.length]; exact line_lt hacc, ?_⟩
              have := q10.putN (o := .lst (ws ++ [v])) s10 eacc rfl rfl (fun k => ⟨_, upd_same, (rw'.snoc r10).mono (Ext.refl _ _) (Nat.le_refl _) k⟩) .non
              rw [mD10] at this
              exact this
            · exact q10.elim
          · exact q10.elim
        · cases r9
          exact ⟨false, rfl, iteF (Res.ok q9 s9 .non)⟩
        · exact q9.elim
      | some (.exc c fs, st5), q4, _ => exact q4.elim
      | none, q4, _ => exact q4.elim
    · cases r4
      exact ⟨false, rfl, iteF (Res.ok q4 s4 .non)⟩
    · exact q4.elim
/-- [elt for tg in iter for tg1 in iter1] -/
theorem sim_lc2 {vs1 : List Nat} (hc : X.calm = true) (hN : X.N.Nodup) (hi : SimI X Γ W tg iter di) (ok : BlkOk X.N X.env.scope scope own) (hvs : ∀ i ∈ vs1, i ∈ own.map (·.2)) (hv : ∀ j ∈ tslots t, j ∈ own.map (·.2)) (hv1 : ∀ j ∈ tslots t1, j ∈ vs1)
    (hg : InB X scope fun Y => PG Y tg (tG Γ t)) (hi1 : InB X scope fun Y => SimI Y Γ WF tg1 iter1 di1) (hg1 : InB X scope fun Y => PG Y tg1 (tG Γ t1)) (he : InB X scope fun Y => Sim Y Γ WF elt de)
    (hs : ∀ x, foldedSetIterable iter X.env x = pure x) (hs1 : ∀ env x, foldedSetIterable iter1 env x = pure x) :
    Sim X Γ W (.ListComp elt [⟨tg, iter, [], 0⟩, ⟨tg1, iter1, [], 0⟩] scope pos) (dLc2 di t dYes di1 t1 dYes de (own.map (·.2)) vs1) :=
  ⟨mono_lc2 hi.mono mono_yes hi1.one.mono mono_yes he.one.mono, (pe_lc2 hc hN hi.pi ok hvs hg (fun _ _ _ _ _ => pts_yes) (fun s H C cl fp => (hi1 s H C cl fp).pi) hg1 (fun _ _ _ _ _ => pts_yes) (fun s H C cl fp => (he s H C cl fp).pe) hs hs1).imp fun σ H Q h => tLc2_of hi.mono mono_yes hi1.one.mono mono_yes he.one.mono hv hv1 h⟩
end
end MP
end
section
set_option maxRecDepth 100000
namespace MP
open PySem PySem.Spec PyProof.Rows L2
/-! ### in a list -/
theorem un65 {k : Nat} {A : Around} (r : Room k A) : A.units + 65 < cLine := by
  have := r.un
  omega
def inV (st : Sto) (d e : D) : Option Bool := match toP st DEEP d, toP st DEEP e with
  | some p, some (.list ds) => if SeqAt.shaped p && SeqAt.shaped (.list ds) then some (ds.any fun z => PyData.eqv z p) else none
  | _, _ => none
theorem inV_at {st : Sto} {d e : D} {b : Bool} (h : inV st d e = some b) : ∃ p ds, toP st DEEP d = some p ∧ toP st DEEP e = some (.list ds) ∧ SeqAt.shaped p = true ∧ SeqAt.shaped (.list ds) = true ∧ b = ds.any fun z => PyData.eqv z p := by
  unfold inV at h
  split at h
  · rename_i p ds e1 e2
    split at h
    · rename_i hs
      cases h
      obtain ⟨s1, s2⟩ := Bool.and_eq_true_iff.mp hs
      exact ⟨p, ds, e1, e2, s1, s2, rfl⟩
    · cases h
  · cases h
def fIn (d e : D) (st : Sto) : Rt := match inV st d e with | some b => okD (.bl b) st | none => none
def fNotIn (d e : D) (st : Sto) : Rt := match inV st d e with | some b => okD (.bl (!b)) st | none => none
theorem mono_fIn : MonoF2 fIn := by
  intro d e st r st' h
  unfold fIn at h
  split at h
  · exact mono_ok h
  · cases h
theorem mono_fNotIn : MonoF2 fNotIn := by
  intro d e st r st' h
  unfold fNotIn at h
  split at h
  · exact mono_ok h
  · cases h
variable {Γ : Gam}
theorem os_in : OpSim Γ (rInD Γ.K) fIn := fun m st H x y d e Q E s rx ry h => by
  unfold fIn at h
  split at h
  · rename_i b z
    obtain ⟨p, ds, e1, e2, s1, s2, rfl⟩ := inV_at z
    exact ⟨p, ds, rx.dp s DEEP e1, ry.dp s DEEP e2, s1, s2, h.ok s (.bl _)⟩
  · exact h.elim
theorem os_notIn : OpSim Γ (rNotInD Γ.K) fNotIn := fun m st H x y d e Q E s rx ry h => by
  unfold fNotIn at h
  split at h
  · rename_i b z
    obtain ⟨p, ds, e1, e2, s1, s2, rfl⟩ := inV_at z
    exact ⟨p, ds, rx.dp s DEEP e1, ry.dp s DEEP e2, s1, s2, h.ok s (.bl _)⟩
  · exact h.elim
end MP
end
section
set_option maxRecDepth 100000
set_option maxHeartbeats 1000000
namespace MP
open PySem PySem.Spec PyProof.Rows L2

/-! ### keys -/
mutual
theorem hash_keyD (w : World) : ∀ d : D, (keyD d).hash w = hashK (keyD d)
  | .int i => by simp only [keyD, NestedKey.hash, hashK]
  | .tup l => by simp only [keyD, NestedKey.hash, hashK, hash_keyDs w l]
  | .non => by simp only [keyD, NestedKey.hash, hashK]
  | .bl _ => by simp only [keyD, NestedKey.hash, hashK]
  | .str _ => by simp only [keyD, NestedKey.hash, hashK]
  | .obj _ => by simp only [keyD, NestedKey.hash, hashK]
theorem hash_keyDs (w : World) : ∀ l : List D, NestedKey.hashes w (keyDs l) = hashKs (keyDs l)
  | [] => by simp only [keyDs, NestedKey.hashes, hashKs]
  | d :: r => by simp only [keyDs, NestedKey.hashes, hashKs, hash_keyD w d, hash_keyDs w r]
end
theorem keyDs_inj {n k : Nat} (ih : ∀ {d e : D}, okKey n d = true → okKey k e = true → keyD d = keyD e → d = e) : ∀ {l r : List D}, l.all (okKey n) = true → r.all (okKey k) = true → keyDs l = keyDs r → l = r
  | [], [], _, _, _ => rfl
  | [], _ :: _, _, _, h => by simp [keyDs] at h
  | _ :: _, [], _, _, h => by simp [keyDs] at h
  | a :: l, b :: r, h1, h2, h => by
    rw [List.all_cons, Bool.and_eq_true_iff] at h1 h2
    simp only [keyDs, List.cons.injEq] at h
    rw [ih h1.1 h2.1 h.1, keyDs_inj ih h1.2 h2.2 h.2]
theorem keyD_inj : ∀ {n k : Nat} {d e : D}, okKey n d = true → okKey k e = true → keyD d = keyD e → d = e
  | _, _, .int i, .int j, _, _, h => by simp only [keyD, NestedKey.num.injEq] at h; rw [h]
  | _, _, .int i, .tup l, _, _, h => by simp [keyD] at h
  | _, _, .tup l, .int j, _, _, h => by simp [keyD] at h
  | 0, _, .tup l, .tup r, h, _, _ => by simp [okKey] at h
  | _ + 1, 0, .tup l, .tup r, _, h, _ => by simp [okKey] at h
  | n + 1, k + 1, .tup l, .tup r, h1, h2, h => by
    simp only [keyD, NestedKey.tup.injEq] at h
    rw [okKey] at h1 h2
    rw [keyDs_inj (n := n) (k := k) keyD_inj h1 h2 h]
  | n, _, .non, _, h, _, _ => by cases n <;> simp [okKey] at h
  | n, _, .bl _, _, h, _, _ => by cases n <;> simp [okKey] at h
  | n, _, .str _, _, h, _, _ => by cases n <;> simp [okKey] at h
  | n, _, .obj _, _, h, _, _ => by cases n <;> simp [okKey] at h
  | _, n, .int _, .non, _, h, _ => by cases n <;> simp [okKey] at h
  | _, n, .int _, .bl _, _, h, _ => by cases n <;> simp [okKey] at h
  | _, n, .int _, .str _, _, h, _ => by cases n <;> simp [okKey] at h
  | _, n, .int _, .obj _, _, h, _ => by cases n <;> simp [okKey] at h
  | _, n, .tup _, .non, _, h, _ => by cases n <;> simp [okKey] at h
  | _, n, .tup _, .bl _, _, h, _ => by cases n <;> simp [okKey] at h
  | _, n, .tup _, .str _, _, h, _ => by cases n <;> simp [okKey] at h
  | _, n, .tup _, .obj _, _, h, _ => by cases n <;> simp [okKey] at h
theorem okTop_ok {d : D} (h : okTop d = true) : okKey 8 d = true := (Bool.and_eq_true_iff.mp h).2
theorem okTop_inj {d e : D} (h1 : okTop d = true) (h2 : okTop e = true) (h : keyD d = keyD e) : d = e := keyD_inj (okTop_ok h1) (okTop_ok h2) h
/-! ### the dict by its keys -/
def lookD : List (D × D) → D → Option D
  | [], _ => none
  | (a, v) :: r, k => if beqD a k then some v else lookD r k
def putP (ps : List (D × D)) (k v : D) : List (D × D) := if (lookD ps k).isSome then ps.map (fun p => if beqD p.1 k then (p.1, v) else p) else ps ++ [(k, v)]
theorem beqD_key {a k : D} (h1 : okTop a = true) (h2 : okTop k = true) : beqD a k = decide (keyD a = keyD k) := by
  by_cases h : a = k
  · subst h
    rw [beqD_refl, decide_eq_true rfl]
  · cases e : beqD a k with
    | true => exact absurd (beqD_eq e) h
    | false => exact (decide_eq_false (fun z => h (okTop_inj h1 h2 z))).symm
abbrev RQ : (NestedKey × Addr × V) → (NestedKey × Addr × Value) → Prop := fun q x => q.1 = x.1 ∧ q.2.1 = x.2.1 ∧ RelV q.2.2 x.2.2
section
variable {Γ : Gam} {X : Cx} {pins : List (Addr × Obj)} {σ : L2.St} {H : Hp} {s : Shared} {m : Nat → Addr} {L : Nat}
theorem atKey_pos {κ : Type} [DecidableEq κ] {k : κ} {x : κ × Addr × Value} {r : List (κ × Addr × Value)} (h : x.1 = k) : atKey (x :: r) k = some x.2 := by
  simp [atKey, List.find?_cons, h]
theorem atKey_neg {κ : Type} [DecidableEq κ] {k : κ} {x : κ × Addr × Value} {r : List (κ × Addr × Value)} (h : ¬ x.1 = k) : atKey (x :: r) k = atKey r k := by
  simp [atKey, List.find?_cons, h]
theorem look_at {k : D} (hk : okTop k = true) : ∀ {ps : List (D × D)} {qs : List (NestedKey × Addr × V)} {xs : List (NestedKey × Addr × Value)}, DctR Γ.K m L H ps qs → Paired RQ qs xs →
    (lookD ps k = none ∧ atKey xs (keyD k) = none) ∨ ∃ d b v u, lookD ps k = some d ∧ atKey xs (keyD k) = some (b, u) ∧ Rv Γ.K m L H d v ∧ RelV v u
  | _, _, _, .nil, .nil => .inl ⟨rfl, rfl⟩
  | _, _, _, .cons (k := a) (d := d) (b := ba) (v := v) o r1 r2 rs, .cons (b := x) h t => by
    obtain ⟨e1, e2, e3⟩ := h
    dsimp only at e1 e2 e3
    unfold lookD
    rw [beqD_key o hk]
    by_cases c : keyD a = keyD k
    · rw [if_pos (decide_eq_true c)]
      exact .inr ⟨d, x.2.1, v, x.2.2, rfl, atKey_pos (e1.symm.trans c), r2, e3⟩
    · have c' : ¬ decide (keyD a = keyD k) = true := fun z => c (of_decide_eq_true z)
      rw [if_neg c', atKey_neg (fun z => c (e1.trans z))]
      exact look_at hk rs t
theorem Rv.nestedAll {n : Nat} (ih : ∀ {d : D} {v : V} {u : Value}, okKey n d = true → Rv Γ.K m L H d v → RelV v u → NestedIs s.heap (keyD d) u ∧ (keyD d).depth ≤ n) : ∀ {l : List D} {vs : List V} {us : List Value}, l.all (okKey n) = true → RvL Γ.K m L H l vs → Vals vs us → NestedAll s.heap (keyDs l) us ∧ NestedKey.depthAll (keyDs l) ≤ n
  | _, _, _, _, .nil, .nil => ⟨by rw [keyDs]; exact .nil, by rw [keyDs, NestedKey.depthAll]; exact Nat.zero_le _⟩
  | _, _, _, h, .cons r rs, .cons u us => by
    rw [List.all_cons, Bool.and_eq_true_iff] at h
    obtain ⟨a1, a2⟩ := ih h.1 r u
    obtain ⟨b1, b2⟩ := Rv.nestedAll ih h.2 rs us
    rw [keyDs, NestedKey.depthAll]
    exact ⟨.cons a1 b1, Nat.max_le.mpr ⟨a2, b2⟩⟩
theorem Rv.nested (I : Inv X pins σ H s) (hK : X.K = Γ.K) : ∀ {n : Nat} {d : D} {v : V} {u : Value}, okKey n d = true → Rv Γ.K m L H d v → RelV v u → NestedIs s.heap (keyD d) u ∧ (keyD d).depth ≤ n
  | n, .int i, _, u, _, .int _, hu => by
    obtain ⟨t, rfl⟩ := hu
    rw [keyD, NestedKey.depth]
    exact ⟨.int i t, Nat.zero_le _⟩
  | n + 1, .tup l, _, u, h, .tup (a := a) (vs := vs) h1 r, hu => by
    cases (show u = Value.ref a from hu)
    rw [← hK] at h1
    obtain ⟨its, rv, p, _⟩ := I.tuple h1
    obtain ⟨o, ho, hc, k, hd⟩ := p
    rw [okKey] at h
    obtain ⟨a1, a2⟩ := Rv.nestedAll (n := n) (fun h r u => Rv.nested I hK h r u) h r rv
    rw [keyD, NestedKey.depth]
    exact ⟨.tup ho hc hd (by simpa using a1), Nat.succ_le_succ a2⟩
  | 0, .tup l, _, _, h, _, _ => by simp [okKey] at h
  | n, .non, _, _, h, _, _ => by cases n <;> simp [okKey] at h
  | n, .bl _, _, _, h, _, _ => by cases n <;> simp [okKey] at h
  | n, .str _, _, _, h, _, _ => by cases n <;> simp [okKey] at h
  | n, .obj _, _, _, h, _, _ => by cases n <;> simp [okKey] at h
theorem Rv.keyIs (I : Inv X pins σ H s) (hK : X.K = Γ.K) {d : D} {b : Addr} (h : okTop d = true) (r : Rv Γ.K m L H d (.ref b)) : (nestedKind X.prog X.w).is s.heap (keyD d) b := Rv.nested I hK (okTop_ok h) r rfl
theorem dctR_all (I : Inv X pins σ H s) (hK : X.K = Γ.K) : ∀ {ps : List (D × D)} {qs : List (NestedKey × Addr × V)} {xs : List (NestedKey × Addr × Value)}, DctR Γ.K m L H ps qs → Paired RQ qs xs →
    (∀ x ∈ xs, (nestedKind X.prog X.w).is s.heap x.1 x.2.1) ∧ xs.map (fun x => (⟨hashK x.1, .ref x.2.1, x.2.2⟩ : DictEntry)) = xs.map (entryOfKey (nestedKind X.prog X.w))
  | _, _, _, .nil, .nil => ⟨fun x hx => by simp at hx, rfl⟩
  | _, _, _, .cons (k := a) o r1 r2 rs, .cons (b := x) h t => by
    obtain ⟨x1, x2, x3⟩ := x
    obtain ⟨e1, e2, e3⟩ := h
    dsimp only at e1 e2 e3
    subst e1 e2
    obtain ⟨i1, i2⟩ := dctR_all I hK rs t
    refine ⟨fun y hy => ?_, ?_⟩
    · rcases List.mem_cons.mp hy with e | e
      · subst e
        exact r1.keyIs I hK o
      · exact i1 y e
    · rw [List.map_cons, List.map_cons, i2]
      congr 1
      unfold entryOfKey
      show (⟨hashK (keyD a), _, _⟩ : DictEntry) = ⟨(keyD a).hash X.w, _, _⟩
      rw [hash_keyD]
/-- what the library knows of such a dict -/
theorem dct_of (I : Inv X pins σ H s) (hK : X.K = Γ.K) {a : Addr} {ps : List (D × D)} {qs : List (NestedKey × Addr × V)} (e : H a = some (dctO a qs)) (r : DctR Γ.K m L H ps qs) :
    qs.length ≤ sizeLine ∧ (a == sysModules) = false ∧ ∃ xs, Paired RQ qs xs ∧ s.heap.DictOfH (nestedKind X.prog X.w) a xs := by
  obtain ⟨⟨h1, h2, xs, h3, o, es, ep, g1, g2, g3, g4, g5⟩, _, _⟩ := I.hok a _ e
  obtain ⟨i1, i2⟩ := dctR_all I hK r h3
  exact ⟨h1, h2, xs, h3, o, es, ep, g1, g2, g3, g4.trans i2, i1, g5.1⟩
/-- .. with its count of new keys -/
theorem dct_ofE (I : Inv X pins σ H s) (hK : X.K = Γ.K) {a : Addr} {ps : List (D × D)} {qs : List (NestedKey × Addr × V)} (e : H a = some (dctO a qs)) (r : DctR Γ.K m L H ps qs) :
    qs.length ≤ sizeLine ∧ (a == sysModules) = false ∧ ∃ xs, Paired RQ qs xs ∧ DictE (nestedKind X.prog X.w) s.heap a xs := by
  obtain ⟨⟨h1, h2, xs, h3, o, es, ep, g1, g2, g3, g4, g5, g6⟩, _, _⟩ := I.hok a _ e
  obtain ⟨i1, i2⟩ := dctR_all I hK r h3
  subst g6
  exact ⟨h1, h2, xs, h3, o, es, g1, g2, g3, g4.trans i2, i1, g5⟩
theorem dct_ok {P : Program} {w : World} {H' : Hp} {h' : Heap} {a : Addr} {qs : List (NestedKey × Addr × V)} {xs : List (NestedKey × Addr × Value)} (h1 : qs.length ≤ sizeLine) (h2 : (a == sysModules) = false) (h3 : Paired RQ qs xs)
    (h4 : ∃ o es ep, h'.get? a = some o ∧ o.ExactDict ∧ o.data = .dict es ep ∧ es.toList = xs.map (fun x => (⟨hashK x.1, .ref x.2.1, x.2.2⟩ : DictEntry)) ∧ (xs.map (·.1)).Nodup ∧ ep = es.size) : ObjOk P w H' h' a (dctO a qs) := by
  have h4' := h4
  obtain ⟨o, es, ep, g1, g2, g3, g4, g5⟩ := h4
  refine ⟨⟨h1, h2, xs, h3, h4'⟩, ⟨o, g1⟩, fun h1 h2 hφ k => ?_⟩
  obtain ⟨a1, a2, ys, a3, o, es, ep, b1, b2⟩ := hφ
  exact ⟨a1, a2, ys, a3, o, es, ep, k _ b1, b2⟩
theorem dct_len : ∀ {ps : List (D × D)} {qs : List (NestedKey × Addr × V)}, DctR Γ.K m L H ps qs → ps.length = qs.length
  | _, _, .nil => rfl
  | _, _, .cons _ _ _ rs => by rw [List.length_cons, List.length_cons, dct_len rs]
/-- the pairs behind a store -/
def putQ (qs : List (NestedKey × Addr × V)) (k : NestedKey) (b : Addr) (v : V) (old : Bool) : List (NestedKey × Addr × V) := if old then qs.map (fun q => if q.1 = k then (q.1, q.2.1, v) else q) else qs ++ [(k, b, v)]
theorem DctR.snoc {k d : D} {b : Addr} {v : V} (o : okTop k = true) (r1 : Rv Γ.K m L H k (.ref b)) (r2 : Rv Γ.K m L H d v) : ∀ {ps : List (D × D)} {qs : List (NestedKey × Addr × V)}, DctR Γ.K m L H ps qs → DctR Γ.K m L H (ps ++ [(k, d)]) (qs ++ [(keyD k, b, v)])
  | _, _, .nil => .cons o r1 r2 .nil
  | _, _, .cons o' a1 a2 rs => .cons o' a1 a2 (DctR.snoc o r1 r2 rs)
theorem DctR.repl {k d : D} {v : V} (o : okTop k = true) (r2 : Rv Γ.K m L H d v) : ∀ {ps : List (D × D)} {qs : List (NestedKey × Addr × V)}, DctR Γ.K m L H ps qs → DctR Γ.K m L H (ps.map fun p => if beqD p.1 k then (p.1, d) else p) (qs.map fun q => if q.1 = keyD k then (q.1, q.2.1, v) else q)
  | _, _, .nil => .nil
  | _, _, .cons (k := a) o' a1 a2 rs => by
    rw [List.map_cons, List.map_cons]
    dsimp only
    rw [beqD_key o' o]
    by_cases c : keyD a = keyD k
    · rw [if_pos (decide_eq_true c), if_pos c]
      exact .cons o' a1 r2 (DctR.repl o r2 rs)
    · rw [if_neg (fun z => c (of_decide_eq_true z)), if_neg c]
      exact .cons o' a1 a2 (DctR.repl o r2 rs)
theorem DctR.put {ps : List (D × D)} {qs : List (NestedKey × Addr × V)} {k d : D} {b : Addr} {v : V} (r : DctR Γ.K m L H ps qs) (o : okTop k = true) (r1 : Rv Γ.K m L H k (.ref b)) (r2 : Rv Γ.K m L H d v) : DctR Γ.K m L H (putP ps k d) (putQ qs (keyD k) b v (lookD ps k).isSome) := by
  unfold putP putQ
  cases (lookD ps k).isSome with
  | true => exact r.repl o r2
  | false => exact r.snoc o r1 r2
theorem pair_snoc {α β : Type} {F : α → β → Prop} {x : α} {y : β} (h : F x y) : ∀ {l : List α} {r : List β}, Paired F l r → Paired F (l ++ [x]) (r ++ [y])
  | _, _, .nil => .cons h .nil
  | _, _, .cons a t => .cons a (pair_snoc h t)
theorem pair_repl {k : NestedKey} {v : V} {u : Value} (h : RelV v u) : ∀ {qs : List (NestedKey × Addr × V)} {xs : List (NestedKey × Addr × Value)}, Paired RQ qs xs → Paired RQ (qs.map fun q => if q.1 = k then (q.1, q.2.1, v) else q) (xs.map (putAt k u))
  | _, _, .nil => .nil
  | _, _, .cons (a := q) (b := x) e t => by
    rw [List.map_cons, List.map_cons]
    refine .cons ?_ (pair_repl h t)
    obtain ⟨q1, q2, q3⟩ := q
    obtain ⟨x1, x2, x3⟩ := x
    obtain ⟨e1, e2, e3⟩ := e
    dsimp only at e1 e2 e3
    subst e1 e2
    unfold putAt
    dsimp only
    by_cases c : q1 = k
    · rw [if_pos c, if_pos c]
      exact ⟨rfl, rfl, h⟩
    · rw [if_neg c, if_neg c]
      exact ⟨rfl, rfl, e3⟩
theorem putQ_len {qs : List (NestedKey × Addr × V)} {k : NestedKey} {b : Addr} {v : V} {old : Bool} : (putQ qs k b v old).length ≤ qs.length + 1 := by
  unfold putQ
  cases old <;> simp
/-- a store, at the library's level -/
theorem dct_put (I : Inv X pins σ H s) (hK : X.K = Γ.K) {a b : Addr} {ps : List (D × D)} {qs : List (NestedKey × Addr × V)} {k : D} {v : V} {u : Value} (e : H a = some (dctO a qs)) (r : DctR Γ.K m L H ps qs) (o : okTop k = true) (r1 : Rv Γ.K m L H k (.ref b)) (rv : RelV v u) (hl : qs.length < sizeLine)
    {xs : List (NestedKey × Addr × Value)} (h3 : Paired RQ qs xs) {h' : Heap} {tk : Nat} (hd : DictE (nestedKind X.prog X.w) h' a (storedH xs (keyD k) b u)) (hs : Heap.SameBut a s.heap h') :
    Inv X pins σ (upd H a (dctO a (putQ qs (keyD k) b v (lookD ps k).isSome))) { s with heap := h', toks := tk } := by
  obtain ⟨ob, es, g1, g2, g3, g4, g5, g6⟩ := hd
  have h2 := (dct_of I hK e r).2.1
  have hp : Paired RQ (putQ qs (keyD k) b v (lookD ps k).isSome) (storedH xs (keyD k) b u) := by
    rcases look_at (k := k) o r h3 with ⟨e1, e2⟩ | ⟨d, b', v', u', e1, e2, _, _⟩
    · rw [e1, storedH_new e2]
      exact pair_snoc ⟨rfl, rfl, rv⟩ h3
    · rw [e1, storedH_old e2]
      exact pair_repl rv h3
  have hh : (storedH xs (keyD k) b u).map (entryOfKey (nestedKind X.prog X.w)) = (storedH xs (keyD k) b u).map (fun x => (⟨hashK x.1, .ref x.2.1, x.2.2⟩ : DictEntry)) := by
    have hx : ∀ {xs : List (NestedKey × Addr × Value)}, (∀ x ∈ xs, ∃ d, x.1 = keyD d) → xs.map (entryOfKey (nestedKind X.prog X.w)) = xs.map (fun x => (⟨hashK x.1, .ref x.2.1, x.2.2⟩ : DictEntry)) := fun {xs} hx => by
      refine List.map_congr_left fun x hx' => ?_
      obtain ⟨d, hd⟩ := hx x hx'
      unfold entryOfKey
      show (⟨(x.1).hash X.w, _, _⟩ : DictEntry) = _
      rw [hd, hash_keyD]
    refine hx fun x hx' => ?_
    have kd : ∀ {ps : List (D × D)} {qs : List (NestedKey × Addr × V)} {xs : List (NestedKey × Addr × Value)}, DctR Γ.K m L H ps qs → Paired RQ qs xs → ∀ x ∈ xs, ∃ d, x.1 = keyD d := by
      intro ps qs xs r p
      induction r generalizing xs with
      | nil => cases p; intro x hx; simp at hx
      | cons o' a1 a2 rs ih =>
        cases p with
        | cons h t =>
          intro y hy
          rcases List.mem_cons.mp hy with z | z
          · subst z
            exact ⟨_, h.1.symm⟩
          · exact ih t y z
    unfold storedH at hx'
    split at hx'
    · obtain ⟨y, hy, rfl⟩ := List.mem_map.mp hx'
      obtain ⟨d, hd⟩ := kd r h3 y hy
      unfold putAt
      split <;> exact ⟨d, hd⟩
    · rcases List.mem_append.mp hx' with z | z
      · exact kd r h3 x z
      · rw [List.mem_singleton.mp z]
        exact ⟨k, rfl⟩
  refine d_write I (by rw [e]; exact True.intro) hs ⟨ob, g1⟩ (dct_ok (Nat.le_trans putQ_len hl) h2 hp ⟨ob, es, _, g1, g2, g3, g4.trans hh, g6, rfl⟩)
end
end MP
end
section
set_option maxRecDepth 100000
set_option maxHeartbeats 1000000
namespace MP
open PySem PySem.Spec PyProof.Rows L2

/-! ### a dict that is asked for a key -/
def AskD (K : PySem.W.Frag) (H : Hp) (x y : V) (P : (Nat → Addr) → Nat → Addr → Addr → List (D × D) → List (NestedKey × Addr × V) → D → Prop) : Prop :=
  ∃ m L a b ps qs k, x = .ref a ∧ y = .ref b ∧ H a = some (dctO a qs) ∧ DctR K m L H ps qs ∧ okTop k = true ∧ Rv K m L H k (.ref b) ∧ P m L a b ps qs k
theorem room8 {A : Around} {P : Program} {w : World} (hu : A.units + 65 < cLine) : (nestedKind P w).room A.in1 := by
  show A.in1.units + 8 < cLine
  have e : A.in1.units = A.units + 1 := rfl
  omega
section
variable {X : Cx} {Γ : Gam}
def rDIn (K : PySem.W.Frag) : R2 := fun y x H Q => AskD K H x y fun _ _ _ _ ps _ k => Q (.bl (lookD ps k).isSome) H
def rDNotIn (K : PySem.W.Frag) : R2 := fun y x H Q => AskD K H x y fun _ _ _ _ ps _ k => Q (.bl (!(lookD ps k).isSome)) H
def rDIx (K : PySem.W.Frag) : R2 := fun x y H Q => AskD K H x y fun m L _ _ ps _ k => ∃ d, lookD ps k = some d ∧ ∀ v, Rv K m L H d v → Q v H
theorem op_dIn (hK : X.K = Γ.K) (hu : X.A.units + 65 < cLine) : OpR X (compareOp .In) (rDIn Γ.K) := by
  intro pins s σ H y x v u Q I ry rx h
  obtain ⟨m, L, a, b, ps, qs, k, rfl, rfl, e, r, ok, rk, q⟩ := h
  cases rx
  cases ry
  obtain ⟨h1, h2, xs, h3, hd⟩ := dct_of I hK e r
  refine wpAny_in_heap (room8 hu) (rk.keyIs I hK ok) h2 hd ?_
  have z : (atKey xs (keyD k)).isSome = (lookD ps k).isSome := by
    rcases look_at (k := k) ok r h3 with ⟨e1, e2⟩ | ⟨_, _, _, _, e1, e2, _⟩ <;> rw [e1, e2] <;> rfl
  rw [z]
  exact ⟨.bl _, H, I.tok _, rfl, q⟩
theorem op_dNotIn (hK : X.K = Γ.K) (hu : X.A.units + 65 < cLine) : OpR X (compareOp .NotIn) (rDNotIn Γ.K) := by
  intro pins s σ H y x v u Q I ry rx h
  obtain ⟨m, L, a, b, ps, qs, k, rfl, rfl, e, r, ok, rk, q⟩ := h
  cases rx
  cases ry
  obtain ⟨h1, h2, xs, h3, hd⟩ := dct_of I hK e r
  refine wpAny_notIn_heap (room8 hu) (rk.keyIs I hK ok) h2 hd ?_
  have z : (atKey xs (keyD k)).isSome = (lookD ps k).isSome := by
    rcases look_at (k := k) ok r h3 with ⟨e1, e2⟩ | ⟨_, _, _, _, e1, e2, _⟩ <;> rw [e1, e2] <;> rfl
  rw [z]
  exact ⟨.bl _, H, I.tok _, rfl, q⟩
theorem ix_dict (hK : X.K = Γ.K) (hu : X.A.units + 65 < cLine) : IxR X (rDIx Γ.K) := by
  intro value slice pins s σ H x y v u Q I rx ry h hs
  obtain ⟨m, L, a, b, ps, qs, k, rfl, rfl, e, r, ok, rk, d, hd, q⟩ := h
  cases rx
  cases ry
  obtain ⟨h1, h2, xs, h3, hdd⟩ := dct_of I hK e r
  rcases look_at (k := k) ok r h3 with ⟨e1, e2⟩ | ⟨d', b', v', u', e1, e2, rd, ru⟩
  · rw [e1] at hd; cases hd
  · rw [e1] at hd
    cases hd
    exact subscriptTail_builtinR (x := u') hdd.typeIs PySem.F.slot_dict_getitem.lookup
      (wpAny_getItem_heap (Q := fun r s' => r = u' ∧ EP X pins σ Q r s') (room8 hu) (rk.keyIs I hK ok) hdd e2 ⟨rfl, v', H, I.tok _, ru, q v' rd⟩) hs
/-! in a tuple -/
def rInTD (K : PySem.W.Frag) : R2 := fun x y H Q => ∃ d ds, Dp K H x d ∧ Dp K H y (.tuple ds) ∧ SeqAt.shaped d = true ∧ SeqAt.shaped (.tuple ds) = true ∧ Q (.bl (ds.any fun z => PyData.eqv z d)) H
def rNotInTD (K : PySem.W.Frag) : R2 := fun x y H Q => ∃ d ds, Dp K H x d ∧ Dp K H y (.tuple ds) ∧ SeqAt.shaped d = true ∧ SeqAt.shaped (.tuple ds) = true ∧ Q (.bl (!ds.any fun z => PyData.eqv z d)) H
theorem op_inTD (hu : X.A.units + 65 < cLine) : OpR X (compareOp .In) (rInTD X.K) := by
  intro pins s σ H x y v u Q I rx ry h
  obtain ⟨d, ds, hd, he, sd, se, q⟩ := h
  obtain ⟨as, r1⟩ := Dp.reads I d x v hd rx
  obtain ⟨bs, r2⟩ := Dp.reads I (.tuple ds) y u he ry
  exact SeqAt.in_tuple_reads r2 r1 (SeqAt.canLay_of_shaped se) (SeqAt.canLay_of_shaped sd) (room_in_shaped sd hu) ⟨.bl _, H, I, rfl, q⟩
theorem op_notInTD (hu : X.A.units + 65 < cLine) : OpR X (compareOp .NotIn) (rNotInTD X.K) := by
  intro pins s σ H x y v u Q I rx ry h
  obtain ⟨d, ds, hd, he, sd, se, q⟩ := h
  obtain ⟨as, r1⟩ := Dp.reads I d x v hd rx
  obtain ⟨bs, r2⟩ := Dp.reads I (.tuple ds) y u he ry
  exact SeqAt.notIn_tuple_reads r2 r1 (SeqAt.canLay_of_shaped se) (SeqAt.canLay_of_shaped sd) (room_in_shaped sd hu) ⟨.bl _, H, I, rfl, q⟩
end
/-! on data -/
def inVT (st : Sto) (d e : D) : Option Bool := match toP st DEEP d, toP st DEEP e with
  | some p, some (.tuple ds) => if SeqAt.shaped p && SeqAt.shaped (.tuple ds) then some (ds.any fun z => PyData.eqv z p) else none
  | _, _ => none
theorem inVT_at {st : Sto} {d e : D} {b : Bool} (h : inVT st d e = some b) : ∃ p ds, toP st DEEP d = some p ∧ toP st DEEP e = some (.tuple ds) ∧ SeqAt.shaped p = true ∧ SeqAt.shaped (.tuple ds) = true ∧ b = ds.any fun z => PyData.eqv z p := by
  unfold inVT at h
  split at h
  · rename_i p ds e1 e2
    split at h
    · rename_i hs
      cases h
      obtain ⟨s1, s2⟩ := Bool.and_eq_true_iff.mp hs
      exact ⟨p, ds, e1, e2, s1, s2, rfl⟩
    · cases h
  · cases h
def dctAt (st : Sto) : D → Option (List (D × D))
  | .obj n => match st[n]? with
    | some (.dct ps) => some ps
    | _ => none
  | _ => none
/-- whether d is in e: a dict, a list, a tuple -/
def inG (st : Sto) (d e : D) : Option Bool := match dctAt st e with
  | some ps => if okTop d then some (lookD ps d).isSome else none
  | none => match e with
    | .tup _ => inVT st d e
    | _ => inV st d e
def fInG (d e : D) (st : Sto) : Rt := match inG st d e with | some b => okD (.bl b) st | none => none
def fNotInG (d e : D) (st : Sto) : Rt := match inG st d e with | some b => okD (.bl (!b)) st | none => none
theorem mono_fInG : MonoF2 fInG := by
  intro d e st r st' h
  unfold fInG at h
  split at h
  · exact mono_ok h
  · cases h
theorem mono_fNotInG : MonoF2 fNotInG := by
  intro d e st r st' h
  unfold fNotInG at h
  split at h
  · exact mono_ok h
  · cases h
def fIxG (d e : D) (st : Sto) : Rt := match dctAt st d with
  | some ps => if okTop e then match lookD ps e with | some v => okD v st | none => none else none
  | none => fIx d e st
theorem mono_fIxG : MonoF2 fIxG := by
  intro d e st r st' h
  unfold fIxG at h
  split at h
  · split at h
    · split at h
      · exact mono_ok h
      · cases h
    · cases h
  · exact mono_fIx _ _ _ _ _ h
section
variable {Γ : Gam} {m : Nat → Addr} {st : Sto} {H : Hp}
theorem dctAt_at {d : D} {ps : List (D × D)} (h : dctAt st d = some ps) : ∃ n, d = .obj n ∧ st[n]? = some (.dct ps) := by
  unfold dctAt at h
  split at h
  · rename_i n
    split at h
    · rename_i e
      cases h
      exact ⟨n, rfl, e⟩
    · cases h
  · cases h
theorem askD (s : StR Γ m st H) {d k : D} {x y : V} {ps : List (D × D)} {P : (Nat → Addr) → Nat → Addr → Addr → List (D × D) → List (NestedKey × Addr × V) → D → Prop} (hd : dctAt st d = some ps) (rx : Rv Γ.K m st.length H d x) (ok : okTop k = true) (rk : Rv Γ.K m st.length H k y)
    (h : ∀ n b qs, d = .obj n → st[n]? = some (.dct ps) → y = .ref b → H (m n) = some (dctO (m n) qs) → DctR Γ.K m st.length H ps qs → P m st.length (m n) b ps qs k) : AskD Γ.K H x y P := by
  obtain ⟨n, rfl, e⟩ := dctAt_at hd
  cases rx
  obtain ⟨qs, h1, r⟩ := s.cell n _ e
  cases k with
  | tup l =>
    cases rk with
    | tup a1 a2 => exact ⟨m, st.length, m n, _, ps, qs, .tup l, rfl, rfl, h1, r, ok, .tup a1 a2, h n _ qs rfl e rfl h1 r⟩
  | _ => simp [okTop, isTupD] at ok
abbrev rInG (K : PySem.W.Frag) : R2 := fun x y H Q => rDIn K x y H Q ∨ (rInTD K x y H Q ∨ rInD K x y H Q)
abbrev rNotInG (K : PySem.W.Frag) : R2 := fun x y H Q => rDNotIn K x y H Q ∨ (rNotInTD K x y H Q ∨ rNotInD K x y H Q)
abbrev rIxG (K : PySem.W.Frag) : R2 := fun x y H Q => rDIx K x y H Q ∨ rIx K x y H Q
theorem op_inG {X : Cx} (hK : X.K = Γ.K) (hu : X.A.units + 65 < cLine) : OpR X (compareOp .In) (rInG Γ.K) := (op_dIn hK hu).or (by rw [← hK]; exact (op_inTD hu).or (op_inD hu))
theorem op_notInG {X : Cx} (hK : X.K = Γ.K) (hu : X.A.units + 65 < cLine) : OpR X (compareOp .NotIn) (rNotInG Γ.K) := (op_dNotIn hK hu).or (by rw [← hK]; exact (op_notInTD hu).or (op_notInD hu))
theorem ix_G {X : Cx} (hK : X.K = Γ.K) (hu : X.A.units + 65 < cLine) : IxR X (rIxG Γ.K) := (ix_dict hK hu).or (by rw [← hK]; exact ix_seq)
theorem os_inG : OpSim Γ (rInG Γ.K) fInG := fun m st H x y d e Q E s rx ry h => by
  unfold fInG at h
  split at h
  · rename_i b z
    unfold inG at z
    split at z
    · rename_i ps hd
      split at z
      · rename_i ok
        cases z
        exact .inl (askD s hd ry ok rx fun n b qs _ _ _ _ _ => h.ok s (.bl _))
      · cases z
    · split at z
      · obtain ⟨p, ds, e1, e2, s1, s2, rfl⟩ := inVT_at z
        exact .inr (.inl ⟨p, ds, rx.dp s DEEP e1, ry.dp s DEEP e2, s1, s2, h.ok s (.bl _)⟩)
      · obtain ⟨p, ds, e1, e2, s1, s2, rfl⟩ := inV_at z
        exact .inr (.inr ⟨p, ds, rx.dp s DEEP e1, ry.dp s DEEP e2, s1, s2, h.ok s (.bl _)⟩)
  · exact h.elim
theorem os_notInG : OpSim Γ (rNotInG Γ.K) fNotInG := fun m st H x y d e Q E s rx ry h => by
  unfold fNotInG at h
  split at h
  · rename_i b z
    unfold inG at z
    split at z
    · rename_i ps hd
      split at z
      · rename_i ok
        cases z
        exact .inl (askD s hd ry ok rx fun n b qs _ _ _ _ _ => h.ok s (.bl _))
      · cases z
    · split at z
      · obtain ⟨p, ds, e1, e2, s1, s2, rfl⟩ := inVT_at z
        exact .inr (.inl ⟨p, ds, rx.dp s DEEP e1, ry.dp s DEEP e2, s1, s2, h.ok s (.bl _)⟩)
      · obtain ⟨p, ds, e1, e2, s1, s2, rfl⟩ := inV_at z
        exact .inr (.inr ⟨p, ds, rx.dp s DEEP e1, ry.dp s DEEP e2, s1, s2, h.ok s (.bl _)⟩)
  · exact h.elim
theorem os_ixG : OpSim Γ (rIxG Γ.K) fIxG := fun m st H x y d e Q E s rx ry h => by
  unfold fIxG at h
  split at h
  · rename_i ps hd
    split at h
    · rename_i ok
      split at h
      · rename_i v z
        exact .inl (askD s hd rx ok ry fun n b qs _ _ _ _ _ => ⟨v, z, fun v rv => h.ok s rv⟩)
      · exact h.elim
    · exact h.elim
  · exact .inr (os_ix m st H x y d e Q E s rx ry h)
end
/-! ### {}, setdefault, get -/
def fDNew : List D → Sto → Rt := fun _ st => some (.ok (.obj st.length), st ++ [.dct []])
def tDNewN : TE := fun _ H Q => ∀ p, H p = none → Q (.ref p) (upd H p (dctO p []))
theorem pe_dnewN {X : Cx} {pos : Pos} : PE X (.Dict [] [] pos) tDNewN := ⟨fun pins s σ H Q I h =>
  wpAny_Dict_empty ⟨.ref s.heap.objs.size, _, I.laid (a := s.heap.objs.size) (o := dctO s.heap.objs.size []) (t' := s.toks) (fun _ _ q => Heap.get?_push_of_some _ q) (Nat.le_refl _)
    (dct_ok (Nat.zero_le _) (beq_eq_false_iff_ne.mpr (Ne.symm (Nat.ne_of_lt I.big))) .nil ⟨_, #[], 0, Heap.get?_push_size _ rfl, ⟨rfl, rfl, rfl⟩, rfl, rfl, List.nodup_nil, rfl⟩), rfl, h _ (I.hok.fresh (Nat.le_refl _))⟩⟩
def dDNew : De := fun _ st => some (.ok (.obj st.length), st ++ [.dct []])
theorem mono_dnew : Mono dDNew := fun ls st r st' h => by
  cases h
  rw [List.length_append]
  exact Nat.le_add_right _ _
theorem sim_dnew {X : Cx} {Γ : Gam} {W : WX} {pos : Pos} : Sim X Γ W (.Dict [] [] pos) dDNew := by
  refine ⟨mono_dnew, pe_dnewN.imp fun σ H Q ⟨m, ls, st, s, l, h⟩ p hp => ?_⟩
  have k : Keep H (upd H p (dctO p [])) := .new hp
  have e : Ext m st.length (extM m st.length p) := extM_ext
  have q := h.2 (extM m st.length p) (upd H p (dctO p [])) (.ref p) e k (s.push hp ⟨[], upd_same, .nil⟩)
  refine q ?_
  have hl : (st ++ [Cell.dct []]).length = st.length + 1 := by rw [List.length_append, List.length_singleton]
  have z := Rv.obj (K := Γ.K) (m := extM m st.length p) (H := upd H p (dctO p [])) (n := st.length) (L := st.length + 1) (Nat.lt_succ_self _)
  rw [extM_new] at z
  rw [hl]
  exact z
/-! methods of dicts -/
section
variable {X : Cx} {Γ : Gam} {W : WX}
def rSetDef (K : PySem.W.Frag) : V → List V → Hp → VK → Prop := fun x xs H Q => ∃ y v, xs = [y, v] ∧ AskD K H x y fun m L a b ps qs k =>
  (∃ d, lookD ps k = some d ∧ ∀ v, Rv K m L H d v → Q v H) ∨ (lookD ps k = none ∧ qs.length < sizeLine ∧ Q v (upd H a (dctO a (putQ qs (keyD k) b v false))))
theorem mt_setdefN (hK : X.K = Γ.K) (hu : X.A.units + 65 < cLine) : MtR X "dict.setdefault" (rSetDef Γ.K) := by
  intro pins s σ H x xs v us Q I rx rxs h
  obtain ⟨y, w, rfl, m, L, a, b, ps, qs, k, rfl, rfl, e, r, ok, rk, q⟩ := h
  cases rx
  cases rxs with
  | cons ry rt =>
    cases rt with
    | cons rw_ rt =>
      cases rt
      cases ry
      obtain ⟨h1, h2, xs, h3, hd⟩ := dct_ofE I hK e r
      have hz : xs.length ≤ sizeLine := by rw [← Paired.length h3]; exact h1
      refine call_default_E (room8 hu) (rk.keyIs I hK ok) h2 hd hz (fun p hp => ?_) fun hn h' hd' hs => ?_
      · rcases look_at (k := k) ok r h3 with ⟨e1, e2⟩ | ⟨d', b', v', u', e1, e2, rd, ru⟩
        · rw [e2] at hp; cases hp
        · rw [e2] at hp
          cases hp
          rcases q with ⟨d, ed, q⟩ | ⟨ed, hl, q⟩
          · rw [e1] at ed
            cases ed
            exact ⟨v', H, I.tok _, ru, q v' rd⟩
          · rw [e1] at ed; cases ed
      · rcases look_at (k := k) ok r h3 with ⟨e1, e2⟩ | ⟨d', b', v', u', e1, e2, rd, ru⟩
        · rcases q with ⟨d, ed, q⟩ | ⟨ed, hl, q⟩
          · rw [e1] at ed; cases ed
          · refine ⟨w, _, ?_, rw_, q⟩
            have z := dct_put (tk := s.toks + (nestedKind X.prog X.w).draws (keyD k)) I hK e r ok rk rw_ hl h3 hd' hs
            rw [e1] at z
            exact z
        · rw [e2] at hn; cases hn
def rGetD2 (K : PySem.W.Frag) : V → List V → Hp → VK → Prop := fun x xs H Q => ∃ y v, xs = [y, v] ∧ AskD K H x y fun m L _ _ ps _ k =>
  (∃ d, lookD ps k = some d ∧ ∀ v, Rv K m L H d v → Q v H) ∨ (lookD ps k = none ∧ Q v H)
theorem mt_getN2 (hK : X.K = Γ.K) (hu : X.A.units + 65 < cLine) : MtR X "dict.get" (rGetD2 Γ.K) := by
  intro pins s σ H x xs v us Q I rx rxs h
  obtain ⟨y, w, rfl, m, L, a, b, ps, qs, k, rfl, rfl, e, r, ok, rk, q⟩ := h
  cases rx
  cases rxs with
  | @cons _ _ _ _ ry rt =>
    cases rt with
    | @cons _ uw _ _ rw_ rt =>
      cases rt
      cases ry
      obtain ⟨h1, h2, xs, h3, hd⟩ := dct_of I hK e r
      refine call_meetsIn F.slot_dict_get hd.typeIs F.entry_dict_get (F.args_dict_get_3 _ _ _) (meetsH_dict_get_default (nestedKind X.prog X.w) a b h2 uw) ⟨room8 hu, keyD k, xs, rk.keyIs I hK ok, hd, ?_⟩
      rcases look_at (k := k) ok r h3 with ⟨e1, e2⟩ | ⟨d', b', v', u', e1, e2, rd, ru⟩
      · rcases q with ⟨d, ed, q⟩ | ⟨ed, q⟩
        · rw [e1] at ed; cases ed
        · rw [e2]
          exact ⟨w, H, I.tok _, rw_, q⟩
      · rcases q with ⟨d, ed, q⟩ | ⟨ed, q⟩
        · rw [e1] at ed
          cases ed
          rw [e2]
          exact ⟨v', H, I.tok _, ru, q v' rd⟩
        · rw [e1] at ed; cases ed
/-- d.m(..), d such a dict -/
def tBMD (K : PySem.W.Frag) (r : V → List V → Hp → VK → Prop) (to : TE) (t : TA) : TE := fun σ H Q => to σ H fun x H1 => (∃ m L a ps qs, x = .ref a ∧ H1 a = some (dctO a qs) ∧ DctR K m L H1 ps qs) ∧ t σ H1 fun vs H2 => r x vs H2 Q
theorem pe_bmD {o e : Expr} {es : List Expr} {to : TE} {t : TA} {id : String} {name : Str} {apos cpos : Pos} {r : V → List V → Hp → VK → Prop} (hK : X.K = Γ.K) (pa : PlainAttrs "dict") (slot : Slot "dict" name id) (hty : typeOf (.builtin id) = pure (.type "method_descriptor")) (hm : MtR X id r) (ho : PE X o to) (ha : PA X (e :: es) t)
    (hbase : attributeBase o name X.env (eval o X.env) = eval o X.env)
    (hfew : ((backTo cpos (starEach (e :: es) X.env)).all (fun x => !x.1) && (backToKw cpos (keywordEach [] X.env)).all (fun x => x.1.isSome)
      && decide ((e :: es).length + ([] : List Keyword).length + (if ([] : List Keyword).isEmpty then 0 else 1) < 30)) = true)
    (hline : (apos.endLine == cpos.line) = true) (hs : starEach (e :: es) X.env = (false, eval e X.env) :: starEach es X.env) (hplain : (backTo cpos (starEach es X.env)).any (·.1) = false) :
    PE X (.Call (.Attribute o name apos) (e :: es) [] cpos) (tBMD Γ.K r to t) := by
  refine ⟨fun pins s σ H Q I h => ?_⟩
  refine wpAny_Call_method_late hbase hfew hline rfl (thn (ho.run pins s σ H _ I h) fun v s1 ⟨x, H1, I1, r1, ty, q1⟩ => ?_)
  obtain ⟨m, L, a, ps, qs, rfl, e0, r0⟩ := ty
  cases r1
  obtain ⟨_, _, xs, _, hd⟩ := dct_of I1 hK e0 r0
  have hd2 := hd
  obtain ⟨ob, _, _, g1, g2, _⟩ := hd2
  refine ⟨"dict", id, pa, slot, hty, hd.typeIs, fun a' z => ?_, ?_⟩
  · cases z
    exact ⟨ob, g1, g2.2.1⟩
  · have hA := ha.run cpos pins s1 σ H1 _ I1 q1
    rw [hs] at hA ⊢
    refine Calls.callWith_builtin (by show (false || (backTo cpos (starEach es X.env)).any (·.1)) = false; rw [hplain] <;> rfl) (Calls.evalArgs_plain ?_)
    exact thn hA fun us s2 ⟨vs, H2, I2, r2, q2⟩ => hm pins s2 σ H2 (.ref a) vs (.ref a) us Q I2 rfl r2 q2
def methDK (f : D → List D → Sto → Rt) (das : List De) (ls : Ls) (x : D) (st1 : Sto) : Rt := match dctAt st1 x with
  | some _ => dApp (f x) das ls st1
  | none => none
def dMethD (f : D → List D → Sto → Rt) (da : De) (das : List De) : De := fun ls st => bindR (da ls st) (methDK f das ls)
theorem mono_methDK {das : List De} {f : D → List D → Sto → Rt} {ls : Ls} (hd : MonoA das) (hf : MonoM f) : MonoF (methDK f das ls) := by
  intro d st r st' h
  unfold methDK at h
  split at h
  · exact mono_app hd (hf d) _ _ _ _ h
  · cases h
theorem sim_methD {o e : Expr} {es : List Expr} {da : De} {das : List De} {id : String} {name : Str} {apos cpos : Pos} {f : D → List D → Sto → Rt} {r : V → List V → Hp → VK → Prop} (hK : X.K = Γ.K) (slot : Slot "dict" name id) (hty : typeOf (.builtin id) = pure (.type "method_descriptor")) (hm : MtR X id r) (hs : MtSim Γ r f) (hf : MonoM f)
    (ho : Sim X Γ W o da) (ha : SimA X Γ W (e :: es) das) (hbase : attributeBase o name X.env (eval o X.env) = eval o X.env)
    (hfew : ((backTo cpos (starEach (e :: es) X.env)).all (fun x => !x.1) && (backToKw cpos (keywordEach [] X.env)).all (fun x => x.1.isSome)
      && decide ((e :: es).length + ([] : List Keyword).length + (if ([] : List Keyword).isEmpty then 0 else 1) < 30)) = true)
    (hline : (apos.endLine == cpos.line) = true) (hst : starEach (e :: es) X.env = (false, eval e X.env) :: starEach es X.env) (hplain : (backTo cpos (starEach es X.env)).any (·.1) = false) :
    Sim X Γ W (.Call (.Attribute o name apos) (e :: es) [] cpos) (dMethD f da das) := by
  have mk : ∀ ls, MonoF (methDK f das ls) := fun ls => mono_methDK ha.mono hf
  refine ⟨fun ls st r st' q => bindR_mono (fun a s z => ho.mono ls st a s z) (mk ls) r st' q, (pe_bmD hK PySem.F.plainAttrs_dict slot hty hm ho.pe ha.pa hbase hfew hline hst hplain).imp fun σ H Q ⟨m, ls, st, s, l, h⟩ => ?_⟩
  obtain ⟨m0, ls0, st0, s0, l0, q0⟩ := tD_bind ho.mono s l (mk ls) h
  refine ⟨m0, ls0, st0, s0, l0, q0.imp fun v H1 ⟨m1, d, st1, s1, l1, r1, q1, _⟩ => ?_⟩
  unfold methDK at q1
  split at q1
  · rename_i ps hd
    obtain ⟨n, rfl, e0⟩ := dctAt_at hd
    obtain ⟨qs, g1, g2⟩ := s1.cell n _ e0
    refine ⟨?_, ?_⟩
    · cases r1
      exact ⟨m1, _, _, ps, qs, rfl, g1, g2⟩
    · obtain ⟨m0, ls0, st0, s0, l0, q0⟩ := tA_bind ha.mono s1 l1 (hf _) q1
      exact ⟨m0, ls0, st0, s0, l0, q0.imp fun vs H2 ⟨m2, ds, st2, s2, l2, r2, q2, hl2, e2, k2⟩ => hs m2 st2 H2 v vs _ ds Q _ s2 (r1.mono e2 hl2 k2) r2 q2⟩
  · exact q1.elim
def fSetDef : D → List D → Sto → Rt
  | .obj n, [k, v], st => match st[n]? with
    | some (.dct ps) => if okTop k then match lookD ps k with
        | some d => okD d st
        | none => if ps.length < LINE then some (.ok v, st.set n (.dct (putP ps k v))) else none
      else none
    | _ => none
  | _, _, _ => none
theorem mono_fSetDef : MonoM fSetDef := by
  intro x ds st r st' h
  unfold fSetDef at h
  repeat' (split at h)
  all_goals first | exact mono_ok h | exact mono_put h | cases h
theorem ms_setdef : MtSim Γ (rSetDef Γ.K) fSetDef := fun
  | m, st, H, _, _, .obj n, [k, v], Q, E, s, rx, .cons rk (.cons rw_ .nil), h => by
    dsimp only [fSetDef] at h
    split at h
    · rename_i ps e
      split at h
      · rename_i ok
        have hd : dctAt st (.obj n) = some ps := by unfold dctAt; dsimp only; rw [e]
        refine ⟨_, _, rfl, askD s hd rx ok rk fun n' b qs en e' ey eH r => ?_⟩
        cases en
        split at h
        · rename_i d ed
          exact .inl ⟨d, ed, fun v rv => h.ok s rv⟩
        · rename_i ed
          split at h
          · rename_i hl
            refine .inr ⟨ed, by rw [← dct_len r]; exact line_lt hl, ?_⟩
            refine h.putN s e rfl rfl (fun k' => ⟨_, upd_same, ?_⟩) rw_
            have z := (r.put ok (ey ▸ rk) rw_).mono (Ext.refl _ _) (Nat.le_refl _) k'
            rw [ed] at z
            exact z
          · exact h.elim
      · exact h.elim
    · exact h.elim
def fGet2 : D → List D → Sto → Rt
  | .obj n, [k, v], st => match st[n]? with
    | some (.dct ps) => if okTop k then match lookD ps k with
        | some d => okD d st
        | none => okD v st
      else none
    | _ => none
  | _, _, _ => none
theorem mono_fGet2 : MonoM fGet2 := by
  intro x ds st r st' h
  unfold fGet2 at h
  repeat' (split at h)
  all_goals first | exact mono_ok h | cases h
theorem ms_get2 : MtSim Γ (rGetD2 Γ.K) fGet2 := fun
  | m, st, H, _, _, .obj n, [k, v], Q, E, s, rx, .cons rk (.cons rw_ .nil), h => by
    dsimp only [fGet2] at h
    split at h
    · rename_i ps e
      split at h
      · rename_i ok
        have hd : dctAt st (.obj n) = some ps := by unfold dctAt; dsimp only; rw [e]
        refine ⟨_, _, rfl, askD s hd rx ok rk fun n' b qs en e' ey eH r => ?_⟩
        split at h
        · rename_i d ed
          exact .inl ⟨d, ed, fun v rv => h.ok s rv⟩
        · rename_i ed
          exact .inr ⟨ed, h.ok s rw_⟩
      · exact h.elim
    · exact h.elim
end
end MP
end
section
set_option maxRecDepth 100000
set_option maxHeartbeats 1000000
/-! zip of a tuple with a list -/
namespace MP
open PySem PySem.Spec PyProof.Rows L2
section
variable {prog : Program} {w : World} {A : Around} {E : Value → Shared → Prop} {s : Shared}
theorem draws_tup (hh : A.handled = none) (it l : Addr) (hne : l ≠ it) (items : Array Value) : Draws prog w A it [it, l] items.size (fun i v => items[i]? = some v) (fun i h => h.IsTupleIter it l i ∧ h.IsTuple l items) where
  live := fun _ _ ⟨⟨o, ho, _⟩, _⟩ => ⟨o, ho⟩
  frame := fun _ _ _ ⟨a, b⟩ k => ⟨a.at fun o e => k it (by simp) o e, b.at fun o e => k l (by simp) o e⟩
  item := fun i s Q E hi ⟨a, b⟩ q => RZ.nextOf_tuple_item a b (x := items[i]) (by simp [hi]) fun g a' sb => q _ g s.toks (by simp [hi]) ⟨a', b.extBut sb.extBut hne⟩ sb
  done := fun s Q E ⟨a, b⟩ q => RZ.nextOf_tuple_end hh a b (by simp) q
theorem sep_of {z TI TO i1 i2 l1 l2 : Addr} (D : ZipApart z TI TO i1 i2 l1 l2) : ZipSep2 z TI TO i1 i2 [i1, l1] [i2, l2] where
  TIz := D.TIz
  TOz := D.TOz
  TITO := D.TITO
  TIi1 := D.TIi1
  mem1 := by simp
  zf1 := by simp [D.i1z.symm, D.l1z.symm]
  Tf1 := by simp [D.TOi1, D.l1TO.symm]
  TIi2 := D.TIi2
  mem2 := by simp
  zf2 := by simp [D.i2z.symm, D.l2z.symm]
  Tf2 := by simp [D.TOi2, D.l2TO.symm]
  sep1_2 := by simp [D.i12, D.l2i1.symm]
  sep2_1 := by simp [D.i12.symm, D.l1i2.symm]
abbrev zm1 (h : Heap) (l1 : Addr) : Heap := RZ.zipTH1 h l1
abbrev zm2 (h : Heap) (l1 l2 : Addr) : Heap := (zm1 h l1).push { cls := .type "list_iterator", data := .fields #[.ref l2, .int 0 0] }
abbrev zm3 (h : Heap) (l1 l2 : Addr) : Heap := (zm2 h l1 l2).push { cls := .type "tuple", data := .seq #[.ref h.objs.size, .ref (zm1 h l1).objs.size] }
abbrev zm4 (h : Heap) (l1 l2 : Addr) : Heap := (zm3 h l1 l2).push { cls := .type "tuple", data := .seq #[.none, .none] }
abbrev zm5 (h : Heap) (l1 l2 : Addr) : Heap := (zm4 h l1 l2).push { cls := .type "zip", data := .fields #[.none, .bool false, .bool false, .ref (zm2 h l1 l2).objs.size, .ref (zm3 h l1 l2).objs.size] }
theorem meets_zm (l1 l2 : Addr) (xs ys : Array Value) :
    Meets (Builtin.«zip.__new__» ⟨[.type "zip", .ref l1, .ref l2], []⟩) (fun _ R s => s.heap.IsTuple l1 xs ∧ s.heap.IsList l2 ys ∧ R (.ok (.ret (.ref (zm4 s.heap l1 l2).objs.size))) { s with heap := zm5 s.heap l1 l2 }) :=
  .of_wp fun prog w A R s h => by
    obtain ⟨hp, g, d, tk, os⟩ := s; obtain ⟨hl1, hl2, h⟩ := h
    have hsub := sub_zip
    have hL1 : Heap.IsTuple (Shared.heap ⟨hp, g, d, tk, os⟩) l1 xs := hl1
    have hL2 : Heap.IsList (Shared.heap ⟨hp.push { cls := .type "tuple_iterator", data := .fields #[.ref l1, .int 0 0] }, g, d, tk, os⟩) l2 ys := Heap.IsList.push hl2 _
    wp_walk using wpAny_pyIter_tuple hL1, wpAny_pyIter_list hL2
    exact ⟨_, rfl, h⟩
theorem call_zm {l1 l2 : Addr} {xs ys : Array Value} {Q : Value → Shared → Prop} (hl1 : s.heap.IsTuple l1 xs) (hl2 : s.heap.IsList l2 ys)
    (h : ∀ g, IsZip g (s.heap.objs.size + 4) (s.heap.objs.size + 2) (s.heap.objs.size + 3) .none → IsPair g (s.heap.objs.size + 2) (.ref s.heap.objs.size) (.ref (s.heap.objs.size + 1)) →
      IsPair g (s.heap.objs.size + 3) .none .none → g.IsTupleIter s.heap.objs.size l1 0 → g.IsListIter (s.heap.objs.size + 1) l2 0 → (∀ c o, s.heap.get? c = some o → g.get? c = some o) → Q (.ref (s.heap.objs.size + 4)) { s with heap := g }) :
    wpAny (model prog w) A (call (.type "zip") [.ref l1, .ref l2]) Q E s := by
  refine callType_new F.called_zip (by decide) (F.typeCall_zip_2 _ _) (F.newCall_zip_2 _ _) (fun obj => F.args_object_init_3 obj _ _) F.entry_zip_new (meets_zm l1 l2 xs ys) ⟨hl1, hl2, ?_⟩
  have z1 : (zm1 s.heap l1).objs.size = s.heap.objs.size + 1 := Heap.size_push ..
  have z2 : (zm2 s.heap l1 l2).objs.size = s.heap.objs.size + 2 := by rw [Heap.size_push, z1]
  have z3 : (zm3 s.heap l1 l2).objs.size = s.heap.objs.size + 3 := by rw [Heap.size_push, z2]
  have z4 : (zm4 s.heap l1 l2).objs.size = s.heap.objs.size + 4 := by rw [Heap.size_push, z3]
  have up : ∀ {g : Heap} {o : Obj} {c : Addr} {u : Obj}, g.get? c = some u → (g.push o).get? c = some u := fun q => Heap.get?_push_of_some _ q
  have g5 : (zm5 s.heap l1 l2).get? (zm4 s.heap l1 l2).objs.size = some _ := Heap.get?_push_size _ rfl
  have g4 : (zm5 s.heap l1 l2).get? (zm3 s.heap l1 l2).objs.size = some _ := up (Heap.get?_push_size _ rfl)
  have g3 : (zm5 s.heap l1 l2).get? (zm2 s.heap l1 l2).objs.size = some _ := up (up (Heap.get?_push_size _ rfl))
  have g2 : (zm5 s.heap l1 l2).get? (zm1 s.heap l1).objs.size = some _ := up (up (up (Heap.get?_push_size _ rfl)))
  have g1 : (zm5 s.heap l1 l2).get? s.heap.objs.size = some _ := up (up (up (up (Heap.get?_push_size _ rfl))))
  show _ ∧ _
  rw [z2, z3, z4] at g5
  rw [z1, z2] at g3
  rw [z3] at g4
  rw [z1] at g2
  rw [z4]
  exact ⟨⟨_, g5, rfl⟩, h _ g5 g3 g4 ⟨_, g1, rfl, rfl⟩ ⟨_, g2, rfl, rfl⟩ fun c o x => up (up (up (up (up x))))⟩
end
/-- the tuple at a and the list at b as they stand at each turn, the items in new pairs -/
def ItzM (K : PySem.W.Frag) (a b : Addr) : It :=
  ⟨fun i H => ∃ (xs ys : List V) (x y : V), SqT K H a xs ∧ SqL K H b ys ∧ xs[i]? = some x ∧ ys[i]? = some y,
    fun i H v H' => ∃ T x y, v = .ref T ∧ H T = none ∧ H' = upd H T (.tup [x, y]) ∧ (∀ xs, SqT K H a xs → xs[i]? = some x) ∧ ∀ ys, SqL K H b ys → ys[i]? = some y,
    fun i H => ∃ xs ys : List V, SqT K H a xs ∧ SqL K H b ys ∧ i ≤ xs.length ∧ i ≤ ys.length ∧ (i = xs.length ∨ i = ys.length)⟩
theorem turn_zm {P : Program} {w : World} {K : PySem.W.Frag} {elts : List Expr} {kk : Nat} {tpos : Pos} {a b z TI TO i1 i2 : Addr} (D : ZipApart z TI TO i1 i2 a b) :
    Turn P w K (.Tuple elts kk tpos) (ItzM K a b) [z, TI, TO, i1, i2] z (fun i h => IsZip h z TI TO .none ∧ IsPair h TI (.ref i1) (.ref i2) ∧ (∃ x y, IsPair h TO x y) ∧ h.IsTupleIter i1 a i ∧ h.IsListIter i2 b i) where
  mem := List.mem_cons_self ..
  obj := fun i h st c hc => by
    obtain ⟨hz, hTI, ⟨x, y, hTO⟩, ⟨o1, e1, _, d1⟩, ⟨o2, e2, _, d2⟩⟩ := st
    have e' : c = z ∨ c = TI ∨ c = TO ∨ c = i1 ∨ c = i2 := by simpa using hc
    rcases e' with q | q | q | q | q
    · rw [q]; exact ⟨_, hz, fun v q => nomatch q⟩
    · rw [q]; exact ⟨_, hTI, fun v q => nomatch q⟩
    · rw [q]; exact ⟨_, hTO, fun v q => nomatch q⟩
    · rw [q]; exact ⟨o1, e1, fun v q => by rw [d1] at q; cases q⟩
    · rw [q]; exact ⟨o2, e2, fun v q => by rw [d2] at q; cases q⟩
  keep := fun i h h' ⟨hz, hTI, ⟨x, y, hTO⟩, h1, h2⟩ k => ⟨k z (by simp) _ hz, k TI (by simp) _ hTI, ⟨x, y, k TO (by simp) _ hTO⟩, h1.at fun o q => k i1 (by simp) o q, h2.at fun o q => k i2 (by simp) o q⟩
  item := by
    intro X hP hw hK hc i pins s σ H E I hf st hg
    subst hP hw hK
    obtain ⟨hz, hTI, ⟨x0, y0, hTO⟩, h1, h2⟩ := st
    obtain ⟨xs, ys, x, y, hqx, hqy, hx, hy⟩ := hg
    obtain ⟨its, rv, p, _⟩ := I.tuple hqx
    obtain ⟨its2, rv2, p2, _⟩ := I.list hqy
    obtain ⟨u, hu, ru⟩ := rv.get hx
    obtain ⟨u2, hu2, ru2⟩ := rv2.get hy
    have hzl : z < s.heap.objs.size := Heap.lt_size hz
    have hd : X.A.in1.handled = none := I.ok.hd hc
    have n1 : i < its.toArray.size := by
      have := List.getElem?_eq_some_iff.mp hu
      simpa using this.1
    have n2 : i < its2.toArray.size := by
      have := List.getElem?_eq_some_iff.mp hu2
      simpa using this.1
    refine wpAny_pyNext_zipD2_item (i := i) (sep_of D) (draws_tup hd i1 a D.l1i1 its.toArray) (Draws.list hd i2 b D.l2i2 its2.toArray) hz hTI hTO ⟨h1, (show s.heap.IsTuple a its.toArray from p)⟩ ⟨h2, p2.isList⟩ n1 n2 fun v1 v2 g tk w1 w2 z' TO' h1' h2' hT hsz hk => ?_
    refine ⟨_, rfl, wpAny_letOwnedTupleGo_zip (s := { s with heap := g, toks := tk }) z' fun h'' z'' sb => ?_⟩
    have e1 : v1 = u := by
      have := (show its.toArray[i]? = some v1 from w1)
      rw [show its.toArray[i]? = some u by simpa using hu] at this
      exact (Option.some.inj this).symm
    have e2 : v2 = u2 := by
      have := (show its2.toArray[i]? = some v2 from w2)
      rw [show its2.toArray[i]? = some u2 by simpa using hu2] at this
      exact (Option.some.inj this).symm
    subst e1 e2
    have hT2 : h''.get? s.heap.objs.size = some { cls := .type "tuple", data := .seq #[v1, v2] } := (sb.2 _ (Nat.ne_of_gt hzl)).trans hT
    have new : ObjOk X.prog X.w (upd H s.heap.objs.size (.tup [x, y])) h'' s.heap.objs.size (.tup [x, y]) := ⟨by show 2 ≤ sizeLine; decide, [v1, v2], .cons ru (.cons ru2 .nil), ⟨_, hT2, rfl, _, rfl⟩⟩
    have I1 : Inv X pins σ (upd H s.heap.objs.size (.tup [x, y])) { s with heap := h'', toks := tk } :=
      I.turnedNew (t' := tk) (ch := [z, TI, TO, i1, i2]) (fun c o hb q => (sb.2 c (fun q' => hb (by simp [q']))).trans (hk c o (fun q' => hb (by simp [q'])) (fun q' => hb (by simp [q'])) (fun q' => hb (by simp [q'])) (fun q' => hb (by simp [q'])) q)) hf (Nat.le_refl _) new
    refine ⟨.ref s.heap.objs.size, _, I1, rfl, ⟨_, x, y, rfl, I.hok.fresh (Nat.le_refl _), rfl, fun l hl => by rw [I.tuple_inj hl hqx]; exact hx, fun l hl => by rw [I.list_inj hl hqy]; exact hy⟩, ⟨z'', ?_, ⟨v1, v2, ?_⟩, ?_, ?_⟩, fun c hcm => ?_⟩
    · exact (sb.2 _ D.TIz).trans (hk _ _ D.TIz D.TITO D.TIi1 D.TIi2 hTI)
    · exact (sb.2 _ D.TOz).trans TO'
    · exact h1'.1.at fun o q => (sb.2 _ D.i1z).trans q
    · exact h2'.1.at fun o q => (sb.2 _ D.i2z).trans q
    · have hlt : c < s.heap.objs.size := by
        have e' : c = z ∨ c = TI ∨ c = TO ∨ c = i1 ∨ c = i2 := by simpa using hcm
        rcases e' with q | q | q | q | q
        · rw [q]; exact hzl
        · rw [q]; exact Heap.lt_size hTI
        · rw [q]; exact Heap.lt_size hTO
        · rw [q]; obtain ⟨_, e1, _⟩ := h1; exact Heap.lt_size e1
        · rw [q]; obtain ⟨_, e2, _⟩ := h2; exact Heap.lt_size e2
      rw [upd_ne (Nat.ne_of_lt hlt)]
      exact (hf c hcm).1
  done := by
    intro X hP hw hK hc i pins s σ H E I hf st hg
    subst hP hw hK
    obtain ⟨hz, hTI, ⟨x0, y0, hTO⟩, h1, h2⟩ := st
    obtain ⟨xs, ys, hqx, hqy, k1, k2, hend⟩ := hg
    obtain ⟨its, rv, p, _⟩ := I.tuple hqx
    obtain ⟨its2, rv2, p2, _⟩ := I.list hqy
    have l1 : xs.length = its.length := rv.length
    have l2 : ys.length = its2.length := rv2.length
    have hd : X.A.in1.handled = none := I.ok.hd hc
    exact wpAny_pyNext_zipD2_end (i := i) (sep_of D) (draws_tup hd i1 a D.l1i1 its.toArray) (Draws.list hd i2 b D.l2i2 its2.toArray) hz hTI hTO ⟨h1, (show s.heap.IsTuple a its.toArray from p)⟩ ⟨h2, p2.isList⟩ (by simp; omega) (by simp; omega) (by simp; omega)
      fun g tk hk => ⟨rfl, I.turnedL (t' := tk) (ch := [z, TI, TO, i1, i2]) (fun c o hb q => hk c o (fun q' => hb (by simp [q'])) (fun q' => hb (by simp [q'])) (fun q' => hb (by simp [q'])) (fun q' => hb (by simp [q'])) q) hf⟩
  self := fun A i s Q E st h => wpAny_pyIter_zip st.1 h
/-- zip of two lists, of two tuples, of a tuple with a list -/
def iZipM (K : PySem.W.Frag) (ta : TA) : TI := fun σ H R => ta σ H fun vs H1 => ∃ a b xs ys, vs = [.ref a, .ref b] ∧ ((SqL K H1 a xs ∧ SqL K H1 b ys ∧ R (Itz K a b) H1) ∨ (SqT K H1 a xs ∧ SqT K H1 b ys ∧ R (RZ.ItzT K a b) H1) ∨ (SqT K H1 a xs ∧ SqL K H1 b ys ∧ R (ItzM K a b) H1))
theorem pi_zipM {X : Cx} {e e2 : Expr} {ta : TA} {p pos tpos : Pos} {elts : List Expr} {kk : Nat} (hg : Gl X "zip") (hm : X.mg "zip" = none) (ha : PA X [e, e2] ta)
    (hs : starEach [e, e2] X.env = (false, eval e X.env) :: starEach [e2] X.env) (hpl : (backTo pos (starEach [e2] X.env)).any (·.1) = false) :
    PI X (.Tuple elts kk tpos) (.Call (.Name "zip" p) [e, e2] [] pos) (iZipM X.K ta) := by
  refine ⟨fun pins s σ H R I h => ?_⟩
  refine Call_ (ld_blt I hg hm PyProof.Rows.boot_zip (PyProof.Rows.callWith_type1 (thn (ha.run pos pins s σ H _ I h) fun us s1 ⟨vs, H1, I1, r1, q1⟩ => ?_) hs hpl))
  obtain ⟨a, b, xs, ys, ex, q1⟩ := q1
  subst ex
  cases r1 with
  | cons r rr =>
    cases rr with
    | cons r' rr =>
      cases rr
      cases r
      cases r'
      have fresh5 : ∀ c, c ∈ [s1.heap.objs.size + 4, s1.heap.objs.size + 2, s1.heap.objs.size + 3, s1.heap.objs.size, s1.heap.objs.size + 1] → FpOk X pins H1 c := fun c hcm => by
        have hle : s1.heap.objs.size ≤ c := by
          simp only [List.mem_cons, List.not_mem_nil, or_false] at hcm
          omega
        exact I1.fpOk hle (I1.hok.fresh hle)
      rcases q1 with ⟨hqx, hqy, q⟩ | ⟨hqx, hqy, q⟩ | ⟨hqx, hqy, q⟩
      · obtain ⟨its, rv, p1, _⟩ := I1.list hqx
        obtain ⟨its2, rv2, p2, _⟩ := I1.list hqy
        refine call_zip_2 p1.isList p2.isList fun h' hz hTI hTO h1 h2 hsz hk => wpAny_pyIter_zip hz ?_
        exact ⟨s1.heap.objs.size + 4, [s1.heap.objs.size + 4, s1.heap.objs.size + 2, s1.heap.objs.size + 3, s1.heap.objs.size, s1.heap.objs.size + 1], _, _, H1, rfl, I1.kept (t' := s1.toks) hk, turn_zip (PySem.W.ktu_apart s1.heap.objs.size a b p1.lt p2.lt), ⟨hz, hTI, ⟨_, _, hTO⟩, h1, h2⟩, fresh5, q⟩
      · obtain ⟨its, rv, p1, _⟩ := I1.tuple hqx
        obtain ⟨its2, rv2, p2, _⟩ := I1.tuple hqy
        obtain ⟨o1, ho1, _⟩ := id p1
        obtain ⟨o2, ho2, _⟩ := id p2
        refine RZ.call_zipT (show s1.heap.IsTuple a its.toArray from p1) (show s1.heap.IsTuple b its2.toArray from p2) fun h' hz hTI hTO h1 h2 hsz hk => wpAny_pyIter_zip hz ?_
        exact ⟨s1.heap.objs.size + 4, [s1.heap.objs.size + 4, s1.heap.objs.size + 2, s1.heap.objs.size + 3, s1.heap.objs.size, s1.heap.objs.size + 1], _, _, H1, rfl, I1.kept (t' := s1.toks) hk, RZ.turn_zipT (PySem.W.ktu_apart s1.heap.objs.size a b (Heap.lt_size ho1) (Heap.lt_size ho2)), ⟨hz, hTI, ⟨_, _, hTO⟩, h1, h2⟩, fresh5, q⟩
      · obtain ⟨its, rv, p1, _⟩ := I1.tuple hqx
        obtain ⟨its2, rv2, p2, _⟩ := I1.list hqy
        obtain ⟨o1, ho1, _⟩ := id p1
        refine call_zm (show s1.heap.IsTuple a its.toArray from p1) p2.isList fun h' hz hTI hTO h1 h2 hk => wpAny_pyIter_zip hz ?_
        exact ⟨s1.heap.objs.size + 4, [s1.heap.objs.size + 4, s1.heap.objs.size + 2, s1.heap.objs.size + 3, s1.heap.objs.size, s1.heap.objs.size + 1], _, _, H1, rfl, I1.kept (t' := s1.toks) hk, turn_zm (PySem.W.ktu_apart s1.heap.objs.size a b (Heap.lt_size ho1) p2.lt), ⟨hz, hTI, ⟨_, _, hTO⟩, h1, h2⟩, fresh5, q⟩
end MP
end
section
set_option maxRecDepth 100000
set_option maxHeartbeats 1000000
namespace MP
open PySem PySem.Spec PyProof.Rows L2

/-! ### d[k] = v, or a list's -/
def rSetDN (K : PySem.W.Frag) : V → V → V → Hp → (Hp → Prop) → Prop := fun o i v H Q => AskD K H o i fun m L a b ps qs k => qs.length < sizeLine ∧ Q (upd H a (dctO a (putQ qs (keyD k) b v (lookD ps k).isSome)))
section
variable {X : Cx} {Γ : Gam} {W : WX}
theorem set_dictN (hK : X.K = Γ.K) (hu : X.A.units + 65 < cLine) : PSet X (rSetDN Γ.K) := by
  intro pins s σ H o i v ov iv u Q I ro ri rv h
  obtain ⟨m, L, a, b, ps, qs, k, rfl, rfl, e, r, ok, rk, hl, q⟩ := h
  cases ro
  cases ri
  obtain ⟨h1, h2, xs, h3, hd⟩ := dct_ofE I hK e r
  have hz : xs.length ≤ sizeLine := by rw [← Paired.length h3]; exact h1
  exact item_E (room8 hu) (rk.keyIs I hK ok) hd hz fun h' hd' hs => ⟨_, dct_put (tk := s.toks + (nestedKind X.prog X.w).draws (keyD k)) I hK e r ok rk rv hl h3 hd' hs, q⟩
def rSetG (K : PySem.W.Frag) : V → V → V → Hp → (Hp → Prop) → Prop := fun o i v H Q => rSetL o i v H Q ∨ rSetDN K o i v H Q
theorem set_G (hK : X.K = Γ.K) (hu : X.A.units + 65 < cLine) : PSet X (rSetG Γ.K) := by
  intro pins s σ H o i v ov iv u Q I ro ri rv h
  rcases h with h | h
  · exact set_list pins s σ H o i v ov iv u Q I ro ri rv h
  · exact set_dictN hK hu pins s σ H o i v ov iv u Q I ro ri rv h
end
def setKG (ls : Ls) (v o i : D) (st : Sto) : Rss := match o, dctAt st o with
  | .obj n, some ps => if okTop i then if ps.length < LINE then some (.next, ls, st.set n (.dct (putP ps i v))) else none else none
  | _, _ => setK ls v o i st
theorem monoK_setG {ls : Ls} {v o : D} : MonoK (setKG ls v o) := fun i st a l st' h => by
  unfold setKG at h
  split at h
  · split at h
    · split at h
      · cases h; rw [List.length_set]; exact Nat.le_refl _
      · cases h
    · cases h
  · exact monoK_set _ _ _ _ _ h
def dSetIxG (de do_ di_ : De) : Ds := fun ls st => bindS (de ls st) ls fun v st1 => bindS (do_ ls st1) ls fun o st2 => bindS (di_ ls st2) ls (setKG ls v o)
section
variable {X : Cx} {Γ : Gam} {W : WX} {e a b c o i tg iter : Expr} {da db dc de do_ di_ : De} {pos pos' tpos p2 : Pos} {es : List Expr} {das : List De} {t : Tg} {di : Di} {s1 : Stmt} {body rest orelse : List Stmt} {d1 d2 d3 : Ds}
theorem ss_setixG (hK : X.K = Γ.K) (hu : X.A.units + 65 < cLine) (he : Sim X Γ W e de) (ho : Sim X Γ W o do_) (hi : Sim X Γ W i di_) (ha : ∀ v, assign (.Subscript o i tpos) X.env v = (do
      let ov ← holding [v] (eval o X.env)
      let iv ← holding [v, ov] (eval i X.env)
      standAt tpos
      holding [v, ov, iv] (setItem ov iv v)
      release [v, ov, iv] [])) (hs : swapsWithSole [.Subscript o i tpos] e pos.line X.env = pure false) (hw : swappedStores [.Subscript o i tpos] e X.env = pure none)
    (h1 : (assignEach [.Subscript o i tpos] X.env).map (·.2) = [assign (.Subscript o i tpos) X.env]) : SimS X Γ W (.Assign [.Subscript o i tpos] e pos) (dSetIxG de do_ di_) := by
  have m2 : ∀ (ls : Ls) (v o : D), MonoK (setKG ls v o) := fun ls v o => monoK_setG
  have m1 : ∀ (ls : Ls) (v : D), MonoK fun o st2 => bindS (di_ ls st2) ls (setKG ls v o) := fun ls v o st a l st' h => bindS_mono (fun a s z => hi.mono ls st a s z) (m2 ls v o) a l st' h
  have m0 : ∀ (ls : Ls), MonoK fun v st1 => bindS (do_ ls st1) ls fun o st2 => bindS (di_ ls st2) ls (setKG ls v o) := fun ls v st a l st' h => bindS_mono (fun a s z => ho.mono ls st a s z) (m1 ls v) a l st' h
  refine ⟨fun ls st a l st' h => bindS_mono (fun a s z => he.mono ls st a s z) (m0 ls) a l st' h, (ps_asg he.pe (pg_sub ho.pe hi.pe (set_G hK hu) ha) hs hw h1).imp fun D σ H ⟨m, ls, st, s, l, h⟩ => ?_⟩
  refine tD_bindS he.mono s l (m0 ls) h fun m1' v st1 vv H1 s1 l1 r1 q1 _ _ _ => ?_
  refine tD_bindS ho.mono s1 l1 (m1 ls v) q1 fun m2' o st2 ov H2 s2 l2 r2 q2 hl2 e2 k2 => ?_
  refine tD_bindS hi.mono s2 l2 (m2 ls v o) q2 fun m3' i st3 iv H3 s3 l3 r3 q3 hl3 e3 k3 => ?_
  have r2' := r2.mono e3 hl3 k3
  have r1' := (r1.mono e2 hl2 k2).mono e3 hl3 k3
  unfold setKG at q3
  split at q3
  · rename_i n ps hd
    split at q3
    · rename_i ok
      split at q3
      · rename_i hl
        obtain ⟨n', en, el⟩ := dctAt_at hd
        cases en
        refine .inr (askD s3 hd r2' ok r3 fun n' b qs en e' ey eH r => ⟨by rw [← dct_len r]; exact line_lt hl, ?_⟩)
        cases en
        have k4 : Keep H3 (upd H3 (m3' n) (dctO (m3' n) (putQ qs (keyD i) b vv (lookD ps i).isSome))) := .put eH .dct
        have s4 := s3.put (o := dctO (m3' n) (putQ qs (keyD i) b vv (lookD ps i).isSome)) (c' := .dct (putP ps i v)) el rfl rfl ⟨_, upd_same, (r.put ok (ey ▸ r3) r1').mono (Ext.refl _ _) (Nat.le_refl _) k4⟩
        refine q3.2 m3' _ σ (Ext.refl _ _) k4 s4 ?_
        rw [List.length_set]
        exact l3.mono (Ext.refl _ _) (Nat.le_refl _) k4
      · exact q3.elim
    · exact q3.elim
  · refine .inl ?_
    unfold setK at q3
    split at q3
    · rename_i n k _
      split at q3
      · rename_i l0 el
        split at q3
        · rename_i j ej
          cases r2'
          cases r3
          obtain ⟨vs, hv, rv⟩ := s3.lst el
          refine ⟨m3' n, vs, k, j, rfl, rfl, hv, by rw [← rv.length]; exact ej, ?_⟩
          have k4 : Keep H3 (upd H3 (m3' n) (.lst (vs.set j vv))) := .put hv .lst
          have s4 := s3.put (o := .lst (vs.set j vv)) (c' := .lst false (l0.set j v)) el rfl rfl ⟨_, upd_same, (rv.set j r1').mono (Ext.refl _ _) (Nat.le_refl _) k4⟩
          refine q3.2 m3' _ σ (Ext.refl _ _) k4 s4 ?_
          rw [List.length_set]
          exact l3.mono (Ext.refl _ _) (Nat.le_refl _) k4
        · exact q3.elim
      · exact q3.elim
    · exact q3.elim
/-! ### zip of two lists, of two tuples -/
def zipL : List D → List D → List D
  | a :: l, b :: r => .tup [a, b] :: zipL l r
  | _, _ => []
theorem zipL_len : ∀ {l r : List D}, (zipL l r).length = min l.length r.length
  | [], r => by simp [zipL]
  | _ :: _, [] => by simp [zipL]
  | a :: l, b :: r => by rw [zipL, List.length_cons, zipL_len, List.length_cons, List.length_cons]; omega
theorem zipL_get : ∀ {l r : List D} {i : Nat} {d e : D}, l[i]? = some d → r[i]? = some e → (zipL l r)[i]? = some (.tup [d, e])
  | a :: l, b :: r, 0, d, e, h1, h2 => by
    simp at h1 h2
    rw [zipL, h1, h2]
    rfl
  | a :: l, b :: r, i + 1, d, e, h1, h2 => by
    rw [zipL]
    exact zipL_get (l := l) (r := r) (i := i) (by simpa using h1) (by simpa using h2)
  | [], _, _, _, _, h, _ => by simp at h
  | _ :: _, [], _, _, _, _, h => by simp at h
def fZip : List D → Sto → Option (RsI × Sto)
  | [.tup l, .tup r], st => some (.it (zipL l r) .no, st)
  | [.obj n, .obj k], st => match st[n]?, st[k]? with
    | some (.lst _ l), some (.lst _ r) => some (.it (zipL l r) (.two n l k r), st)
    | _, _ => none
  | [.tup l, .obj k], st => match st[k]? with
    | some (.lst _ r) => some (.it (zipL l r) (.one k r), st)
    | _ => none
  | _, _ => none
theorem mono_fZip : ∀ ds st r st', fZip ds st = some (r, st') → st.length ≤ st'.length := by
  intro d st r st' h
  unfold fZip at h
  repeat' (split at h)
  all_goals first | (cases h; exact Nat.le_refl _) | cases h
theorem pair_new2 {m : Nat → Addr} {st : Sto} {H : Hp} {T : Addr} {x y : V} {d e : D} (s : StR Γ m st H) (hT : H T = none) (rd : Rv Γ.K m st.length H d x) (re : Rv Γ.K m st.length H e y) :
    Keep H (upd H T (.tup [x, y])) ∧ StR Γ m st (upd H T (.tup [x, y])) ∧ Rv Γ.K m st.length (upd H T (.tup [x, y])) (.tup [d, e]) (.ref T) := by
  have k : Keep H (upd H T (.tup [x, y])) := .new hT
  refine ⟨k, ⟨fun j c hj => (s.cell j c hj).mono (Ext.refl _ _) (Nat.le_refl _) k fun o q => by rw [upd_ne (ne_of_none q hT)]; exact q, s.inj, tabs_new hT s.tabs⟩, ?_⟩
  exact Rv.tup (.inl (.inl upd_same)) (.cons (rd.mono (Ext.refl _ _) (Nat.le_refl _) k) (.cons (re.mono (Ext.refl _ _) (Nat.le_refl _) k) .nil))
theorem iterOk_zipL {m0 : Nat → Addr} {L0 : Nat} {H0 : Hp} {n k : Nat} {l r : List D} (hn : n < L0) (hk : k < L0) : IterOk Γ (Itz Γ.K (m0 n) (m0 k)) (zipL l r) (.two n l k r) m0 L0 H0 := by
  intro i m st H hi e hL kp s hg
  rw [zipL_len] at hi ⊢
  obtain ⟨⟨ro, g1⟩, ⟨ro2, g2⟩⟩ := gdB_two hg
  obtain ⟨vs, a, r1⟩ := s.list g1
  obtain ⟨ws, b, r2⟩ := s.list g2
  rw [e n hn] at a
  rw [e k hk] at b
  have l1 := r1.length
  have l2 := r2.length
  refine ⟨fun h => ⟨vs, ws, a, b, by omega⟩, fun h => ⟨?_, fun x H' y => ?_⟩⟩
  · have h1 : i < vs.length := by omega
    have h2 : i < ws.length := by omega
    exact ⟨vs, ws, vs[i], ws[i], a, b, by simp [h1], by simp [h2]⟩
  · obtain ⟨T, w, z, rfl, hT, rfl, y1, y2⟩ := y
    obtain ⟨d, hd, rd⟩ := r1.getV (y1 vs a)
    obtain ⟨d2, hd2, rd2⟩ := r2.getV (y2 ws b)
    obtain ⟨k', s', r'⟩ := pair_new2 s hT rd rd2
    exact ⟨_, zipL_get hd hd2, k', s', r'⟩
theorem iterOk_zipT {m0 : Nat → Addr} {L0 : Nat} {H0 : Hp} {p q : Addr} {l r : List D} {vs ws : List V} (ha : SqT Γ.K H0 p vs) (hb : SqT Γ.K H0 q ws) (r1 : RvL Γ.K m0 L0 H0 l vs) (r2 : RvL Γ.K m0 L0 H0 r ws) : IterOk Γ (RZ.ItzT Γ.K p q) (zipL l r) .no m0 L0 H0 := by
  intro i m st H hi e hL k s _
  rw [zipL_len] at hi ⊢
  have a := k.sqT ha
  have b := k.sqT hb
  have r1 := r1.mono e hL k
  have r2 := r2.mono e hL k
  have l1 := r1.length
  have l2 := r2.length
  refine ⟨fun h => ⟨vs, ws, a, b, by omega⟩, fun h => ⟨?_, fun x H' y => ?_⟩⟩
  · have h1 : i < vs.length := by omega
    have h2 : i < ws.length := by omega
    exact ⟨vs, ws, vs[i], ws[i], a, b, by simp [h1], by simp [h2]⟩
  · obtain ⟨T, w, z, rfl, hT, rfl, y1, y2⟩ := y
    obtain ⟨d, hd, rd⟩ := r1.getV (y1 vs a)
    obtain ⟨d2, hd2, rd2⟩ := r2.getV (y2 ws b)
    obtain ⟨k', s', r'⟩ := pair_new2 s hT rd rd2
    exact ⟨_, zipL_get hd hd2, k', s', r'⟩
theorem iterOk_zipM {m0 : Nat → Addr} {L0 : Nat} {H0 : Hp} {p : Addr} {k : Nat} {l r : List D} {vs : List V} (ha : SqT Γ.K H0 p vs) (r1 : RvL Γ.K m0 L0 H0 l vs) (hk : k < L0) : IterOk Γ (ItzM Γ.K p (m0 k)) (zipL l r) (.one k r) m0 L0 H0 := by
  intro i m st H hi e hL kp s hg
  rw [zipL_len] at hi ⊢
  obtain ⟨ro, g2⟩ := gdB_at hg
  obtain ⟨ws, b, r2⟩ := s.list g2
  rw [e k hk] at b
  have a := kp.sqT ha
  have r1 := r1.mono e hL kp
  have l1 := r1.length
  have l2 := r2.length
  refine ⟨fun h => ⟨vs, ws, a, b, by omega, by omega, by omega⟩, fun h => ⟨?_, fun x H' y => ?_⟩⟩
  · have h1 : i < vs.length := by omega
    have h2 : i < ws.length := by omega
    exact ⟨vs, ws, vs[i], ws[i], a, b, by simp [h1], by simp [h2]⟩
  · obtain ⟨T, w, z, rfl, hT, rfl, y1, y2⟩ := y
    obtain ⟨d, hd, rd⟩ := r1.getV (y1 vs a)
    obtain ⟨d2, hd2, rd2⟩ := r2.getV (y2 ws b)
    obtain ⟨k', s', r'⟩ := pair_new2 s hT rd rd2
    exact ⟨_, zipL_get hd hd2, k', s', r'⟩
theorem si_zip {p tpos : Pos} {elts : List Expr} {kk : Nat} (hK : X.K = Γ.K) (hg : Gl X "zip") (hm : X.mg "zip" = none) (ha : SimA X Γ W [a, b] das) (hs : starEach [a, b] X.env = (false, eval a X.env) :: starEach [b] X.env) (hpl : (backTo pos (starEach [b] X.env)).any (·.1) = false) :
    SimI X Γ W (.Tuple elts kk tpos) (.Call (.Name "zip" p) [a, b] [] pos) (dAppI fZip das) := by
  refine ⟨monoI_app ha.mono mono_fZip, (pi_zipM hg hm ha.pa hs hpl).imp fun σ H R ⟨m, ls, st, s, l, h⟩ => ?_⟩
  refine tA_bindI ha.mono s l mono_fZip h fun m1 ds st1 vs H1 s1 l1 r1 q => ?_
  match ds, r1, q with
  | [.tup l, .tup r], .cons (.tup (a := p) (vs := vs) h1 r1) (.cons (.tup (a := p2) (vs := ws) h2 r2) .nil), q =>
    exact ⟨p, p2, vs, ws, rfl, .inr (.inl ⟨by rw [hK]; exact h1, by rw [hK]; exact h2, by rw [hK]; exact q.2 m1 H1 _ (Ext.refl _ _) (Keep.refl _) s1 (iterOk_zipT h1 h2 r1 r2)⟩)⟩
  | [.obj n, .obj k], .cons (.obj hn) (.cons (.obj hk) .nil), q =>
    dsimp only [fZip] at q
    split at q
    · rename_i ro l ro2 r e1 e2
      obtain ⟨vs, a, r1⟩ := s1.list e1
      obtain ⟨ws, b, r2⟩ := s1.list e2
      exact ⟨m1 n, m1 k, vs, ws, rfl, .inl ⟨by rw [hK]; exact a, by rw [hK]; exact b, by rw [hK]; exact q.2 m1 H1 _ (Ext.refl _ _) (Keep.refl _) s1 (iterOk_zipL hn hk)⟩⟩
    · exact q.elim
  | [.tup l, .obj k], .cons (.tup (a := p) (vs := vs) h1 r1) (.cons (.obj hk) .nil), q =>
    dsimp only [fZip] at q
    split at q
    · rename_i ro r e2
      obtain ⟨ws, b, r2⟩ := s1.list e2
      exact ⟨p, m1 k, vs, ws, rfl, .inr (.inr ⟨by rw [hK]; exact h1, by rw [hK]; exact b, by rw [hK]; exact q.2 m1 H1 _ (Ext.refl _ _) (Keep.refl _) s1 (iterOk_zipM h1 r1 hk)⟩)⟩
    · exact q.elim
end
end MP
end
section
set_option maxRecDepth 100000
set_option maxHeartbeats 1000000
namespace MP
open PySem PySem.Spec PyProof.Rows L2 PySem.W PySem.Calls

/-! ### sorted: of data, stable -/
mutual
def encD : D → PyData
  | .non => .none
  | .bl b => .bool b
  | .int i => .int i
  | .str s => .str s
  | .tup l => .tuple (encDs l)
  | .obj _ => .none
def encDs : List D → List PyData
  | [] => []
  | d :: r => encD d :: encDs r
end
/-- no lists in it, at most so deep -/
def flatD : Nat → D → Bool
  | _, .obj _ => false
  | n + 1, .tup l => l.all (flatD n)
  | 0, .tup _ => false
  | _, _ => true
def leD (a b : D) : Bool := !dataLt (encD b) (encD a)
def ins (le : D → D → Bool) (a : D) : List D → List D
  | [] => [a]
  | b :: r => if le a b then a :: b :: r else b :: ins le a r
def isort (le : D → D → Bool) : List D → List D
  | [] => []
  | a :: l => ins le a (isort le l)
section
variable {le : D → D → Bool}
theorem ins_at {a : D} : ∀ {l₁ l₂ : List D}, (∀ b ∈ l₁, (!le a b) = true) → (∀ b, l₂.head? = some b → le a b = true) → ins le a (l₁ ++ l₂) = l₁ ++ a :: l₂
  | [], [], _, _ => rfl
  | [], b :: r, _, h => by
    rw [List.nil_append, ins, if_pos (h b rfl)]
    rfl
  | b :: l₁, l₂, h1, h2 => by
    have z := h1 b List.mem_cons_self
    have z' : ¬ le a b = true := by
      intro q
      rw [q] at z
      cases z
    rw [List.cons_append, ins, if_neg z', ins_at (fun c hc => h1 c (List.mem_cons_of_mem _ hc)) h2]
    rfl
theorem isort_eq (trans : ∀ a b c, le a b = true → le b c = true → le a c = true) (total : ∀ a b, (le a b || le b a) = true) : ∀ l : List D, l.mergeSort le = isort le l
  | [] => List.mergeSort_nil
  | a :: l => by
    obtain ⟨l₁, l₂, e1, e2, h⟩ := List.mergeSort_cons trans total a l
    rw [e1, isort, ← isort_eq trans total l, e2]
    refine (ins_at h fun b hb => ?_).symm
    cases l₂ with
    | nil => cases hb
    | cons c r =>
      cases hb
      have s := List.pairwise_mergeSort trans total (a :: l)
      rw [e1] at s
      have s2 := (List.pairwise_append.mp s).2.1
      exact (List.pairwise_cons.mp s2).1 _ List.mem_cons_self
end
theorem dataLt_neg {x y z : PyData} (h : dataLt x z = true) : dataLt x y = true ∨ dataLt y z = true := lex_negTrans (O := itemOrd) _ _ _ h
theorem dataLt_irr (x : PyData) : dataLt x x = false := lex_irrefl (O := itemOrd) _
theorem dataLt_tr {x y z : PyData} (h1 : dataLt x y = true) (h2 : dataLt y z = true) : dataLt x z = true := PyProof.Rows.lex_trans (O := itemOrd) _ _ _ h1 h2
def leE (k : D → PyData) (a b : D) : Bool := !dataLt (k b) (k a)
theorem leE_trans (k : D → PyData) : ∀ a b c, leE k a b = true → leE k b c = true → leE k a c = true := fun a b c h1 h2 => by
  unfold leE at h1 h2 ⊢
  rw [Bool.not_eq_true'] at h1 h2 ⊢
  cases h : dataLt (k c) (k a) with
  | false => rfl
  | true =>
    rcases dataLt_neg (y := k b) h with z | z
    · rw [z] at h2; cases h2
    · rw [z] at h1; cases h1
theorem leE_total (k : D → PyData) : ∀ a b, (leE k a b || leE k b a) = true := fun a b => by
  unfold leE
  cases h : dataLt (k b) (k a) with
  | false => rfl
  | true =>
    cases h2 : dataLt (k a) (k b) with
    | false => rfl
    | true =>
      have z := dataLt_tr h h2
      rw [dataLt_irr] at z
      cases z
theorem sortE (k : D → PyData) (l : List D) : l.mergeSort (dataLe false k) = isort (leE k) l := isort_eq (leE_trans k) (leE_total k) l
def isIntD : D → Bool
  | .int _ => true
  | _ => false
def neTup : PyData → Bool
  | .tuple (_ :: _) => true
  | _ => false
def noTup : PyData → Bool
  | .tuple _ => false
  | .none => false
  | _ => true
/-- what sorted takes: whole numbers, or data that can be compared -/
def sortOk (es : List PyData) : Bool := (es.all neTup || es.all noTup) && es.all fun a => es.all fun b => alike a b
theorem sortOk_alike {es : List PyData} (h : sortOk es = true) : AllAlike es := fun d hd d' hd' => by
  have h2 := (Bool.and_eq_true_iff.mp h).2
  exact List.all_eq_true.mp (List.all_eq_true.mp h2 d hd) d' hd'
theorem sortOk_able {es : List PyData} (h : sortOk es = true) : Sortable es := by
  rcases Bool.or_eq_true_iff.mp (Bool.and_eq_true_iff.mp h).1 with h | h
  · refine .inl fun d hd => ?_
    have z := List.all_eq_true.mp h d hd
    unfold neTup at z
    split at z
    · exact ⟨_, _, rfl⟩
    · cases z
  · refine .inr fun d hd => ?_
    have z := List.all_eq_true.mp h d hd
    refine ⟨fun e => ?_, fun xs e => ?_⟩
    · rw [e] at z; cases z
    · rw [e] at z; cases z
theorem ints_ok : ∀ {l : List D}, l.all isIntD = true → AllAlike (l.map encD) ∧ Sortable (l.map encD) := fun {l} h => by
  have z : ∀ d ∈ l.map encD, ∃ i, d = .int i := fun d hd => by
    obtain ⟨e, he, rfl⟩ := List.mem_map.mp hd
    have q := List.all_eq_true.mp h e he
    cases e with
    | int i => exact ⟨i, rfl⟩
    | _ => cases q
  refine ⟨fun d hd d' hd' => ?_, Or.inr fun d hd => ?_⟩
  · obtain ⟨i, rfl⟩ := z d hd
    obtain ⟨j, rfl⟩ := z d' hd'
    simp [alike]
  · obtain ⟨i, e⟩ := z d hd
    refine ⟨fun q => ?_, fun xs q => ?_⟩ <;> (rw [e] at q; cases q)
def canSort (l : List D) : Bool := l.all isIntD || (l.all (flatD 8) && sortOk (l.map encD))
theorem flat_int {l : List D} (h : l.all isIntD = true) : l.all (flatD 8) = true := List.all_eq_true.mpr fun d hd => by
  have q := List.all_eq_true.mp h d hd
  cases d with
  | int i => rfl
  | _ => cases q
theorem canSort_ok {l : List D} (h : canSort l = true) : l.all (flatD 8) = true ∧ AllAlike (l.map encD) ∧ Sortable (l.map encD) := by
  rcases Bool.or_eq_true_iff.mp h with h | h
  · exact ⟨flat_int h, ints_ok h⟩
  · obtain ⟨h1, h2⟩ := Bool.and_eq_true_iff.mp h
    exact ⟨h1, sortOk_alike h2, sortOk_able h2⟩
theorem depth_flats {n : Nat} (ih : ∀ {d : D}, flatD n d = true → (encD d).depth ≤ n) : ∀ {l : List D}, l.all (flatD n) = true → PyData.depthAll (encDs l) ≤ n
  | [], _ => by rw [encDs, PyData.depthAll]; exact Nat.zero_le _
  | d :: l, h => by
    rw [List.all_cons, Bool.and_eq_true_iff] at h
    rw [encDs, PyData.depthAll]
    exact Nat.max_le.mpr ⟨ih h.1, depth_flats ih h.2⟩
theorem depth_flat : ∀ {n : Nat} {d : D}, flatD n d = true → (encD d).depth ≤ n
  | n, .non, _ => by simp [encD, PyData.depth]
  | n, .bl _, _ => by simp [encD, PyData.depth]
  | n, .int _, _ => by simp [encD, PyData.depth]
  | n, .str _, _ => by simp [encD, PyData.depth]
  | n + 1, .tup l, h => by
    rw [flatD] at h
    rw [encD, PyData.depth]
    have := depth_flats (n := n) depth_flat h
    omega
  | 0, .tup l, h => by simp [flatD] at h
  | n, .obj _, h => by cases n <;> simp [flatD] at h
section
variable {Γ : Gam} {m : Nat → Addr} {L : Nat} {H : Hp}
theorem dp_flats {n : Nat} (ih : ∀ {d : D} {v : V}, flatD n d = true → Rv Γ.K m L H d v → Dp Γ.K H v (encD d)) : ∀ {l : List D} {vs : List V}, l.all (flatD n) = true → RvL Γ.K m L H l vs → DpAll Γ.K H vs (encDs l)
  | _, _, _, .nil => by rw [encDs]; exact .nil
  | _, _, h, .cons r rs => by
    rw [List.all_cons, Bool.and_eq_true_iff] at h
    rw [encDs]
    exact .cons (ih h.1 r) (dp_flats ih h.2 rs)
theorem dp_flat : ∀ {n : Nat} {d : D} {v : V}, flatD n d = true → Rv Γ.K m L H d v → Dp Γ.K H v (encD d)
  | n, .non, _, _, .non => by rw [encD]; exact .non
  | n, .bl b, _, _, .bl _ => by rw [encD]; exact .bl b
  | n, .int b, _, _, .int _ => by rw [encD]; exact .int b
  | n, .str b, _, _, .str _ => by rw [encD]; exact .str b
  | n + 1, .tup l, _, h, .tup a r => by
    rw [flatD] at h
    rw [encD]
    exact .tup a (dp_flats (n := n) dp_flat h r)
  | 0, .tup l, _, h, _ => by simp [flatD] at h
  | n, .obj _, _, h, _ => by cases n <;> simp [flatD] at h
end
theorem reads_flats {h : Heap} {n : Nat} (ih : ∀ {d : D} {v : Value} {as : List Addr}, flatD n d = true → Reads h v (encD d) as → as = []) : ∀ {l : List D} {vs : List Value} {as : List Addr}, l.all (flatD n) = true → ReadsAll h vs (encDs l) as → as = []
  | [], _, _, _, r => by
    rw [encDs] at r
    cases r
    rfl
  | d :: l, _, _, hf, r => by
    rw [List.all_cons, Bool.and_eq_true_iff] at hf
    rw [encDs] at r
    cases r with
    | cons r1 r2 => rw [ih hf.1 r1, reads_flats ih hf.2 r2]; rfl
theorem reads_flat {h : Heap} : ∀ {n : Nat} {d : D} {v : Value} {as : List Addr}, flatD n d = true → Reads h v (encD d) as → as = []
  | n, .non, _, _, _, r => by rw [encD] at r; cases r; rfl
  | n, .bl _, _, _, _, r => by rw [encD] at r; cases r; rfl
  | n, .int _, _, _, _, r => by rw [encD] at r; cases r; rfl
  | n, .str _, _, _, _, r => by rw [encD] at r; cases r; rfl
  | n + 1, .tup l, _, _, hf, r => by
    rw [flatD] at hf
    rw [encD] at r
    cases r with
    | tuple _ _ _ r => exact reads_flats (n := n) reads_flat hf r
  | 0, .tup l, _, _, hf, _ => by simp [flatD] at hf
  | n, .obj _, _, _, hf, _ => by cases n <;> simp [flatD] at hf
section
variable {X : Cx} {Γ : Gam} {pins : List (Addr × Obj)} {σ : L2.St} {H : Hp} {s : Shared} {m : Nat → Addr} {L : Nat}
/-- the value u is d's -/
abbrev UD (Γ : Gam) (m : Nat → Addr) (L : Nat) (H : Hp) (u : Value) (d : D) : Prop := ∃ v, RelV v u ∧ Rv Γ.K m L H d v
theorem ud_of : ∀ {l : List D} {vs : List V} {us : List Value}, RvL Γ.K m L H l vs → Vals vs us → EachIs (UD Γ m L H) us l
  | _, _, _, .nil, .nil => .nil
  | _, _, _, .cons r rs, .cons u us => .cons ⟨_, u, r⟩ (ud_of rs us)
theorem ud_vals : ∀ {us : List Value} {l : List D}, EachIs (UD Γ m L H) us l → ∃ vs, Vals vs us ∧ RvL Γ.K m L H l vs
  | _, _, .nil => ⟨[], .nil, .nil⟩
  | _, _, .cons ⟨v, a, b⟩ t => let ⟨vs, c, d⟩ := ud_vals t; ⟨v :: vs, .cons a c, .cons b d⟩
theorem ud_reads (I : Inv X pins σ H s) (hK : X.K = Γ.K) : ∀ {l : List D} {us : List Value}, l.all (flatD 8) = true → EachIs (UD Γ m L H) us l → EachIs (fun u d => ∃ as, Reads s.heap u (encD d) as ∧ ∀ a, a ∉ as) us l
  | [], _, _, .nil => .nil
  | d :: l, _, hf, .cons ⟨v, a, b⟩ t => by
    rw [List.all_cons, Bool.and_eq_true_iff] at hf
    refine .cons ?_ (ud_reads I hK hf.2 t)
    have z := dp_flat hf.1 b
    rw [← hK] at z
    obtain ⟨as, r⟩ := Dp.reads I _ v _ z a
    exact ⟨as, r, fun a ha => by rw [reads_flat hf.1 r] at ha; simp at ha⟩
/-- what sorted leaves -/
theorem sorted_inv (I : Inv X pins σ H s) {h' : Heap} {tk : Nat} {p : Addr} {out : List Value} {c : Nat} {l : List D} (hk : ∀ b o, s.heap.get? b = some o → h'.get? b = some o) (hp : s.heap.objs.size ≤ p) (ho : h'.get? p = some (seqObj "list" out.toArray c)) (e : EachIs (UD Γ m L H) out l) (hl : l.length ≤ sizeLine) :
    ∃ ws, RvL Γ.K m L H l ws ∧ H p = none ∧ Inv X pins σ (upd H p (.lst ws)) { s with heap := h', toks := tk } := by
  obtain ⟨ws, r1, r2⟩ := ud_vals e
  exact ⟨ws, r2, I.hok.fresh hp, I.laid (t' := tk) hk hp ⟨by rw [← r2.length]; exact hl, out, c, r1, ho⟩⟩
theorem isort_len (le : D → D → Bool) : ∀ l : List D, (isort le l).length = l.length
  | [] => rfl
  | a :: l => by
    have hi : ∀ (a : D) (l : List D), (ins le a l).length = l.length + 1 := fun a l => by
      induction l with
      | nil => rfl
      | cons b r ih =>
        rw [ins]
        split
        · rfl
        · rw [List.length_cons, ih, List.length_cons]
    rw [isort, hi, isort_len le l, List.length_cons]
/-- sorted(xs), xs a list -/
def rSortG (K : PySem.W.Frag) : List V → Hp → VK → Prop := fun xs H Q => ∃ m L p l vs, xs = [.ref p] ∧ SqL K H p vs ∧ RvL K m L H l vs ∧ canSort l = true ∧ ∀ q ws, H q = none → RvL K m L H (isort leD l) ws → Q (.ref q) (upd H q (.lst ws))
theorem cr_sortG (hK : X.K = Γ.K) (hu : X.A.units + 65 < cLine) : CallR X (.builtin "sorted") (rSortG Γ.K) := by
  intro pins s σ H xs us Q I r h
  obtain ⟨m, L, p, l, vs, rfl, hq, rv, hc, q⟩ := h
  obtain ⟨u, rfl, rx⟩ := vals1 r
  cases rx
  obtain ⟨its, rv2, pl, hz⟩ := I.list (by rw [hK]; exact hq)
  obtain ⟨h1, h2, h3⟩ := canSort_ok hc
  have e := ud_of (Γ := Γ) rv rv2
  have hl : l.length ≤ sizeLine := by rw [rv.length]; exact hz
  refine sorted_data (enc := encD) pl.isList e ((ud_reads I hK h1 e).mono fun _ _ ⟨as, r, _⟩ => ⟨as, r⟩) h2 h3 hl (fun b hb => ?_) fun out hout eo => ?_
  · have := depth_flat (List.all_eq_true.mp h1 b hb)
    omega
  · rw [sortE encD l] at eo
    obtain ⟨c, hc⟩ := sortedAll_at s.heap its out.toArray
    obtain ⟨ws, w1, w2, w3⟩ := sorted_inv (tk := s.toks) I (fun _ _ => sortedAll_old) (Nat.le_succ _) hc eo (by rw [isort_len]; exact hl)
    exact ⟨.ref (s.heap.objs.size + 1), _, w3, rfl, q _ _ w2 w1⟩
end
def fSort : List D → Sto → Rt
  | [.obj n], st => match st[n]? with
    | some (.lst _ l) => if canSort l then okL (isort leD l) st else none
    | _ => none
  | _, _ => none
theorem mono_fSort : MonoFA fSort := by
  intro ds st r st' h
  unfold fSort at h
  repeat' (split at h)
  all_goals first | exact mono_okL h | cases h
theorem cs_sort {Γ : Gam} : CallSim Γ (rSortG Γ.K) fSort := fun
  | m, st, H, _, [.obj n], Q, E, s, .cons (.obj hn) .nil, h => by
    dsimp only [fSort] at h
    split at h
    · rename_i ro l e
      split at h
      · rename_i hc
        obtain ⟨vs, a, r⟩ := s.list e
        exact ⟨m, st.length, m n, l, vs, rfl, a, r, hc, fun q ws hq rw_ => h.lstN s rw_ hq⟩
      · exact h.elim
    · exact h.elim
end MP
end
section
set_option maxRecDepth 100000
set_option maxHeartbeats 1000000
namespace RT
open PySem PySem.Calls PyProof.Rows PySem.Spec PySem.W
section
variable {prog : Program} {w : World} {A : Around} {E : Value → Shared → Prop} {s : Shared}
/-- tuple(d), d a dict -/
theorem code_tuple_new_keys {d : Addr} {o : Obj} {es : Array DictEntry} {ep : Nat} {Q₁ : Value → Shared → Prop} (hh : A.handled = none) (lo : (d == sysModules) = false) (ho : s.heap.get? d = some o) (hx : o.ExactDict) (hd : o.data = .dict es ep) (hn : es.size ≤ sizeLine)
    (h : ∀ (h' : Heap) (tk : Nat) (acc : Array Value), (∀ b o, s.heap.get? b = some o → h'.get? b = some o) → ItemsOf (fun i v => ∃ en : DictEntry, es[i]? = some en ∧ v = en.key) acc es.size →
      Q₁ (.ref h'.objs.size) { s with heap := h'.push { cls := .type "tuple", data := .seq acc }, toks := tk }) :
    codeAny (model prog w) A (.call (.builtin "tuple.__new__") ⟨[.type "tuple", .ref d], []⟩) (wants Q₁ E) s := by
  refine codeAny_of_tree ?_
  show wpAny _ A.in1 (do checkBuiltinCall "tuple.__new__" ⟨[.type "tuple", .ref d], []⟩; again (.builtin "tuple.__new__" ⟨[.type "tuple", .ref d], []⟩)) _ _ s
  refine wpAny_bind (wpAny_of_eq (F.newCall_tuple_1 _) (wpAny_pure ⟨plainId_quiet F.plain_tuple_new _, codeAny_builtin F.entry_tuple_new ?_⟩))
  rw [Around.under_plainId F.plain_tuple_new _]
  have hsub := sub_tuple_self
  have hinit := init_tuple_lookup
  have hmh := madeHere_tuple
  have hTI : s.TypeIs (.ref d) "dict" := ⟨o, ho, hx.1⟩
  have hh1 : A.in1.handled = none := hh
  wp_walk using wpAny_typeOf hTI, PySem.W.kdu_collect (A := A.in1) (L2.kdl_raw (d := d) (o := o) (es := es) (ep := ep) lo hx hd) hh1 ho hn
  intro h' tk acc hk hacc
  show wpAny _ _ (Builtin.Tuple.tupleExact acc.toList.toArray >>= fun v => ret v) _ _ _
  unfold Builtin.Tuple.tupleExact
  refine wpAny_bind (wpAny_newObj_type ?_ (by show acc.toList.toArray.size ≤ sizeLine; simp only [Array.toArray_toList]; rw [hacc.1]; exact hn))
  refine wpAny_pure ?_
  have e : acc.toList.toArray = acc := by simp
  rw [e]
  exact h h' tk acc hk hacc
theorem call_tuple_keys {d : Addr} {o : Obj} {es : Array DictEntry} {ep : Nat} {Q : Value → Shared → Prop} (hh : A.handled = none) (lo : (d == sysModules) = false) (ho : s.heap.get? d = some o) (hx : o.ExactDict) (hd : o.data = .dict es ep) (hn : es.size ≤ sizeLine)
    (hQ : ∀ (h' : Heap) (tk : Nat) (acc : Array Value), (∀ b o, s.heap.get? b = some o → h'.get? b = some o) → ItemsOf (fun i v => ∃ en : DictEntry, es[i]? = some en ∧ v = en.key) acc es.size →
      Q (.ref h'.objs.size) { s with heap := h'.push { cls := .type "tuple", data := .seq acc }, toks := tk }) :
    wpAny (model prog w) A (call (.type "tuple") [.ref d]) Q E s := by
  refine callType_codes (Q₁ := fun obj s₁ => s₁.TypeIs obj "tuple" ∧ Q obj s₁) F.called_tuple (F.typeCall_tuple_1 _) F.entry_object_init
    (code_tuple_new_keys (A := A.in1) hh lo ho hx hd hn fun h' tk acc hk hacc => ⟨⟨_, Heap.get?_push_size _ rfl, rfl⟩, hQ h' tk acc hk hacc⟩) fun obj s₁ h₁ => ?_
  exact ⟨h₁.1, F.args_object_init_2 obj _, object_init_meets F.called_tuple.init.lookup F.called_tuple.made (by decide) prog w A.in1 _ s₁ ⟨h₁.1, rfl, h₁.2⟩⟩
end
end RT
namespace MP
open PySem PySem.Spec PyProof.Rows L2 PySem.W PySem.Calls

section
variable {X : Cx} {Γ : Gam} {pins : List (Addr × Obj)} {σ : L2.St} {H : Hp} {s : Shared} {m : Nat → Addr} {L : Nat}
theorem dct_raw (I : Inv X pins σ H s) {a : Addr} {qs : List (NestedKey × Addr × V)} (e : H a = some (dctO a qs)) : qs.length ≤ sizeLine ∧ (a == sysModules) = false ∧
    ∃ xs : List (NestedKey × Addr × Value), Paired RQ qs xs ∧ ∃ o es ep, s.heap.get? a = some o ∧ o.ExactDict ∧ o.data = .dict es ep ∧ es.toList = xs.map (fun x => (⟨hashK x.1, .ref x.2.1, x.2.2⟩ : DictEntry)) := by
  obtain ⟨⟨h1, h2, xs, h3, o, es, ep, g1, g2, g3, g4, g5⟩, _, _⟩ := I.hok a _ e
  exact ⟨h1, h2, xs, h3, o, es, ep, g1, g2, g3, g4⟩
theorem keys_items {es : Array DictEntry} {xs : List (NestedKey × Addr × Value)} (he : es.toList = xs.map (fun x => (⟨hashK x.1, .ref x.2.1, x.2.2⟩ : DictEntry))) {acc : Array Value} (it : ItemsOf (fun i v => ∃ en : DictEntry, es[i]? = some en ∧ v = en.key) acc es.size) :
    acc.toList = xs.map fun x => Value.ref x.2.1 := by
  have hl : es.size = xs.length := by rw [← Array.length_toList, he, List.length_map]
  apply List.ext_getElem?
  intro j
  rw [List.getElem?_map]
  cases hj : acc.toList[j]? with
  | none =>
    have h1 := List.getElem?_eq_none_iff.mp hj
    rw [Array.length_toList, it.1, hl] at h1
    rw [List.getElem?_eq_none h1]
    rfl
  | some v =>
    obtain ⟨en, hen, hv⟩ := it.2 j v (by rw [← Array.getElem?_toList]; exact hj)
    rw [← Array.getElem?_toList, he, List.getElem?_map] at hen
    cases hb : xs[j]? with
    | none => rw [hb] at hen; cases hen
    | some b =>
      rw [hb] at hen
      cases hen
      rw [hv]
      rfl
theorem keys_ud : ∀ {ps : List (D × D)} {qs : List (NestedKey × Addr × V)} {xs : List (NestedKey × Addr × Value)}, DctR Γ.K m L H ps qs → Paired RQ qs xs → EachIs (UD Γ m L H) (xs.map fun x => Value.ref x.2.1) (ps.map (·.1))
  | _, _, _, .nil, .nil => .nil
  | _, _, _, .cons (b := b) o r1 r2 rs, .cons h t => by
    rw [List.map_cons, List.map_cons]
    refine .cons ⟨.ref b, ?_, r1⟩ (keys_ud rs t)
    rw [← h.2.1]
    rfl
theorem keys_len : ∀ {ps : List (D × D)} {qs : List (NestedKey × Addr × V)} {xs : List (NestedKey × Addr × Value)}, DctR Γ.K m L H ps qs → Paired RQ qs xs → (ps.map (·.1)).length = qs.length := fun r _ => by rw [List.length_map, dct_len r]
/-- a dict's keys, as a list, a tuple, sorted -/
def rKeys (K : PySem.W.Frag) (P : List (D × D) → (Nat → Addr) → Nat → Hp → VK → Prop) : List V → Hp → VK → Prop := fun xs H Q => ∃ m L a ps qs, xs = [.ref a] ∧ H a = some (dctO a qs) ∧ DctR K m L H ps qs ∧ P ps m L H Q
def pList (K : PySem.W.Frag) : List (D × D) → (Nat → Addr) → Nat → Hp → VK → Prop := fun ps m L H Q => ∀ q ws, H q = none → RvL K m L H (ps.map (·.1)) ws → Q (.ref q) (upd H q (.lst ws))
def pTup (K : PySem.W.Frag) : List (D × D) → (Nat → Addr) → Nat → Hp → VK → Prop := fun ps m L H Q => ∀ q ws, H q = none → RvL K m L H (ps.map (·.1)) ws → Q (.ref q) (upd H q (.tup ws))
def pSort (K : PySem.W.Frag) : List (D × D) → (Nat → Addr) → Nat → Hp → VK → Prop := fun ps m L H Q => canSort (ps.map (·.1)) = true ∧ ∀ q ws, H q = none → RvL K m L H (isort leD (ps.map (·.1))) ws → Q (.ref q) (upd H q (.lst ws))
theorem cr_listKeys (hc : X.calm = true) : CallR X (.type "list") (rKeys Γ.K (pList Γ.K)) := by
  intro pins s σ H xs us Q I r h
  obtain ⟨m, L, a, ps, qs, rfl, e, rd, q⟩ := h
  obtain ⟨u, rfl, rx⟩ := r.one
  cases rx
  obtain ⟨h1, h2, xs, h3, o, es, ep, g1, g2, g3, g4⟩ := dct_raw I e
  have l1 : es.size = xs.length := by rw [← Array.length_toList, g4, List.length_map]
  have l2 := Paired.length h3
  refine PySem.W.kdl_call (kdl_raw h2 g2 g3) (I.ok.hd hc) g1 (by omega) fun h' tk acc' c' kp e' it => ?_
  have ea := keys_items g4 it
  obtain ⟨ws, w1, w2⟩ := ud_vals (keys_ud rd h3)
  have hz : ws.length ≤ sizeLine := by rw [← w2.length, keys_len rd h3]; exact h1
  refine ⟨.ref s.heap.objs.size, _, I.laid (t' := tk) (o := .lst ws) kp (Nat.le_refl _) ?_, rfl, q _ _ (I.hok.fresh (Nat.le_refl _)) w2⟩
  exact ⟨hz, acc'.toList, c', by rw [ea]; exact w1, by rw [Array.toArray_toList]; exact e'⟩
theorem cr_tupKeys (hc : X.calm = true) : CallR X (.type "tuple") (rKeys Γ.K (pTup Γ.K)) := by
  intro pins s σ H xs us Q I r h
  obtain ⟨m, L, a, ps, qs, rfl, e, rd, q⟩ := h
  obtain ⟨u, rfl, rx⟩ := r.one
  cases rx
  obtain ⟨h1, h2, xs, h3, o, es, ep, g1, g2, g3, g4⟩ := dct_raw I e
  have l1 : es.size = xs.length := by rw [← Array.length_toList, g4, List.length_map]
  have l2 := Paired.length h3
  refine RT.call_tuple_keys (I.ok.hd hc) h2 g1 g2 g3 (by omega) fun h' tk acc' kp it => ?_
  have ea := keys_items g4 it
  obtain ⟨ws, w1, w2⟩ := ud_vals (keys_ud rd h3)
  have hz : ws.length ≤ sizeLine := by rw [← w2.length, keys_len rd h3]; exact h1
  have I1 : Inv X pins σ H { s with heap := h', toks := tk } := I.kept kp
  have I2 : Inv X pins σ (upd H h'.objs.size (.tup ws)) { s with heap := h'.push { cls := .type "tuple", data := .seq acc' }, toks := tk } :=
    I1.laid (t' := tk) (fun b o e => Heap.get?_push_of_some _ e) (Nat.le_refl _) (show ObjOk X.prog X.w _ _ _ (.tup ws) from ⟨hz, acc'.toList, by rw [ea]; exact w1, by rw [Array.toArray_toList]; exact IsTup.new _ _⟩)
  exact ⟨.ref h'.objs.size, _, I2, rfl, q _ _ (I1.hok.fresh (Nat.le_refl _)) w2⟩
theorem cr_sortKeys (hK : X.K = Γ.K) (hc : X.calm = true) (hu : X.A.units + 65 < cLine) : CallR X (.builtin "sorted") (rKeys Γ.K (pSort Γ.K)) := by
  intro pins s σ H xs us Q I r h
  obtain ⟨m, L, a, ps, qs, rfl, e, rd, hs, q⟩ := h
  obtain ⟨u, rfl, rx⟩ := r.one
  cases rx
  obtain ⟨h1, h2, xs, h3, o, es, ep, g1, g2, g3, g4⟩ := dct_raw I e
  have l1 : es.size = xs.length := by rw [← Array.length_toList, g4, List.length_map]
  have l2 := Paired.length h3
  refine Calls.call_function_entry PyProof.Rows.kind_sorted PyProof.Rows.plain_sorted PyProof.Rows.entry_sorted (PyProof.Rows.args_sorted1 _) ?_
  unfold Builtin.«sorted»
  refine wpAny_bind (m := checkCount "sorted" 1 1 _) (wpAny_pure ?_)
  refine wpAny_bind (PySem.W.kdu_collect (A := X.A.in1) (kdl_raw h2 g2 g3) (I.ok.hd hc) g1 (by omega) fun h' tk acc hk hacc => ?_)
  have ea := keys_items g4 hacc
  have I1 : Inv X pins σ H { s with heap := h', toks := tk } := I.kept hk
  have ud := keys_ud rd h3
  rw [← ea] at ud
  have hal : acc.toList.length = xs.length := by rw [ea, List.length_map]
  refine wpAny_bind (wpAny_newList ?_ (by rw [hal]; omega))
  have hoL : (h'.push (seqObj "list" acc.toList.toArray 0)).get? h'.objs.size = some (seqObj "list" acc.toList.toArray 0) := Heap.get?_push_size _ rfl
  show wpAny _ _ _ _ _ { s with heap := h'.push (seqObj "list" acc.toList.toArray 0), toks := tk }
  obtain ⟨c1, c2, c3⟩ := canSort_ok hs
  have hlen : (ps.map (·.1)).length ≤ sizeLine := by rw [keys_len rd h3]; exact h1
  have I2 : Inv X pins σ H { s with heap := h'.push (seqObj "list" acc.toList.toArray 0), toks := tk } := I1.kept fun b o e => Heap.get?_push_of_some _ e
  refine wpAny_bind (wpAny_holding (list_sort_data (s := { s with heap := h'.push (seqObj "list" acc.toList.toArray 0), toks := tk }) (enc := encD) hoL ud ((ud_reads I2 hK c1 ud).mono fun _ _ ⟨as, r, z⟩ => ⟨as, r, z _⟩) c2 c3 hlen (fun b hb => ?_) fun out hout eo => ?_))
  · have := depth_flat (List.all_eq_true.mp c1 b hb)
    have e1 : X.A.in1.units = X.A.units + 1 := rfl
    omega
  · rw [sortE encD] at eo
    obtain ⟨e', he'⟩ := PyProof.Rows.sortedHeap_at (vs := acc.toList) (out := out.toArray) hoL
    obtain ⟨ws, w1, w2, w3⟩ := sorted_inv (h' := sortedHeap (h'.push (seqObj "list" acc.toList.toArray 0)) h'.objs.size acc.toList out.toArray) (tk := tk) I1 (fun b u e => by
      have hb : b < h'.objs.size := Heap.lt_size e
      rw [PyProof.Rows.sortedHeap_old (Nat.ne_of_lt hb) (by rw [size_push']; exact Nat.lt_succ_of_lt hb)]
      exact Heap.get?_push_of_some _ e) (Nat.le_refl _) he' eo (by rw [isort_len]; exact hlen)
    exact wpAny_pure ⟨_, rfl, .ref h'.objs.size, _, w3, rfl, q _ _ w2 w1⟩
end
/-! on data: list, tuple and sorted of what it is -/
def fListG : List D → Sto → Rt
  | [d], st => match dctAt st d with
    | some ps => okL (ps.map (·.1)) st
    | none => fList [d] st
  | _, _ => none
def fTupleG : List D → Sto → Rt
  | [d], st => match dctAt st d with
    | some ps => okD (.tup (ps.map (·.1))) st
    | none => fTuple [d] st
  | _, _ => none
def fSortG : List D → Sto → Rt
  | [d], st => match dctAt st d with
    | some ps => if canSort (ps.map (·.1)) then okL (isort leD (ps.map (·.1))) st else none
    | none => fSort [d] st
  | _, _ => none
theorem mono_fListG : MonoFA fListG := by
  intro ds st r st' h
  unfold fListG at h
  split at h
  · split at h
    · exact mono_okL h
    · exact mono_fList _ _ _ _ h
  · cases h
theorem mono_fTupleG : MonoFA fTupleG := by
  intro ds st r st' h
  unfold fTupleG at h
  split at h
  · split at h
    · exact mono_ok h
    · exact mono_fTuple _ _ _ _ h
  · cases h
theorem mono_fSortG : MonoFA fSortG := by
  intro ds st r st' h
  unfold fSortG at h
  split at h
  · split at h
    · split at h
      · exact mono_okL h
      · cases h
    · exact mono_fSort _ _ _ _ h
  · cases h
section
variable {X : Cx} {Γ : Gam}
theorem cs_keys {m : Nat → Addr} {st : Sto} {H : Hp} {d : D} {x : V} {ps : List (D × D)} {Q : VK} {P : List (D × D) → (Nat → Addr) → Nat → Hp → VK → Prop} (s : StR Γ m st H) (hd : dctAt st d = some ps) (rx : Rv Γ.K m st.length H d x) (h : P ps m st.length H Q) : rKeys Γ.K P [x] H Q := by
  obtain ⟨n, rfl, e⟩ := dctAt_at hd
  cases rx
  obtain ⟨qs, h1, r⟩ := s.cell n _ e
  exact ⟨m, st.length, m n, ps, qs, rfl, h1, r, h⟩
abbrev rListG (K : PySem.W.Frag) : List V → Hp → VK → Prop := fun xs H Q => rKeys K (pList K) xs H Q ∨ rListDD K xs H Q
abbrev rTupleG (K : PySem.W.Frag) : List V → Hp → VK → Prop := fun xs H Q => rKeys K (pTup K) xs H Q ∨ rTupleD K xs H Q
abbrev rSortedG (K : PySem.W.Frag) : List V → Hp → VK → Prop := fun xs H Q => rKeys K (pSort K) xs H Q ∨ rSortG K xs H Q
theorem cr_listG (hK : X.K = Γ.K) (hc : X.calm = true) : CallR X (.type "list") (rListG Γ.K) := (cr_listKeys hc).or (by rw [← hK]; exact call_list_of)
theorem cr_tupleG (hK : X.K = Γ.K) (hc : X.calm = true) : CallR X (.type "tuple") (rTupleG Γ.K) := (cr_tupKeys hc).or (by rw [← hK]; exact call_tuple_of)
theorem cr_sortedG (hK : X.K = Γ.K) (hc : X.calm = true) (hu : X.A.units + 65 < cLine) : CallR X (.builtin "sorted") (rSortedG Γ.K) := (cr_sortKeys hK hc hu).or (cr_sortG hK hu)
theorem cs_listG : CallSim Γ (rListG Γ.K) fListG := fun
  | m, st, H, _, [d], Q, E, s, .cons r .nil, h => by
    dsimp only [fListG] at h
    split at h
    · rename_i ps hd
      exact .inl (cs_keys s hd r fun q ws hq rw_ => h.lstN s rw_ hq)
    · exact .inr (cs_list m st H _ [d] Q E s (.cons r .nil) h)
theorem cs_tupleG : CallSim Γ (rTupleG Γ.K) fTupleG := fun
  | m, st, H, _, [d], Q, E, s, .cons r .nil, h => by
    dsimp only [fTupleG] at h
    split at h
    · rename_i ps hd
      exact .inl (cs_keys s hd r fun q ws hq rw_ => h.tupN s rw_ hq)
    · exact .inr (cs_tuple m st H _ [d] Q E s (.cons r .nil) h)
theorem cs_sortedG : CallSim Γ (rSortedG Γ.K) fSortG := fun
  | m, st, H, _, [d], Q, E, s, .cons r .nil, h => by
    dsimp only [fSortG] at h
    split at h
    · rename_i ps hd
      split at h
      · rename_i hc
        exact .inl (cs_keys s hd r ⟨hc, fun q ws hq rw_ => h.lstN s rw_ hq⟩)
      · exact h.elim
    · exact .inr (cs_sort m st H _ [d] Q E s (.cons r .nil) h)
end
end MP
end
section
set_option maxRecDepth 100000
set_option maxHeartbeats 1000000
namespace MP
open PySem PySem.Spec PyProof.Rows L2 PySem.W PySem.Calls

/-! ### xs.extend(ys): a list or a tuple -/
set_option maxRecDepth 8000 in
theorem meets_extT (l b : Addr) (xs ys : Array Value) (n k : Nat) (dd : Option Addr) (sl : Array (Option Value)) (h0 : ¬(!xs.isEmpty && Builtin.List.listTooLong (xs.size + ys.size)) = true) (h1 : xs.size ≤ sizeLine) (h2 : xs.size + ys.size ≤ sizeLine + 1) :
    Meets (Builtin.«list.extend» ⟨[.ref l, .ref b], []⟩) (fun _ R s => s.heap.get? l = some { cls := .type "list", dict := none, data := .seq xs n, slots := #[] } ∧ s.heap.get? b = some { cls := .type "tuple", dict := dd, data := .seq ys k, slots := sl } ∧
      R (.ok (.ret Value.none)) { s with heap := s.heap.update l (Obj.mapSeq fun z => z ++ ys) }) :=
  .of_wp fun prog w A R s h => by
    obtain ⟨hp, g, d, tk, os⟩ := s
    obtain ⟨hl, hb, h⟩ := h
    have f2 := sub_tuple_tuple
    have f4 := sub_tuple_list
    have hz : (xs ++ ys).size ≤ sizeLine + 1 := by rw [Array.size_append]; exact h2
    wp_walk using (wpAny_updateSeq hl rfl (hz := h1) (_hz' := hz)), wpAny_loadPart' hl, wpAny_loadPart' hb
    exact ⟨_, rfl, h⟩
def rExtT (K : PySem.W.Frag) : V → List V → Hp → VK → Prop := fun x vs H Q => ∃ l b xs zs, x = .ref l ∧ vs = [.ref b] ∧ H l = some (.lst xs) ∧ SqT K H b zs ∧ xs.length + zs.length ≤ sizeLine ∧ Q .non (upd H l (.lst (xs ++ zs)))
section
variable {X : Cx} {Γ : Gam}
theorem mt_extT : MtR X "list.extend" (rExtT X.K) := by
  intro pins s σ H x vs v us Q I rx rv h
  obtain ⟨l, b, xs, zs, rfl, rfl, hH, hB, hz, q⟩ := h
  cases rx
  obtain ⟨u, rfl, ru⟩ := rv.one
  cases ru
  obtain ⟨z, its, n, r, hl, e⟩ := I.lstM hH
  obtain ⟨its2, r2, ⟨o, ho, hc, k, hd⟩, hz2⟩ := I.tuple hB
  obtain ⟨oc, odd, odt, osl⟩ := o
  dsimp only at hc hd
  subst hc hd
  have hl2 := r2.length
  have hsz : its.toArray.size + its2.toArray.size ≤ sizeLine := by rw [List.size_toArray, List.size_toArray]; omega
  have hlong : ¬ (!its.toArray.isEmpty && Builtin.List.listTooLong (its.toArray.size + its2.toArray.size)) = true := by
    rw [notLongL hsz, Bool.and_false]
    exact Bool.false_ne_true
  refine call_meets F.slot_list_extend ⟨_, e, rfl⟩ F.entry_list_extend (F.args_list_extend_2 _ _) (meets_extT l b its.toArray its2.toArray n k odd osl hlong (by rw [List.size_toArray]; omega) (by omega)) ⟨e, ho, ?_⟩
  refine ⟨.non, _, I.lset (its' := its ++ its2) hH e (by simp) (r.append r2) ?_, rfl, q⟩
  rw [List.length_append]
  omega
abbrev rExtG (K : PySem.W.Frag) : V → List V → Hp → VK → Prop := fun x vs H Q => rExtend x vs H Q ∨ rExtT K x vs H Q
theorem mt_extG : MtR X "list.extend" (rExtG X.K) := MtR.or (show MtR X "list.extend" rExtend from mt_extend) mt_extT
def fExtend : D → List D → Sto → Rt
  | .obj n, [.obj k], st => match st[n]?, st[k]? with
    | some (.lst false a), some (.lst false b) => if small (a.length + b.length) then some (.ok .non, st.set n (.lst false (a ++ b))) else none
    | _, _ => none
  | .obj n, [.tup b], st => match st[n]? with
    | some (.lst false a) => if small (a.length + b.length) then some (.ok .non, st.set n (.lst false (a ++ b))) else none
    | _ => none
  | _, _, _ => none
theorem mono_fExtend : MonoM fExtend := by
  intro x ds st r st' h
  unfold fExtend at h
  repeat' (split at h)
  all_goals first | exact mono_put h | cases h
theorem ms_extend : MtSim Γ (rExtG Γ.K) fExtend := fun
  | m, st, H, _, _, .obj n, [.obj k], Q, E, s, .obj hn, .cons (.obj hk) .nil, h => by
    dsimp only [fExtend] at h
    split at h
    · rename_i a b e1 e2
      split at h
      · rename_i z
        obtain ⟨xs, a1, r1⟩ := s.lst e1
        obtain ⟨ys, a2, r2⟩ := s.lst e2
        refine .inl ⟨m n, m k, xs, ys, rfl, rfl, a1, a2, by rw [← r1.length, ← r2.length]; exact small_le z, ?_⟩
        exact h.putN s e1 rfl rfl (fun k' => ⟨_, upd_same, (r1.app r2).mono (Ext.refl _ _) (Nat.le_refl _) k'⟩) .non
      · exact h.elim
    · exact h.elim
  | m, st, H, _, _, .obj n, [.tup b], Q, E, s, .obj hn, .cons (.tup (a := p) (vs := ys) h2 r2) .nil, h => by
    dsimp only [fExtend] at h
    split at h
    · rename_i a e1
      split at h
      · rename_i z
        obtain ⟨xs, a1, r1⟩ := s.lst e1
        refine .inr ⟨m n, p, xs, ys, rfl, rfl, a1, h2, by rw [← r1.length, ← r2.length]; exact small_le z, ?_⟩
        exact h.putN s e1 rfl rfl (fun k' => ⟨_, upd_same, (r1.app r2).mono (Ext.refl _ _) (Nat.le_refl _) k'⟩) .non
      · exact h.elim
    · exact h.elim
end
/-! ### x += e -/
section
variable {X : Cx} {Γ : Gam} {W : WX} {e a b c o i tg iter : Expr} {da db dc de : De} {pos pos' : Pos} {body : List Stmt} {d1 : Ds} {das : List De}
def augK (i : Nat) (ls : Ls) (x y : D) (st : Sto) : Rss := match x, y with
  | .int a, .int b => some (.next, ls.set i (some (.int (a + b))), st)
  | _, _ => none
theorem monoK_aug {i : Nat} {ls : Ls} {x : D} : MonoK (augK i ls x) := fun y st a l st' h => by
  unfold augK at h
  split at h
  · cases h; exact Nat.le_refl _
  · cases h
def dAugI (i : Nat) (de : De) : Ds := fun ls st => match ls[i]? with
  | some (some x) => bindS (de ls st) ls (augK i ls x)
  | _ => none
theorem ss_augI {i : Nat} {x : Str} (hN : X.N.Nodup) (hi : X.N[i]? = some x) (hx : Loc X.env.scope x) (hf : X.fn x = true ∨ X.env.scope.names.lookup x = some .local) (he : Sim X Γ W e de) : SimS X Γ W (.AugAssign (.Name x pos') .Add e pos) (dAugI i de) := by
  refine ⟨fun ls st a l st' h => ?_, (ps_aug hN hi hx he.pe ip_add hf).imp fun D σ H ⟨m, ls, st, s, l, h⟩ => ?_⟩
  · unfold dAugI at h
    split at h
    · exact bindS_mono (fun a s z => he.mono ls st a s z) monoK_aug a l st' h
    · cases h
  · unfold dAugI at h
    split at h
    · rename_i dx ex
      obtain ⟨v, e1, rx⟩ := l.at_ i dx ex
      refine ⟨v, e1, tD_bindS he.mono s l monoK_aug h fun m1 y st1 w H1 s1 l1 r1 q1 hl e k => ?_⟩
      unfold augK at q1
      split at q1
      · cases rx
        cases r1
        refine ⟨_, _, rfl, rfl, ?_⟩
        exact OutS.here q1 s1 (l1.set i (.int _))
      · exact q1.elim
    · exact h.elim
/-! ### while -/
def whK (n : Nat) (dt : De) (db : Ds) (rec : Ls → Sto → Rss) (ls : Ls) (d : D) (st : Sto) : Rss := match d with
  | .bl true => match db ls st with
    | some (.next, ls2, st2) => rec ls2 st2
    | some (.cont, ls2, st2) => rec ls2 st2
    | some (.brk, ls2, st2) => some (.next, ls2, st2)
    | some (.ret d, ls2, st2) => some (.ret d, ls2, st2)
    | some (.exc c fs, ls2, st2) => some (.exc c fs, ls2, st2)
    | none => none
  | .bl false => some (.next, ls, st)
  | _ => none
def whD (dt : De) (db : Ds) : Nat → Ls → Sto → Rss
  | 0, _, _ => none
  | n + 1, ls, st => bindS (dt ls st) ls (whK n dt db (whD dt db n) ls)
theorem monoK_wh {n : Nat} {dt : De} {db : Ds} {rec : Ls → Sto → Rss} {ls : Ls} (hb : MonoS db) (hr : ∀ ls st a l st', rec ls st = some (a, l, st') → st.length ≤ st'.length) : MonoK (whK n dt db rec ls) := fun d st a l st' h => by
  unfold whK at h
  have hb' := fun a l st' q => hb ls st a l st' q
  split at h
  · split at h
    · rename_i e2
      exact Nat.le_trans (hb' _ _ _ e2) (hr _ _ _ _ _ h)
    · rename_i e2
      exact Nat.le_trans (hb' _ _ _ e2) (hr _ _ _ _ _ h)
    · rename_i e2
      cases h
      exact hb' _ _ _ e2
    · rename_i e2
      cases h
      exact hb' _ _ _ e2
    · rename_i e2
      cases h
      exact hb' _ _ _ e2
    · cases h
  · cases h
    exact Nat.le_refl _
  · cases h
theorem whD_mono {dt : De} {db : Ds} (mt : Mono dt) (hb : MonoS db) : ∀ (n : Nat) (ls : Ls) (st : Sto) (a : Fl) (l : Ls) (st' : Sto), whD dt db n ls st = some (a, l, st') → st.length ≤ st'.length
  | 0, ls, st, a, l, st', h => by cases h
  | n + 1, ls, st, a, l, st', h => by
    rw [whD] at h
    exact bindS_mono (fun a s z => mt ls st a s z) (monoK_wh hb (whD_mono mt hb n)) a l st' h
theorem ss_while (fuel : Nat) (hp : PassesOwn (model X.prog X.w) X.A X.env X.xe) (hc : SimT X Γ W c dc) (hb : SimB X Γ W body d1) : SimS X Γ W (.While c body [] pos) (whD dc d1 fuel) := by
  refine ⟨fun ls st a l st' h => whD_mono hc.mono hb.mono fuel ls st a l st' h, (ps_while hp hc.pt hb.ps).imp fun D σ H ⟨m, ls, st, s, l, h⟩ => ?_⟩
  refine ⟨fun n σ H => ∃ m ls st, StR Γ m st H ∧ LsR Γ m st.length H ls σ ∧ ResS Γ m st.length H (whD dc d1 n ls st) D W, ⟨fuel, m, ls, st, s, l, h⟩, fun n σ H ⟨m, ls, st, s, l, h⟩ => ?_⟩
  cases n with
  | zero => exact h.elim
  | succ n =>
    rw [whD] at h
    refine tD_bindS hc.mono s l (monoK_wh hb.mono (whD_mono hc.mono hb.mono n)) h fun m1 d st1 v H1 s1 l1 r1 q1 hl e k => ?_
    unfold whK at q1
    split at q1
    · cases r1
      refine ⟨true, rfl, iteT ?_⟩
      refine ⟨fun σ' H' => ∃ m ls st, StR Γ m st H' ∧ LsR Γ m st.length H' ls σ' ∧ ResS Γ m st.length H' (whD dc d1 n ls st) D W, fun σ' H' q => ⟨n, Nat.lt_succ_self _, q⟩, m1, ls, st1, s1, l1, ?_⟩
      have hb' := fun a l st' q => hb.mono ls st1 a l st' q
      have mw := whD_mono hc.mono hb.mono n
      match d1 ls st1, q1, hb' with
      | some (.next, ls4, st4), q1, hb' =>
        have hl4 := hb' _ _ _ rfl
        exact ⟨hl4, fun m4 H4 σ4 e4 k4 s4 l4 => ⟨m4, ls4, st4, s4, l4, ResS.mono (r := whD dc d1 n ls4 st4) q1 e4 k4 hl4 fun a l st' q => mw _ _ _ _ _ q⟩⟩
      | some (.cont, ls4, st4), q1, hb' =>
        have hl4 := hb' _ _ _ rfl
        exact ⟨hl4, fun m4 H4 σ4 e4 k4 s4 l4 => ⟨m4, ls4, st4, s4, l4, ResS.mono (r := whD dc d1 n ls4 st4) q1 e4 k4 hl4 fun a l st' q => mw _ _ _ _ _ q⟩⟩
      | some (.brk, ls4, st4), q1, hb' => exact q1
      | some (.ret d, ls4, st4), q1, hb' => exact q1
      | some (.exc c fs, ls4, st4), q1, hb' => exact q1
      | none, q1, _ => exact q1.elim
    · cases r1
      refine ⟨false, rfl, iteF ?_⟩
      exact OutS.here q1 s1 l1
    · exact q1.elim
/-! ### list(range(..)) -/
def fLRg1 : D → Sto → Rt
  | .int j, st => if decide (0 ≤ j) && decide (j ≤ 1000000) then okL (rgD 0 j.toNat) st else none
  | _, _ => none
def fLRg2 : D → D → Sto → Rt
  | .int i, .int j, st => if decide (0 ≤ i) && decide (i ≤ 1000000) && decide (0 ≤ j) && decide (j ≤ 1000000) then okL (rgD i (j - i).toNat) st else none
  | _, _, _ => none
theorem rgD_vals {K : PySem.W.Frag} {m : Nat → Addr} {L : Nat} {H : Hp} {lo hi : Int} : RvL K m L H (rgD lo (hi - lo).toNat) (rgV lo hi) := by
  unfold rgD rgV
  induction (List.range (hi - lo).toNat) with
  | nil => exact .nil
  | cons a r ih => exact .cons (.int _) ih
theorem mono_fLRg2 : MonoF2 fLRg2 := by
  intro d e st r st' h
  unfold fLRg2 at h
  repeat' (split at h)
  all_goals first | exact mono_okL h | cases h
theorem sim_listRg2 {p pos2 : Pos} {p2 : Pos} (hc : X.calm = true) (hg : Gl X "list") (hm : X.mg "list" = none) (hg2 : Gl X "range") (hm2 : X.mg "range" = none) (ha : Sim X Γ W a da) (hb : Sim X Γ W b db)
    (na : starEach [a, b] X.env = (false, eval a X.env) :: starEach [b] X.env) (nb : starEach [b] X.env = (false, eval b X.env) :: starEach [] X.env) (hp : (backTo pos2 (starEach [b] X.env)).any (·.1) = false)
    (nr : starEach [.Call (.Name "range" p2) [a, b] [] pos2] X.env = (false, eval (.Call (.Name "range" p2) [a, b] [] pos2) X.env) :: starEach [] X.env) :
    Sim X Γ W (.Call (.Name "list" p) [.Call (.Name "range" p2) [a, b] [] pos2] [] pos) (dBin fLRg2 da db) := by
  refine ⟨mono_bin ha.mono hb.mono mono_fLRg2, (pe_listRg hc hg hm (prg_2 hg2 hm2 ha.pe hb.pe na nb hp) nr).imp fun σ H Q h => ?_⟩
  refine tD_bin (r := fun x y H Q => ∃ i j, x = .int i ∧ y = .int j ∧ RgOk i j ∧ ∀ q, H q = none → Q (.ref q) (upd H q (.lst (rgV i j)))) ha.mono hb.mono mono_fLRg2 ?_ h
  intro m st H x y d e Q E s rx ry h
  unfold fLRg2 at h
  split at h
  · split at h
    · rename_i z
      simp only [Bool.and_eq_true, decide_eq_true_eq] at z
      cases rx
      cases ry
      exact ⟨_, _, rfl, rfl, RgOk.of_le z.1.1.1 (by omega) (by omega) (by omega), fun q hq => h.lstN s rgD_vals hq⟩
    · exact h.elim
  · exact h.elim
end
end MP
end
section
set_option maxRecDepth 100000
set_option maxHeartbeats 3200000
namespace MP
open PySem PySem.Spec PyProof.Rows L2 PySem.W PySem.Calls

/-! ### set(xs), xs a list of whole numbers -/
section
variable {P : Program} {w : World} {A : Around} {E : Value → Shared → Prop} {s : Shared}
/-- an empty set's object -/
abbrev set0 (w : World) : Obj := { cls := .type "set", dict := none, data := .set #[] 0 (.fresh 0 0 (!w.params.followText "set-order")) }
theorem set_of_list {l : Addr} {its : List Value} {ns : List Int} {Q : Value → Shared → Prop} (hh : A.handled = none) (hl : s.heap.IsList l its.toArray) (hi : IntsAre its ns) (hb : ns.length + 1 < scanBound)
    (hQ : ∀ (h' : Heap) (tk c : Nat), SetR w h' s.heap.objs.size (fun j => decide (j ∈ ns)) c → c ≤ ns.length → (∀ b o, s.heap.get? b = some o → h'.get? b = some o) → Q (.ref s.heap.objs.size) { s with heap := h', toks := tk }) :
    wpAny (model P w) A (call (.type "set") [.ref l]) Q E s := by
  have len : its.length = ns.length := IntsAre.length hi
  obtain ⟨c, tl, hmro⟩ := F.called_set.mro
  have hmade := F.called_set.made
  have hsub := F.called_set.sub
  refine wpAny_call (codeAny_of_tree ?_)
  show wpAny _ _ (callAny (.type "set") _) _ _ _
  refine wpAny_pure ⟨Code.quiet_builtin _ (by decide +kernel), codeAny_builtin F.entry_type_call ?_⟩
  rw [Around.under_plain (weight_type_call_type "set" [.ref l] []) rfl]
  have h1 := F.called_set.notType
  have h2 := F.called_set.canCreate
  have hct := F.typeCall_set_1 (.ref l)
  repeat (any_goals (first | assumption | wp_step))
  generalize hz : s.heap.objs.size = z
  generalize hs0 : s.heap.push (set0 w) = H0
  have z0 : H0.get? z = some (set0 w) := by rw [← hs0, ← hz]; exact Heap.get?_push_size _ rfl
  have k0 : ∀ b o, s.heap.get? b = some o → H0.get? b = some o := fun b o e => by rw [← hs0]; exact Heap.get?_push_of_some _ e
  have sz0 : H0.objs.size = z + 1 := by rw [← hs0, ← hz]; exact Heap.size_push ..
  refine codeAny_mono (code_set_led1 (.ref l) (E := E) (Q₁ := fun obj s₁ => obj = .ref z ∧ s₁ = { s with heap := H0 }) ⟨by rw [hz], by rw [← hs0]⟩) fun r s₁ hr => ?_
  cases r with
  | error e => exact hr
  | ok fl =>
    cases fl with
    | ret obj =>
      obtain ⟨rfl, rfl⟩ := hr
      have hT : Shared.TypeIs { s with heap := H0 } (.ref z) "set" := ⟨_, z0, rfl⟩
      have hli := F.called_set.init.lookup
      have hbi := F.called_set.init.bind (.ref z)
      repeat (any_goals (first | assumption | wp_step))
      refine codeAny_mono (codeAny_call_builtin (R := wants (fun r s₂ => r = .none ∧ ∃ h' tk c, s₂ = { s with heap := h', toks := tk } ∧ SetR w h' z (fun j => decide (j ∈ ns)) c ∧ c ≤ ns.length ∧
          (∀ b o, s.heap.get? b = some o → h'.get? b = some o)) E) F.called_set.init.plain F.entry_set_init (check_set_init_1 hT ?_)) fun r₂ s₂ hr₂ => ?_
      · obtain ⟨⟨lc, ld, ldt, lsl⟩, hol, hcl, nl, hdl⟩ := hl
        dsimp only at hcl hdl
        subst hcl hdl
        have hol0 := k0 _ _ hol
        have hsls := F.sub_list_set
        have hslf := F.sub_list_frozenset
        have hne : (Value.type "list" == Value.type "dict") = false := by decide
        have hl0 : H0.IsList l its.toArray := ⟨_, hol0, rfl, nl, rfl⟩
        unfold Builtin.«set.__init__» noKeywords Builtin.Frozenset.updateFrom
        generalize hPI : pyIter = PI
        wp_walk
        subst hPI
        refine wpAny_pyIter_list hl0 (wpAny_bind (wpAny_runValue ?_))
        have lz : l < z := by rw [← hz]; exact Heap.lt_size hol
        have h3 : A.in1.in1.in1.handled = none := by simp [hh]
        have lI : l ≠ H0.objs.size := by rw [sz0]; exact Nat.ne_of_lt (Nat.lt_succ_of_lt lz)
        have zf : z ∉ [H0.objs.size, l] := by
          rw [sz0]
          simp only [List.mem_cons, List.not_mem_nil, or_false, not_or]
          exact ⟨Nat.ne_of_lt (Nat.lt_succ_self _), Nat.ne_of_gt lz⟩
        have it : ∀ (i : Nat) (v : Value), its.toArray[i]? = some v → ∃ k t, ns[i]? = some k ∧ v = .int k t := fun i v hv => by
          have hv' : its[i]? = some v := by simpa using hv
          have hlt : i < ns.length := by rw [← len]; exact (List.getElem?_eq_some_iff.mp hv').1
          obtain ⟨t, e⟩ := PyProof.Rows.IntsAre.int_at hi i v hv'
          exact ⟨ns[i], t, List.getElem?_eq_getElem hlt, by rw [e, List.getD_eq_getElem?_getD, List.getElem?_eq_getElem hlt]; rfl⟩
        refine set_update_ints ((Walks.list h3 _ l lI its.toArray).toS) z zf ns (by simpa using len) hb it (its.toArray.size - 0) 0 _ (by omega) (Nat.zero_le _)
          ⟨⟨_, Heap.get?_push_size _ rfl, rfl, rfl⟩, hl0.push _⟩ ⟨0, Nat.le_refl 0, setR_new_at (Heap.get?_push_of_some _ z0)⟩ fun s' c' hm hc' hS' => ?_
        obtain ⟨h', g2, d', tk', os'⟩ := s'
        have eg : g2 = s.gens := hm.gens
        have ed : d' = s.drawn := hm.drawn
        have eo : os' = s.os := hm.os
        subst eg ed eo
        show wpAny _ _ _ _ _ _
        refine wpAny_pure ?_
        show wpAny _ _ (ret Value.none) _ _ _
        refine wpAny_pure ⟨rfl, h', tk', c', rfl, hS', by rw [← len]; simpa using hc', fun b o e => ?_⟩
        have hb0 : b < z := by rw [← hz]; exact Heap.lt_size e
        refine hm.heap b o ?_ (Heap.get?_push_of_some _ (k0 _ _ e))
        simp only [List.mem_cons, List.not_mem_nil, or_false, not_or]
        exact ⟨Nat.ne_of_lt hb0, by rw [sz0]; exact Nat.ne_of_lt (Nat.lt_succ_of_lt hb0)⟩
      · cases r₂ with
        | error e => exact hr₂
        | ok fl₂ =>
          cases fl₂ with
          | ret r =>
            obtain ⟨rfl, h', tk, c', rfl, hS', hc', hk'⟩ := hr₂
            repeat (any_goals (first | assumption | wp_step))
            rw [hz] at hQ
            exact hQ _ _ _ hS' hc' hk'
          | _ => exact hr₂.elim
    | _ => exact hr.elim
end
end MP
end
section
set_option maxRecDepth 100000
set_option maxHeartbeats 1000000
namespace MP
open PySem PySem.Spec PyProof.Rows L2 PySem.W PySem.Calls

/-! ### sorted(set(xs)) of whole numbers -/
def insI (x : Int) : List Int → List Int
  | [] => [x]
  | y :: r => if x = y then y :: r else if x < y then x :: y :: r else y :: insI x r
def sortI : List Int → List Int
  | [] => []
  | x :: r => insI x (sortI r)
theorem insI_mem {x a : Int} : ∀ {l : List Int}, a ∈ insI x l ↔ a = x ∨ a ∈ l
  | [] => by simp [insI]
  | y :: r => by
    unfold insI
    by_cases e : x = y
    · rw [if_pos e]
      subst e
      simp
    · rw [if_neg e]
      by_cases h : x < y
      · rw [if_pos h]
        simp
      · rw [if_neg h, List.mem_cons, insI_mem, List.mem_cons]
        constructor
        · rintro (h | h | h) <;> simp [h]
        · rintro (h | h | h) <;> simp [h]
theorem insI_sorted {x : Int} : ∀ {l : List Int}, l.Pairwise (· < ·) → (insI x l).Pairwise (· < ·)
  | [], _ => List.pairwise_singleton _ _
  | y :: r, h => by
    obtain ⟨h1, h2⟩ := List.pairwise_cons.mp h
    unfold insI
    by_cases e : x = y
    · rw [if_pos e]
      exact h
    · rw [if_neg e]
      by_cases hl : x < y
      · rw [if_pos hl]
        refine List.pairwise_cons.mpr ⟨fun z hz => ?_, h⟩
        rcases List.mem_cons.mp hz with q | q
        · subst q; exact hl
        · have := h1 z q
          omega
      · rw [if_neg hl]
        refine List.pairwise_cons.mpr ⟨fun z hz => ?_, insI_sorted h2⟩
        rcases insI_mem.mp hz with q | q
        · subst q; omega
        · exact h1 z q
theorem sortI_mem {a : Int} : ∀ {l : List Int}, a ∈ sortI l ↔ a ∈ l
  | [] => by simp [sortI]
  | x :: r => by rw [sortI, insI_mem, sortI_mem, List.mem_cons]
theorem sortI_sorted : ∀ l : List Int, (sortI l).Pairwise (· < ·)
  | [] => List.Pairwise.nil
  | x :: r => by rw [sortI]; exact insI_sorted (sortI_sorted r)
theorem sortI_uniq : ∀ {l r : List Int}, l.Pairwise (· < ·) → r.Pairwise (· < ·) → (∀ k, k ∈ l ↔ k ∈ r) → l = r
  | [], [], _, _, _ => rfl
  | [], y :: r, _, _, h => absurd ((h y).mpr List.mem_cons_self) (by simp)
  | x :: l, [], _, _, h => absurd ((h x).mp List.mem_cons_self) (by simp)
  | x :: l, y :: r, hl, hr, h => by
    obtain ⟨l1, l2⟩ := List.pairwise_cons.mp hl
    obtain ⟨r1, r2⟩ := List.pairwise_cons.mp hr
    have e : x = y := by
      rcases List.mem_cons.mp ((h x).mp List.mem_cons_self) with q | q
      · exact q
      · rcases List.mem_cons.mp ((h y).mpr List.mem_cons_self) with q2 | q2
        · exact q2.symm
        · have a1 := r1 x q
          have a2 := l1 y q2
          omega
    subst e
    rw [sortI_uniq l2 r2 fun k => ?_]
    constructor
    · intro hk
      rcases List.mem_cons.mp ((h k).mp (List.mem_cons_of_mem _ hk)) with q | q
      · have := l1 k hk; omega
      · exact q
    · intro hk
      rcases List.mem_cons.mp ((h k).mpr (List.mem_cons_of_mem _ hk)) with q | q
      · have := r1 k hk; omega
      · exact q
theorem nodup_len {l r : List Int} (h1 : l.Nodup) (h2 : r.Nodup) (h : ∀ k, k ∈ l ↔ k ∈ r) : l.length = r.length := ((List.perm_ext_iff_of_nodup h1 h2).mpr h).length_eq
theorem lt_nodup {l : List Int} (h : l.Pairwise (· < ·)) : l.Nodup := h.imp fun {a b} q => by omega
section
variable {X : Cx} {Γ : Gam} {W : WX} {a : Expr} {da : De} {pos pos' : Pos}
def rSetOfI (K : PySem.W.Frag) (w : World) : List V → Hp → VK → Prop := fun xs H Q => ∃ (l : Addr) (ns : List Int), xs = [V.ref l] ∧ SqL K H l (ns.map V.int) ∧ ns.length < 4000 ∧
  ∀ a, H a = none → Q (.ref a) (upd H a (SetO w a (fun j => decide (j ∈ ns)) (sortI ns).length))
theorem cr_setOfI (hc : X.calm = true) : CallR X (.type "set") (rSetOfI X.K X.w) := by
  intro pins s σ H xs us Q I r h
  obtain ⟨l, ns, rfl, hl, hf, q⟩ := h
  rw [Vals.ref1 r]
  obtain ⟨its, rv, pl, hz⟩ := I.list hl
  refine set_of_list (I.ok.hd hc) pl.isList rv.ints (by unfold scanBound; omega) fun h' tk c R hcl k => ?_
  have e : c = (sortI ns).length := by
    obtain ⟨o, es, ep, t, _, _, _, _, nd, hm, _, _, hn, _, _⟩ := R
    have z : (es.toList.map keyOf).length = c := by rw [List.length_map, Array.length_toList]; exact hn
    rw [← z]
    refine nodup_len nd (lt_nodup (sortI_sorted ns)) fun k => ?_
    rw [← hm k, sortI_mem, decide_eq_true_eq]
  rw [e] at R
  exact ⟨.ref s.heap.objs.size, _, I.laid (t' := tk) k (Nat.le_refl _) (setO_new R), rfl, q _ (I.hok.fresh (Nat.le_refl _))⟩
def fSortSetG : D → Sto → Rt
  | .obj n, st => match st[n]? with
    | some (.lst _ l) => match intsOf l with
      | some ns => if decide (ns.length < 4000) && decide ((sortI ns).length < 64) then okL ((sortI ns).map .int) st else none
      | none => fSortSet (.obj n) st
    | _ => none
  | _, _ => none
theorem mono_fSortSetG : MonoF fSortSetG := by
  intro d st r st' h
  unfold fSortSetG at h
  repeat' (split at h)
  all_goals first | exact mono_okL h | exact mono_fSortSet _ _ _ _ h | cases h
theorem rvL_ofI {K : PySem.W.Frag} {m : Nat → Addr} {L : Nat} {H : Hp} : ∀ ns : List Int, RvL K m L H (ns.map .int) (ns.map V.int)
  | [] => .nil
  | _ :: r => .cons (.int _) (rvL_ofI r)
theorem sim_sortsetG {p p2 : Pos} (hK : X.K = Γ.K) (hc : X.calm = true) (hr : Room 0 X.A) (hg : Gl X "sorted") (hm : X.mg "sorted" = none) (hg2 : Gl X "set") (hm2 : X.mg "set" = none) (ha : Sim X Γ W a da)
    (he2 : starEach [a] X.env = (false, eval a X.env) :: starEach [] X.env) (he : starEach [.Call (.Name "set" p2) [a] [] pos'] X.env = (false, eval (.Call (.Name "set" p2) [a] [] pos') X.env) :: starEach [] X.env) :
    Sim X Γ W (.Call (.Name "sorted" p) [.Call (.Name "set" p2) [a] [] pos'] [] pos) (dUn fSortSetG da) := by
  refine ⟨mono_un ha.mono mono_fSortSetG, (pe_callB ((cr_sortedSet hc).or (cr_sortedT hc)) hg hm boot_sorted (pa_cons (pe_callTy ((cr_setOfI hc).or (cr_setOfT hc (by have := hr.units; omega))) hg2 hm2 boot_set (pa_cons ha.pe pa_nil he2) (by decide) (by decide) he2 rfl) pa_nil he) (by decide) (by decide) he rfl).imp fun σ H Q ⟨m, ls, st, s, l, h⟩ => ?_⟩
  obtain ⟨m0, ls0, st0, s0, l0, q0⟩ := tD_bind ha.mono s l mono_fSortSetG h
  refine ⟨m0, ls0, st0, s0, l0, q0.imp fun v H1 ⟨m1, d, st1, s1, l1, r1, q1, _⟩ => ?_⟩
  match d, r1, q1 with
  | .obj n, .obj hn, q1 =>
    dsimp only [fSortSetG] at q1
    split at q1
    · rename_i ro l0' e0
      split at q1
      · rename_i ns er
        split at q1
        · rename_i hok
          obtain ⟨h1, h64⟩ := Bool.and_eq_true_iff.mp hok
          have h1 := of_decide_eq_true h1
          have h64 := of_decide_eq_true h64
          obtain ⟨vs, hv, rv⟩ := s1.list e0
          rw [intsOf_vals rv er] at hv
          refine .inl ⟨m1 n, ns, rfl, by rw [hK]; exact hv, h1, fun a0 ha0 => ?_⟩
          have kA : Keep H1 (upd H1 a0 (SetO X.w a0 (fun j => decide (j ∈ ns)) (sortI ns).length)) := .new ha0
          refine .inl ⟨a0, _, _, rfl, upd_same, h64, fun ms p hp1 hp2 hp3 hp => ?_⟩
          have e : ms = sortI ns := sortI_uniq hp1 (sortI_sorted ns) fun k => by rw [hp2, sortI_mem, decide_eq_true_eq]
          subst e
          have q2 : Res Γ m1 st1.length (upd H1 a0 (SetO X.w a0 (fun j => decide (j ∈ ns)) (sortI ns).length)) (okL ((sortI ns).map .int) st1) Q (fun c d H' => W c d σ H') :=
            q1.mono (Ext.refl _ _) kA (Nat.le_refl _) fun a st' z => mono_okL z
          exact q2.lstN (s1.side ha0) (rvL_ofI _) hp
        · exact q1.elim
      · have z := sortset_core (P := X.prog) (w := X.w) s1 (.obj hn) q1
        rw [← hK] at z
        obtain ⟨l, ks, e1, e2, e3, e4, z⟩ := z
        exact .inr ⟨l, ks, e1, e2, e3, e4, fun a L h1 h2 h3 => .inr (z a L h1 h2 h3)⟩
    · exact q1.elim
end
end MP
end
section
set_option maxRecDepth 100000
set_option maxHeartbeats 1000000
namespace MP
open PySem PySem.Spec PyProof.Rows L2

/-! ### {k: v for target in iter if ..}, keys tuples -/
theorem dct_setIn {X : Cx} {Γ : Gam} {pins : List (Addr × Obj)} {σ : L2.St} {H : Hp} {s : Shared} {E : Value → Shared → Prop} {Q : Unit → Shared → Prop} (I : Inv X pins σ H s) (hK : X.K = Γ.K) (hu : X.A.units + 65 < cLine) {m : Nat → Addr} {L : Nat} {a b : Addr} {ps : List (D × D)} {qs : List (NestedKey × Addr × V)} {k : D} {v : V} {r : Value}
    (e : H a = some (dctO a qs)) (rd : DctR Γ.K m L H ps qs) (ok : okTop k = true) (rk : Rv Γ.K m L H k (.ref b)) (rv : RelV v r) (hl : qs.length < sizeLine)
    (h : ∀ s', Inv X pins σ (upd H a (dctO a (putQ qs (keyD k) b v (lookD ps k).isSome))) s' → Q () s') : wpAny (model X.prog X.w) X.A (dictSet a (.ref b) r) Q E s := by
  obtain ⟨h1, h2, xs, h3, hd⟩ := dct_ofE I hK e rd
  have hz : xs.length ≤ sizeLine := by rw [← Paired.length h3]; exact h1
  exact set_E (show X.A.units + 8 < cLine by omega) (rk.keyIs I hK ok) hd hz fun h' hd' hs => h _ (dct_put I hK e rd ok rk rv hl h3 hd' hs)
/-- the reading: what each turn asks; D the new dict -/
def tDcN (K : PySem.W.Frag) (wi : TI) (g : TG) (tt : TT) (tk tv : TE) (vs : List Nat) : TE := fun σ H Q => wi σ H fun J H1 => ∀ D, H1 D = none → ∃ W : Nat → Nat → Hp → Prop, (∃ m, W 0 m (upd H1 D (dctO D []))) ∧ ∀ i m H, W i m H →
  (J.stop i H ∧ Q (.ref D) H) ∨ (J.go i H ∧ ∃ Nx : Hp → Prop, (∀ H', Nx H' → ∃ m', m' < m ∧ W (i + 1) m' H') ∧ ∀ x H', J.yld i H x H' → g x (wipe σ vs) H' fun σ2 H2 => wipe σ2 vs = wipe σ vs ∧ tt σ2 H2 fun b H3 =>
    if b = true then tk σ2 H3 fun y H4 => tv σ2 H4 fun z H5 => ∃ m L b ps qs k, y = .ref b ∧ H5 D = some (dctO D qs) ∧ DctR K m L H5 ps qs ∧ okTop k = true ∧ Rv K m L H5 k (.ref b) ∧ qs.length < sizeLine ∧ Nx (upd H5 D (dctO D (putQ qs (keyD k) b z (lookD ps k).isSome)))
    else Nx H3)
section
variable {X : Cx} {Γ : Gam}
theorem pe_dcN (hK : X.K = Γ.K) (hu : X.A.units + 65 < cLine) {kx vx tg iter : Expr} {ifs : List Expr} {scope : Scope} {own : List (Str × Nat)} {pos : Pos} {wi : TI} {g : TG} {tt : TT} {tk tv : TE} (hc : X.calm = true) (hN : X.N.Nodup) (hi : PI X tg iter wi) (ok : BlkOk X.N X.env.scope scope own)
    (hg : ∀ (s : Shared) (H : Hp) (C : Addr) (cl : List (Str × Addr)) (fp : List Addr), PG (X.blk s H scope (compEnvC scope cl C X.env) fp) tg g) (ht : ∀ (s : Shared) (H : Hp) (C : Addr) (cl : List (Str × Addr)) (fp : List Addr), PTs (X.blk s H scope (compEnvC scope cl C X.env) fp) ifs tt)
    (hk : ∀ (s : Shared) (H : Hp) (C : Addr) (cl : List (Str × Addr)) (fp : List Addr), PE (X.blk s H scope (compEnvC scope cl C X.env) fp) kx tk)
    (he : ∀ (s : Shared) (H : Hp) (C : Addr) (cl : List (Str × Addr)) (fp : List Addr), PE (X.blk s H scope (compEnvC scope cl C X.env) fp) vx tv) (hs : ∀ x, foldedSetIterable iter X.env x = pure x) :
    PE X (.DictComp kx vx [⟨tg, iter, ifs, 0⟩] scope pos) (tDcN Γ.K wi g tt tk tv (own.map (·.2))) := by
  refine ⟨fun pins s σ H Q I h => ?_⟩
  rw [arm_eval_DictComp]
  have free : ∀ y ∈ scope.names, y.2 = .free → ∃ c, X.env.cells.lookup y.1 = some c := fun y hy e => by
    rcases ok.free y hy e with k | k
    · exact I.ok.has _ (.inl k)
    · exact I.ok.has _ (.inr k)
  refine wpAny_comprehension_free (use := none) rfl hs (closure_ok free) ok.kind (fun y hy e => by rw [ok.uniq y hy, e]) (thn (hi.run pins s σ H _ I h) fun xv s1 hx => thn hx fun itv s2 ⟨it, fp, tn, J, H2, e, I2, T, st2, f2, q⟩ => ?_)
  subst e
  refine wpAny_newObj_type (newEnv_comp ?_)
  -- the new dict
  obtain ⟨d, hd⟩ : ∃ d, d = s2.heap.objs.size := ⟨_, rfl⟩
  have nd : H2 d = none := I2.hok.fresh (Nat.le_of_eq hd.symm)
  obtain ⟨W, ⟨n0, w0⟩, turn⟩ := q d nd
  obtain ⟨t, et⟩ : ∃ t : Shared, t = { s2 with heap := s2.heap.push { cls := .type "dict", data := .dict #[] } } := ⟨_, rfl⟩
  have th : t.heap = s2.heap.push { cls := .type "dict", data := .dict #[] } := by rw [et]
  have It : Inv X pins σ (upd H2 d (dctO d [])) t := by
    rw [et]
    refine I2.laid (t' := s2.toks) (fun b o e => Heap.get?_push_of_some _ e) (Nat.le_of_eq hd.symm) ?_
    rw [hd]
    exact dct_ok (Nat.zero_le _) (beq_eq_false_iff_ne.mpr (Ne.symm (Nat.ne_of_lt I2.big))) .nil ⟨_, #[], 0, Heap.get?_push_size _ rfl, ⟨rfl, rfl, rfl⟩, rfl, rfl, List.nodup_nil, rfl⟩
  have ft : ∀ b ∈ fp, FpOk X pins (upd H2 d (dctO d [])) b ∧ b < t.heap.objs.size := fun b hb => by
    obtain ⟨o, e, _⟩ := T.obj _ _ st2 b hb
    have lt := Heap.lt_size e
    exact ⟨⟨by rw [upd_ne (by rw [hd]; exact Nat.ne_of_lt lt)]; exact (f2 b hb).1, (f2 b hb).2⟩, by rw [th, Heap.size_push]; exact Nat.lt_succ_of_lt lt⟩
  have stt : tn 0 t.heap := T.keep _ _ _ st2 fun b _ o e => by rw [th]; exact Heap.get?_push_of_some _ e
  have Ib := block_start It ok hN ft
  have pg := hg t (upd H2 d (dctO d [])) t.heap.objs.size (cellsFrom (t.heap.objs.size + 1) scope.names (cloFrom X.env.cells scope.names [])) fp
  have pt := ht t (upd H2 d (dctO d [])) t.heap.objs.size (cellsFrom (t.heap.objs.size + 1) scope.names (cloFrom X.env.cells scope.names [])) fp
  have pk := hk t (upd H2 d (dctO d [])) t.heap.objs.size (cellsFrom (t.heap.objs.size + 1) scope.names (cloFrom X.env.cells scope.names [])) fp
  have pe := he t (upd H2 d (dctO d [])) t.heap.objs.size (cellsFrom (t.heap.objs.size + 1) scope.names (cloFrom X.env.cells scope.names [])) fp
  have nt : ∀ b ∈ fp, (upd H2 d (dctO d [])) b = none := fun b hb => (ft b hb).1.1
  rw [← hd, ← et]
  obtain ⟨ce, hce⟩ : ∃ ce, ce = compEnvC scope (cellsFrom (t.heap.objs.size + 1) scope.names (cloFrom X.env.cells scope.names [])) t.heap.objs.size X.env := ⟨_, rfl⟩
  have cL : ce.locals = t.heap.objs.size := by rw [hce]; rfl
  obtain ⟨Ht, hHt⟩ : ∃ Ht, Ht = upd H2 d (dctO d []) := ⟨_, rfl⟩
  obtain ⟨v, hv⟩ : ∃ v : Shared, v = { t with heap := pushCells (t.heap.push { cls := .type "dict", data := .dict #[] }) scope.names } := ⟨_, rfl⟩
  rw [← hHt] at It Ib pg pt pk pe w0 nt ft
  rw [← hce] at Ib pg pt pk pe
  rw [← hv] at Ib
  have stv : tn 0 v.heap := T.keep _ _ _ stt fun b _ o e => by rw [hv]; exact pushCells_keeps _ _ _ _ (Heap.get?_push_of_some _ e)
  have stat : ∀ {σ' : L2.St} {H' : Hp} {s' : Shared}, Inv (X.blk t Ht scope ce fp) [] σ' H' s' → (∀ b ∈ fp, H' b = none) → ∀ b ∈ fp, FpOk (X.blk t Ht scope ce fp) [] H' b := fun {σ' H' s'} I' hn b hb =>
    ⟨hn b hb, (I'.ok.exf b hb).1, I'.ok.exfs b hb, .inl hb, fun x c e => (I'.ok.exf b hb).2 x c e, fun p hp => absurd (show p ∈ ([] : List (Addr × Obj)) ++ [] from hp) (by simp)⟩
  have post : ∀ (s' : Shared) (m : Str → Option Value) (H' : Hp), Inv X pins σ H' s' → Q (.ref d) H' → s'.heap.Ns t.heap.objs.size m → FpOk X pins H' t.heap.objs.size →
      compPost (model X.prog X.w) X.A X.xe none (EP X pins σ Q) (.ref d) t.heap.objs.size (.ok .next) s' := fun s' m H' I' q hn f => by
    obtain ⟨f0, f1, f2, f3, f4, f5⟩ := f
    exact ⟨m, hn, fun h'' sb => ⟨.ref d, H', I'.turned (t' := s'.toks) (fun b o hb e => (sb.2 b hb).trans e) f0 f1 f3 f4 f5, rfl, q⟩⟩
  have loop : codeAny (model X.prog X.w) X.A (.compLoop (.DictComp kx vx [⟨tg, iter, ifs, 0⟩] scope pos) 0 (.ref it) (.ref d) ce) (compPost (model X.prog X.w) X.A X.xe none (EP X pins σ Q) (.ref d) t.heap.objs.size) v := by
    refine compLoop_anyD (fun n s' => ∃ i H', Inv (X.blk t Ht scope ce fp) [] (wipe σ (own.map (·.2))) H' s' ∧ tn i s'.heap ∧ (∀ b ∈ fp, H' b = none) ∧ W i n H') ?_ n0 ⟨0, Ht, Ib, stv, nt, w0⟩
    rintro n s5 ⟨i, H5, I5, st5, n5, w5⟩
    rcases turn i n H5 w5 with ⟨stop, fin⟩ | ⟨go, Nx, hNx, step⟩
    · refine thnF (T.done (X.blk t Ht scope ce fp) rfl rfl rfl hc i [] s5 _ H5 (fun _ _ => False) I5 (stat I5 n5) st5 stop) fun r s6 ⟨hr, I6⟩ => ?_
      subst hr
      have I7 : Inv X pins σ H5 s6 := It.call' (ch := fp) I6.os I6.base I6.hok I6.bare fun b hb => ⟨(ft b hb).1.2.2.2.1, (ft b hb).1.2.1, (ft b hb).1.2.2.2.2.1, (ft b hb).1.2.2.2.2.2⟩
      have nC : H5 t.heap.objs.size = none := by
        have z : H5 ce.locals = none := I6.free
        rw [cL] at z
        exact z
      obtain ⟨m, hn, _⟩ := I6.loc
      have hn : s6.heap.Ns ce.locals m := hn
      rw [cL] at hn
      exact post s6 m H5 I7 fin hn (It.fpOk (Nat.le_refl _) nC)
    · refine thnF (T.item (X.blk t Ht scope ce fp) rfl rfl rfl hc i [] s5 _ H5 (fun _ _ => False) I5 (stat I5 n5) st5 go) fun r s6 ⟨u, hr, h6⟩ => ?_
      subst hr
      refine thnF h6 fun _ s7 ⟨x, H7, I7, r7, y7, st7, n7⟩ => ?_
      refine thnF (pg.run _ s7 _ H7 x u _ (I7.pinned (stat I7 n7) (T.obj _ _ st7)) r7 (step x H7 y7)) fun _ s8 ⟨σ8, H8, I8, hw8, q8⟩ => ?_
      refine thnF (pt.run _ s8 σ8 H8 _ I8 q8) fun b s9 ⟨H9, I9, q9⟩ => ?_
      have next : ∀ {s' : Shared} {H' : Hp}, Inv (X.blk t Ht scope ce fp) ([] ++ pinsAt fp s7.heap) σ8 H' s' → Nx H' → ∃ m, m < n ∧ ∃ i H', Inv (X.blk t Ht scope ce fp) [] (wipe σ (own.map (·.2))) H' s' ∧ tn i s'.heap ∧ (∀ b ∈ fp, H' b = none) ∧ W i m H' := fun {s' H'} I' nx => by
        obtain ⟨m', hm, w'⟩ := hNx H' nx
        have held : ∀ b ∈ fp, ∀ o, s7.heap.get? b = some o → s'.heap.get? b = some o ∧ H' b = none := fun b hb o e =>
          let z := I'.pin (b, o) (List.mem_append_right _ (List.mem_append_right _ (mem_pinsAt hb e)))
          ⟨z.1, z.2.1⟩
        refine ⟨m', hm, i + 1, H', (I'.unpinned (pins := [])).weak (by rw [← hw8, wipe_length]) (fun j v e => ?_), T.keep _ _ _ st7 fun b hb o e => (held b hb o e).1, fun b hb => ?_, w'⟩
        · rw [← hw8] at e
          exact (wipe_some e).1
        · obtain ⟨o, e, _⟩ := T.obj _ _ st7 b hb
          exact (held b hb o e).2
      cases b with
      | false =>
        simp only [Bool.false_eq_true, if_false] at q9 ⊢
        exact next I9 q9
      | true =>
        simp only [if_true] at q9 ⊢
        refine thnF (pk.run _ s9 σ8 H9 _ I9 q9) fun z s10 ⟨yk, H10, I10, r10, q10⟩ => ?_
        refine thnF (pe.run _ s10 σ8 H10 _ I10 q10) fun z2 s11 ⟨yv, H11, I11, r11, m, L, b, ps, qs, k, ek, e11, rd, okk, rk, hl, nx⟩ => ?_
        subst ek
        cases r10
        exact dct_setIn (X := X.blk t Ht scope ce fp) I11 hK hu e11 rd okk rk r11 hl fun s12 I12 => next I12 nx
  have fin := codeAny_compStart_dict loop (T.self X.A 0 _ _ _ stv loop)
  rw [hce, hv] at fin
  exact fin
end
end MP
end
section
set_option maxRecDepth 100000
set_option maxHeartbeats 1000000
namespace MP
open PySem PySem.Spec PyProof.Rows L2
/-! ### dict comprehensions on data -/
def keyPut (k : Nat) (y : D) : D → Sto → Rt := fun z st => match st[k]? with
  | some (.dct ps) => if okTop y then if ps.length < LINE then some (.ok .non, st.set k (.dct (putP ps y z))) else none else none
  | _ => none
theorem mono_keyPut {k : Nat} {y : D} : MonoF (keyPut k y) := fun z st r st' h => by
  unfold keyPut at h
  split at h
  · split at h
    · split at h
      · cases h
        rw [List.length_set]
        exact Nat.le_refl _
      · cases h
    · cases h
  · cases h
def valD (dv : De) (k : Nat) (ls : Ls) : D → Sto → Rt := fun y st => bindO (dv ls st) (keyPut k y)
theorem mono_valD {dv : De} {k : Nat} {ls : Ls} (mv : Mono dv) : MonoF (valD dv k ls) := fun y st r st' h => bindO_mono (fun a s z => mv ls st a s z) mono_keyPut r st' h
def kvD (dk dv : De) (k : Nat) : De := fun ls st => bindO (dk ls st) (valD dv k ls)
theorem mono_kvD {dk dv : De} {k : Nat} (mk : Mono dk) (mv : Mono dv) : Mono (kvD dk dv k) := fun ls st r st' h => bindO_mono (fun a s z => mk ls st a s z) (mono_valD mv) r st' h
def dDc (di : Di) (t : Tg) (dt dk dv : De) (vs : List Nat) : De := fun ls st => match di ls st with
  | some (.it items gd, st1) => bindO (loopD gd t (ifD dt (kvD dk dv st1.length)) (wipeL ls vs) items (st1 ++ [.dct []])) (giveD st1.length)
  | some (.exc c fs, st1) => some (.exc c fs, st1)
  | none => none
theorem mono_dc {di : Di} {t : Tg} {dt dk dv : De} {vs : List Nat} (mi : MonoI di) (mt : Mono dt) (mk : Mono dk) (mv : Mono dv) : Mono (dDc di t dt dk dv vs) := fun ls st r st' h => by
  unfold dDc at h
  split at h
  · rename_i items gd st1 e
    have z := bindO_mono (fun a s z => loopD_mono (mono_ifD mt (mono_kvD mk mv)) _ _ a s z) mono_give r st' h
    rw [List.length_append] at z
    exact Nat.le_trans (mi _ _ _ _ e) (Nat.le_trans (Nat.le_add_right _ _) z)
  · rename_i c fs st1 e
    cases h
    exact mi _ _ _ _ e
  · cases h
section
variable {X : Cx} {Γ : Gam} {W : WX} {e a b c o tg iter kx vx : Expr} {da db dc dt dk dv : De} {pos : Pos} {t : Tg} {di : Di} {scope : Scope} {own : List (Str × Nat)}
theorem tDc_of (mi : MonoI di) (mt : Mono dt) (mk : Mono dk) (mv : Mono dv) {vs : List Nat} (hv : ∀ j ∈ tslots t, j ∈ vs) {σ : L2.St} {H : Hp} {Q : VK} (h : tD Γ W (dDc di t dt dk dv vs) σ H Q) :
    tDcN Γ.K (tI Γ W di) (tG Γ t) (tT Γ WF dt) (tD Γ WF dk) (tD Γ WF dv) vs σ H Q := by
  obtain ⟨m, ls, st, s, l, h⟩ := h
  refine ⟨m, ls, st, s, l, ?_⟩
  unfold dDc at h
  have mi := fun r st' q => mi ls st r st' q
  match di ls st, h, mi with
  | some (.exc c fs, st1), h, _ => exact h
  | some (.it items gd, st1), h, mi =>
    have hl := mi _ _ rfl
    refine ⟨hl, fun m1 H1 J e1 k1 s1 hit D hD => ?_⟩
    have mB : Mono (ifD dt (kvD dk dv st1.length)) := mono_ifD mt (mono_kvD mk mv)
    have h : Res Γ m st.length H (bindO (loopD gd t (ifD dt (kvD dk dv st1.length)) (wipeL ls vs) items (st1 ++ [.dct []])) (giveD st1.length)) Q (fun c d H' => W c d σ H') := h
    have kD : Keep H1 (upd H1 D (dctO D [])) := .new hD
    have eD : Ext m1 st1.length (extM m1 st1.length D) := extM_ext
    have sD := s1.push (p := D) (c := .dct []) (o := dctO D []) hD ⟨[], upd_same, .nil⟩
    have hlen : (st1 ++ [Cell.dct []]).length = st1.length + 1 := by rw [List.length_append, List.length_singleton]
    have h' := h.mono (e1.trans eD hl) (k1.trans kD) (L' := (st1 ++ [Cell.dct []]).length) (by rw [hlen]; exact Nat.le_trans hl (Nat.le_succ _)) fun a st' q => bindO_mono (fun a s z => loopD_mono mB _ _ a s z) mono_give a st' q
    have hL := (Res.bindO h' (fun a st' q => loopD_mono mB _ _ a st' q) mono_give).imp (Q' := fun _ H2 => Q (.ref D) H2) fun v H2 ⟨m2, d2, st2, e2, k2, hl2, s2, r2, q2⟩ => by
      have z : Rv Γ.K m2 st2.length H2 (.obj st1.length) (.ref D) := by
        have mD2 : m2 st1.length = D := by rw [e2 _ (by rw [hlen]; exact Nat.lt_succ_self _), extM_new]
        rw [← mD2]
        exact .obj (Nat.lt_of_lt_of_le (by rw [hlen]; exact Nat.lt_succ_self _) hl2)
      exact Res.ok q2 s2 z
    have l0 : LsR Γ (extM m1 st1.length D) (st1 ++ [Cell.dct []]).length (upd H1 D (dctO D [])) (wipeL ls vs) (wipe σ vs) := (((l.mono e1 hl k1).mono eD (by rw [hlen]; exact Nat.le_succ _) kD)).wipe vs
    obtain ⟨Wf, hW0, hW⟩ := loop_turn (Γ := Γ) mB hv hit eD (by rw [hlen]; exact Nat.le_succ _) kD l0 (Ext.refl _ _) (Nat.le_refl _) (Keep.refl _) sD hL
    refine ⟨Wf, hW0, fun i n H2 w => ?_⟩
    rcases hW i n H2 w with ⟨stop, fin⟩ | ⟨go, Nx, hNx, step⟩
    · exact .inl ⟨stop, fin⟩
    refine .inr ⟨go, Nx, hNx, fun x H3 y => ?_⟩
    obtain ⟨a1, a2, a3, a4, a5, l5, r5, as5, z⟩ := step x H3 y
    refine ⟨a1, a2, a3, a4, a5, l5, r5, as5, fun σ2 hl2 hk2 => ?_⟩
    obtain ⟨hw2, m2, ls2, st2, e2, hb2, k2, s2, ll2, q2⟩ := z σ2 hl2 hk2
    have mD2 : m2 st1.length = D := by rw [e2 _ (by rw [hlen]; exact Nat.lt_succ_self _), extM_new]
    have lt2 : st1.length < st2.length := Nat.lt_of_lt_of_le (by rw [hlen]; exact Nat.lt_succ_self _) hb2
    refine ⟨hw2, m2, ls2, st2, s2, ll2, (Res.bindO q2 (fun a st' q => mt ls2 st2 a st' q) (mono_ifJ (mono_kvD mk mv))).imp fun v H4 ⟨m4, d4, st4, e4, k4, hl4, s4, r4, q4⟩ => ?_⟩
    unfold ifJ at q4
    split at q4
    · cases r4
      refine ⟨true, rfl, iteT ?_⟩
      have lt4 : st1.length < st4.length := Nat.lt_of_lt_of_le lt2 hl4
      have mD4 : m4 st1.length = D := by rw [e4 _ lt2, mD2]
      unfold kvD at q4
      refine ⟨m4, ls2, st4, s4, ll2.mono e4 hl4 k4, (Res.bindO q4 (fun a st' q => mk ls2 st4 a st' q) (mono_valD mv)).imp fun y H5 ⟨m5, dy, st5, e5, k5, hl5, s5, r5, q5⟩ => ?_⟩
      have lt5 : st1.length < st5.length := Nat.lt_of_lt_of_le lt4 hl5
      have mD5 : m5 st1.length = D := by rw [e5 _ lt4, mD4]
      unfold valD at q5
      refine ⟨m5, ls2, st5, s5, (ll2.mono e4 hl4 k4).mono e5 hl5 k5, (Res.bindO q5 (fun a st' q => mv ls2 st5 a st' q) mono_keyPut).imp fun z H6 ⟨m6, dz, st6, e6, k6, hl6, s6, r6, q6⟩ => ?_⟩
      have mD6 : m6 st1.length = D := by rw [e6 _ lt5, mD5]
      unfold keyPut at q6
      split at q6
      · rename_i ps e0
        split at q6
        · rename_i ok
          split at q6
          · rename_i hacc
            obtain ⟨qs, hq, rq⟩ := s6.cell _ _ e0
            have ry := r5.mono e6 hl6 k6
            cases dy with
            | tup lk =>
              cases ry with
              | tup b1 b2 =>
                rw [mD6] at hq
                refine ⟨m6, st6.length, _, ps, qs, .tup lk, rfl, hq, rq, ok, .tup b1 b2, by rw [← dct_len rq]; exact line_lt hacc, ?_⟩
                have := q6.putN (o := dctO D (putQ qs (keyD (.tup lk)) _ z (lookD ps (.tup lk)).isSome)) s6 e0 rfl rfl (fun k => ⟨_, by rw [mD6]; exact upd_same, (rq.put ok (.tup b1 b2) r6).mono (Ext.refl _ _) (Nat.le_refl _) k⟩) .non
                rw [mD6] at this
                exact this
            | _ => simp [okTop, isTupD] at ok
          · exact q6.elim
        · exact q6.elim
      · exact q6.elim
    · cases r4
      exact ⟨false, rfl, iteF (Res.ok q4 s4 .non)⟩
    · exact q4.elim
theorem sim_dc0 (hK : X.K = Γ.K) (hu : X.A.units + 65 < cLine) (hc : X.calm = true) (hN : X.N.Nodup) (hi : SimI X Γ W tg iter di) (ok : BlkOk X.N X.env.scope scope own) (hv : ∀ j ∈ tslots t, j ∈ own.map (·.2))
    (hg : InB X scope fun Y => PG Y tg (tG Γ t)) (hk : InB X scope fun Y => Sim Y Γ WF kx dk) (he : InB X scope fun Y => Sim Y Γ WF vx dv) (hs : ∀ x, foldedSetIterable iter X.env x = pure x) :
    Sim X Γ W (.DictComp kx vx [⟨tg, iter, [], 0⟩] scope pos) (dDc di t dYes dk dv (own.map (·.2))) :=
  ⟨mono_dc hi.mono mono_yes hk.one.mono he.one.mono, (pe_dcN hK hu hc hN hi.pi ok hg (fun _ _ _ _ _ => pts_yes) (fun s H C cl fp => (hk s H C cl fp).pe) (fun s H C cl fp => (he s H C cl fp).pe) hs).imp fun σ H Q h => tDc_of hi.mono mono_yes hk.one.mono he.one.mono hv h⟩
end
end MP
end
section
set_option maxRecDepth 100000
set_option maxHeartbeats 3200000
namespace MP
open PySem PySem.Spec PyProof.Rows L2 PySem.W PySem.Calls

/-! ### set(t), t a tuple of tuples of whole numbers -/
section
variable {P : Program} {w : World} {A : Around} {E : Value → Shared → Prop} {s : Shared}
theorem set_of_tups {l : Addr} {ks : List (Addr × List Int)} {Q : Value → Shared → Prop} (hh : A.handled = none) (hl : s.heap.IsTuple l (ks.map fun p => Value.ref p.1).toArray) (hk : ∀ p ∈ ks, IsT P w s.heap p.2 p.1) (few : ks.length < 64) (hu : A.units + 3 < cLine)
    (hQ : ∀ (h' : Heap) (tk : Nat) L es ep t, SetTR P w h' s.heap.objs.size L es ep t → Got ks ks.length L → (∀ b o, s.heap.get? b = some o → h'.get? b = some o) → Q (.ref s.heap.objs.size) { s with heap := h', toks := tk }) :
    wpAny (model P w) A (call (.type "set") [.ref l]) Q E s := by
  obtain ⟨its, hits⟩ : ∃ its : List Value, its = ks.map fun p => Value.ref p.1 := ⟨_, rfl⟩
  rw [← hits] at hl
  have len : its.length = ks.length := by rw [hits, List.length_map]
  obtain ⟨c, tl, hmro⟩ := F.called_set.mro
  have hmade := F.called_set.made
  have hsub := F.called_set.sub
  refine wpAny_call (codeAny_of_tree ?_)
  show wpAny _ _ (callAny (.type "set") _) _ _ _
  refine wpAny_pure ⟨Code.quiet_builtin _ (by decide +kernel), codeAny_builtin F.entry_type_call ?_⟩
  rw [Around.under_plain (weight_type_call_type "set" [.ref l] []) rfl]
  have h1 := F.called_set.notType
  have h2 := F.called_set.canCreate
  have hct := F.typeCall_set_1 (.ref l)
  repeat (any_goals (first | assumption | wp_step))
  generalize hz : s.heap.objs.size = z
  generalize hs0 : s.heap.push (set0 w) = H0
  have z0 : H0.get? z = some (set0 w) := by rw [← hs0, ← hz]; exact Heap.get?_push_size _ rfl
  have k0 : ∀ b o, s.heap.get? b = some o → H0.get? b = some o := fun b o e => by rw [← hs0]; exact Heap.get?_push_of_some _ e
  have sz0 : H0.objs.size = z + 1 := by rw [← hs0, ← hz]; exact Heap.size_push ..
  have gone : ∀ b, z ≤ b → s.heap.get? b = none := fun b hb => by
    cases q : s.heap.get? b with
    | none => rfl
    | some o =>
      have lt : b < s.heap.objs.size := Heap.lt_size q
      rw [hz] at lt
      exact absurd (Nat.lt_of_lt_of_le lt hb) (Nat.lt_irrefl _)
  refine codeAny_mono (code_set_led1 (.ref l) (E := E) (Q₁ := fun obj s₁ => obj = .ref z ∧ s₁ = { s with heap := H0 }) ⟨by rw [hz], by rw [← hs0]⟩) fun r s₁ hr => ?_
  cases r with
  | error e => exact hr
  | ok fl =>
    cases fl with
    | ret obj =>
      obtain ⟨rfl, rfl⟩ := hr
      have hT : Shared.TypeIs { s with heap := H0 } (.ref z) "set" := ⟨_, z0, rfl⟩
      have hli := F.called_set.init.lookup
      have hbi := F.called_set.init.bind (.ref z)
      repeat (any_goals (first | assumption | wp_step))
      refine codeAny_mono (codeAny_call_builtin (R := wants (fun r s₂ => r = .none ∧ ∃ h' tk L es ep t, s₂ = { s with heap := h', toks := tk } ∧ SetTR P w h' z L es ep t ∧ Got ks ks.length L ∧
          (∀ b o, s.heap.get? b = some o → h'.get? b = some o)) E) F.called_set.init.plain F.entry_set_init (check_set_init_1 hT ?_)) fun r₂ s₂ hr₂ => ?_
      · obtain ⟨⟨lc, ld, ldt, lsl⟩, hol, hcl, nl, hdl⟩ := hl
        dsimp only at hcl hdl
        subst hcl hdl
        have hol0 := k0 _ _ hol
        have hsls := F.sub_tuple_set
        have hslf := F.sub_tuple_frozenset
        have hne : (Value.type "tuple" == Value.type "dict") = false := by decide
        have hl0 : H0.IsTuple l its.toArray := ⟨_, hol0, rfl, nl, rfl⟩
        unfold Builtin.«set.__init__» noKeywords Builtin.Frozenset.updateFrom
        generalize hPI : pyIter = PI
        wp_walk
        subst hPI
        refine wpAny_pyIter_tuple hl0 (wpAny_bind (wpAny_runValue ?_))
        have lz : l < z := by rw [← hz]; exact Heap.lt_size hol
        have h3 : A.in1.in1.in1.handled = none := by simp [hh]
        have lI : l ≠ H0.objs.size := by rw [sz0]; exact Nat.ne_of_lt (Nat.lt_succ_of_lt lz)
        have zf : z ∉ [H0.objs.size, l] := by
          rw [sz0]
          simp only [List.mem_cons, List.not_mem_nil, or_false, not_or]
          exact ⟨Nat.ne_of_lt (Nat.lt_succ_self _), Nat.ne_of_gt lz⟩
        have it : ∀ (i : Nat) (v : Value), its.toArray[i]? = some v → ∃ p, ks[i]? = some p ∧ v = .ref p.1 := fun i v hv => by
          have q : its[i]? = some v := by simpa using hv
          rw [hits, List.getElem?_map] at q
          cases e : ks[i]? with
          | none => rw [e] at q; cases q
          | some p => rw [e] at q; exact ⟨p, rfl, (Option.some.inj q).symm⟩
        refine set_update_tups ((Walks.tuple h3 _ l lI its.toArray).toS) z zf ks (by simpa using len) few it s.heap hk (gone _ (Nat.le_refl _)) (fun b hb => gone b (by rw [List.mem_singleton.mp hb, sz0]; exact Nat.le_succ _)) hu (its.toArray.size - 0) 0 _ (by omega) (Nat.zero_le _)
          ⟨⟨_, Heap.get?_push_size _ rfl, rfl, rfl⟩, hl0.push _⟩ (fun b o e => Heap.get?_push_of_some _ (k0 _ _ e)) ⟨[], #[], 0, _, setTR_fresh (Heap.get?_push_of_some _ z0), Got.zero ks⟩ fun s' L es ep t hm hS' g' hkp => ?_
        obtain ⟨h', g2, d', tk', os'⟩ := s'
        have eg : g2 = s.gens := hm.gens
        have ed : d' = s.drawn := hm.drawn
        have eo : os' = s.os := hm.os
        subst eg ed eo
        show wpAny _ _ _ _ _ _
        refine wpAny_pure ?_
        show wpAny _ _ (ret Value.none) _ _ _
        exact wpAny_pure ⟨rfl, h', tk', L, es, ep, t, rfl, hS', by rw [← len]; simpa using g', hkp⟩
      · cases r₂ with
        | error e => exact hr₂
        | ok fl₂ =>
          cases fl₂ with
          | ret r =>
            obtain ⟨rfl, h', tk, L, es, ep, t, rfl, hS', g', hk'⟩ := hr₂
            repeat (any_goals (first | assumption | wp_step))
            rw [hz] at hQ
            exact hQ _ _ _ _ _ _ hS' g' hk'
          | _ => exact hr₂.elim
    | _ => exact hr.elim
end
section
variable {X : Cx} {Γ : Gam} {W : WX} {a : Expr} {da : De} {pos pos' : Pos}
def rSetOfTT (K : PySem.W.Frag) (P : Program) (w : World) : List V → Hp → VK → Prop := fun xs H Q => ∃ (l : Addr) (ks : List (Addr × List Int)), xs = [V.ref l] ∧ SqT K H l (ks.map fun p => V.ref p.1) ∧ (∀ p ∈ ks, SqT K H p.1 (p.2.map V.int)) ∧ ks.length < 64 ∧
  ∀ a L, H a = none → (∀ p ∈ L, p ∈ ks) → (∀ p ∈ ks, p.2 ∈ L.map (·.2)) → Q (.ref a) (upd H a (SetTO P w a L))
theorem cr_setOfTT (hc : X.calm = true) (hu : X.A.units + 64 < cLine) : CallR X (.type "set") (rSetOfTT X.K X.prog X.w) := by
  intro pins s σ H xs us Q I r h
  obtain ⟨l, ks, rfl, hl, hk, hf, q⟩ := h
  rw [Vals.ref1 r]
  obtain ⟨its, rv, pl, hz⟩ := I.tuple hl
  rw [refs_of_vals rv] at pl
  refine set_of_tups (P := X.prog) (w := X.w) (I.ok.hd hc) (show s.heap.IsTuple l _ from pl) (fun p hp => I.isT (hk p hp)) hf (by omega) fun h' tk L es ep t R g k => ?_
  refine ⟨.ref s.heap.objs.size, _, I.laid (t' := tk) k (Nat.le_refl _) (setTO_new R.t0), rfl, q _ L (I.hok.fresh (Nat.le_refl _)) (fun p hp => ?_) fun p hp => ?_⟩
  · exact List.mem_of_mem_take (g.sub p hp)
  · exact g.all p (by rw [List.take_length]; exact hp)
/-- len of such a set -/
def rLenTO (K : PySem.W.Frag) (P : Program) (w : World) : List V → Hp → VK → Prop := fun vs H Q => ∃ (a : Addr) (L : List (Addr × List Int)), vs = [V.ref a] ∧ H a = some (SetTO P w a L) ∧ (∀ p ∈ L, SqT K H p.1 (p.2.map V.int)) ∧ ((L.map (·.2)).Nodup → Q (.int L.length) H)
theorem cr_lenTO : CallR X (.builtin "len") (rLenTO X.K X.prog X.w) := by
  intro pins s σ H vs us Q I r h
  obtain ⟨a, L, rfl, ha, hk, q⟩ := h
  rw [Vals.ref1 r]
  have R0 : SetT0 X.prog X.w s.heap a L := (I.hok a _ ha).1
  obtain ⟨es, ep, t, R⟩ := R0.full fun p hp => I.isT (hk p hp)
  obtain ⟨o, ho, hex, hd⟩ := R.ob
  have f := R.few
  have hs := R.size
  refine call_len_set ho hex hd R.fits (by rw [hs]; omega) ⟨.int L.length, H, I.tok _, ⟨_, by rw [hs]⟩, q R.nd⟩
def fLenSet : D → Sto → Rt
  | .obj n, st => match st[n]? with
    | some (.lst _ l) => match rowsOf l with
      | some rows => if decide (rows.length < 64) then okD (.int (sortU rows).length) st else none
      | none => none
    | _ => none
  | .tup l, st => match rowsOf l with
    | some rows => if decide (rows.length < 64) then okD (.int (sortU rows).length) st else none
    | none => none
  | _, _ => none
theorem mono_fLenSet : MonoF fLenSet := by
  intro d st r st' h
  unfold fLenSet at h
  repeat' (split at h)
  all_goals first | exact mono_ok h | cases h
theorem rows_len {α : Type} [DecidableEq α] : ∀ {l r : List α}, l.Nodup → r.Nodup → (∀ k, k ∈ l ↔ k ∈ r) → l.length = r.length := fun h1 h2 h => ((List.perm_ext_iff_of_nodup h1 h2).mpr h).length_eq
theorem ltL_nodup {l : List (List Int)} (h : l.Pairwise LtL) : l.Nodup := h.imp fun {a b} q e => by
  subst e
  have : HT.lexLt a a = true := q
  rw [lex_irr] at this
  cases this
theorem sim_lenset {p p2 : Pos} (hK : X.K = Γ.K) (hc : X.calm = true) (hr : Room 0 X.A) (hg : Gl X "len") (hm : X.mg "len" = none) (hg2 : Gl X "set") (hm2 : X.mg "set" = none) (ha : Sim X Γ W a da)
    (he2 : starEach [a] X.env = (false, eval a X.env) :: starEach [] X.env) (he : starEach [.Call (.Name "set" p2) [a] [] pos'] X.env = (false, eval (.Call (.Name "set" p2) [a] [] pos') X.env) :: starEach [] X.env) :
    Sim X Γ W (.Call (.Name "len" p) [.Call (.Name "set" p2) [a] [] pos'] [] pos) (dUn fLenSet da) := by
  have hu : X.A.units + 64 < cLine := hr.units
  refine ⟨mono_un ha.mono mono_fLenSet, (pe_callB cr_lenTO hg hm boot_len (pa_cons (pe_callTy ((cr_setOfT hc hu).or (cr_setOfTT hc hu)) hg2 hm2 boot_set (pa_cons ha.pe pa_nil he2) (by decide) (by decide) he2 rfl) pa_nil he) (by decide) (by decide) he rfl).imp fun σ H Q ⟨m, ls, st, s, l, h⟩ => ?_⟩
  obtain ⟨m0, ls0, st0, s0, l0, q0⟩ := tD_bind ha.mono s l mono_fLenSet h
  refine ⟨m0, ls0, st0, s0, l0, q0.imp fun v H1 ⟨m1, d, st1, s1, l1, r1, q1, _⟩ => ?_⟩
  have core : ∀ {l0 : List D} {vs : List V} {rows : List (List Int)}, RvL Γ.K m1 st1.length H1 l0 vs → rowsOf l0 = some rows → rows.length < 64 → Res Γ m1 st1.length H1 (okD (.int (sortU rows).length) st1) Q (fun c d H' => W c d σ H') →
      ∃ ks : List (Addr × List Int), vs = ks.map (fun p => V.ref p.1) ∧ (∀ p ∈ ks, SqT X.K H1 p.1 (p.2.map V.int)) ∧ ks.length < 64 ∧
        ∀ a0 L, H1 a0 = none → (∀ p ∈ L, p ∈ ks) → (∀ p ∈ ks, p.2 ∈ L.map (·.2)) → rLenTO X.K X.prog X.w [V.ref a0] (upd H1 a0 (SetTO X.prog X.w a0 L)) Q := by
    intro l0 vs rows rv er h64 q1
    obtain ⟨ks, k1, k2, k3⟩ := rowsOf_vals rv er
    refine ⟨ks, k1, fun p hp => by rw [hK]; exact k3 p hp, by rw [← List.length_map (f := (·.2)), k2]; exact h64, fun a0 L ha0 hsub hsup => ?_⟩
    have kA : Keep H1 (upd H1 a0 (SetTO X.prog X.w a0 L)) := .new ha0
    refine ⟨a0, L, rfl, upd_same, fun p hp => by rw [hK]; exact kA.sqT (k3 p (hsub p hp)), fun hnd => ?_⟩
    have e : L.length = (sortU rows).length := by
      rw [← List.length_map (f := (·.2)) (as := L)]
      refine rows_len hnd (ltL_nodup (sortU_sorted rows)) fun x => ?_
      rw [sortU_mem, ← k2]
      constructor
      · intro hx
        obtain ⟨q, hq, rfl⟩ := List.mem_map.mp hx
        exact List.mem_map_of_mem (f := (·.2)) (hsub q hq)
      · intro hx
        obtain ⟨q, hq, rfl⟩ := List.mem_map.mp hx
        exact hsup q hq
    rw [e]
    have q2 := q1.mono (Ext.refl _ _) kA (Nat.le_refl _) fun a st' z => mono_ok z
    exact q2.ok (s1.side ha0) (.int _)
  match d, r1, q1 with
  | .obj n, .obj hn, q1 =>
    dsimp only [fLenSet] at q1
    split at q1
    · rename_i ro l0' e0
      split at q1
      · rename_i rows er
        split at q1
        · rename_i h64
          obtain ⟨vs, hv, rv⟩ := s1.list e0
          obtain ⟨ks, k1, k2, k3, k4⟩ := core rv er (of_decide_eq_true h64) q1
          rw [k1, ← hK] at hv
          exact .inl ⟨m1 n, ks, rfl, hv, k2, k3, k4⟩
        · exact q1.elim
      · exact q1.elim
    · exact q1.elim
  | .tup l0', .tup (a := b) (vs := vs) h1 rv, q1 =>
    dsimp only [fLenSet] at q1
    split at q1
    · rename_i rows er
      split at q1
      · rename_i h64
        obtain ⟨ks, k1, k2, k3, k4⟩ := core rv er (of_decide_eq_true h64) q1
        rw [k1, ← hK] at h1
        exact .inr ⟨b, ks, rfl, h1, k2, k3, k4⟩
      · exact q1.elim
    · exact q1.elim
end
end MP
end
section
set_option maxRecDepth 100000
set_option maxHeartbeats 1000000
namespace MP
open PySem PySem.Spec PyProof.Rows L2 PySem.W PySem.Calls

section
variable {X : Cx} {Γ : Gam} {W : WX} {e a b c o tg : Expr} {da db dc de : De} {pos pos' p2 p1 p3 : Pos} {es : List Expr} {das : List De} {body : List Stmt} {d1 : Ds}
/-! ### f() -/
theorem sim_call0D {x : Str} {p : Pos} {k : Nat} {g : List D → Sto → Rt} (G : Den X.prog X.w Γ X.mg X.base k x 0 g) (hK : X.K = Γ.K) (hr : Room k X.A) (hg : Gl X x)
    (hx : ∀ σ, PassesAt (L2.CX X.prog X.w) X σ (fun c d H' => W c d σ H')) (hdb : (x == ("__debug__" : Str)) = false) : Sim X Γ W (.Call (.Name x p) [] [] pos) (dApp g []) := by
  obtain ⟨⟨f, fd, ps, F, hm, hk, hb⟩, mo⟩ := G
  rw [← hK] at F hk hb
  refine ⟨mono_app monoA_nil mo, (PE.mk (t := fun σ H Q => spD Γ 0 g [] H Q (fun c d H' => W c d σ H')) fun pins s σ H Q I h => ?_).imp fun σ H Q ⟨m, ls, st, s, l, h⟩ => ⟨rfl, m, [], st, s, .nil, h⟩⟩
  refine wpAny_Call_Name_kw (ld_glob I hg hm ?_ hdb)
  exact PySem.W.callWith_K0 I.kIn hk (run_fnSD (us := []) (vs := []) (dvs := []) (E := fun σ c d H' => W c d σ H') F hr hb .nil (hx σ) I .nil h)
/-! ### reversed(xs) -/
def fRev : D → Sto → Option (RsI × Sto)
  | .obj n, st => match st[n]? with
    | some (.lst _ l) => some (.it l.reverse (.one n l), st)
    | _ => none
  | _, _ => none
theorem mono_fRev : ∀ d st r st', fRev d st = some (r, st') → st.length ≤ st'.length := by
  intro d st r st' h
  unfold fRev at h
  repeat' (split at h)
  all_goals first | (cases h; exact Nat.le_refl _) | cases h
theorem iterOk_rev {m0 : Nat → Addr} {L0 : Nat} {H0 : Hp} {n : Nat} {l : List D} {k : Nat} (hn : n < L0) (hk : k = l.length) : IterOk Γ (L2.Itv Γ.K (m0 n) k) l.reverse (.one n l) m0 L0 H0 := by
  intro i m st H hi e hL kp s hg
  rw [List.length_reverse] at hi ⊢
  obtain ⟨ro, hg⟩ := gdB_at hg
  obtain ⟨vs, a, r⟩ := s.list hg
  rw [e n hn] at a
  have hlen := r.length
  refine ⟨fun h => ?_, fun h => ⟨?_, fun x H' y => ?_⟩⟩
  · show k ≤ i
    omega
  · have hv : k - 1 - i < vs.length := by omega
    exact ⟨by omega, vs, vs[k - 1 - i], a, by simp [hv]⟩
  · obtain ⟨rfl, y⟩ := y
    obtain ⟨d, hd, rd⟩ := r.getV (y vs a)
    refine ⟨d, ?_, Keep.refl _, s, rd⟩
    rw [List.getElem?_reverse (by omega), ← hk]
    exact hd
theorem si_rev {p : Pos} (hK : X.K = Γ.K) (hg : Gl X "reversed") (hm : X.mg "reversed" = none) (ha : Sim X Γ W a da) (hs : starEach [a] X.env = (false, eval a X.env) :: starEach [] X.env) :
    SimI X Γ W tg (.Call (.Name "reversed" p) [a] [] pos) (fun ls st => bindI (da ls st) fRev) := by
  refine ⟨monoI_bind ha.mono mono_fRev, (RT.pi_revA hg hm ha.pe hs).imp fun σ H R ⟨m, ls, st, s, l, h⟩ => ?_⟩
  refine tD_bindI ha.mono s l mono_fRev h fun m1 d st1 v H1 s1 l1 r1 q => ?_
  match d, r1, q with
  | .obj n, .obj hn, q =>
    dsimp only [fRev] at q
    split at q
    · rename_i ro l e
      obtain ⟨vs, a, r⟩ := s1.list e
      exact ⟨m1 n, vs, rfl, .inl ⟨by rw [hK]; exact a, by rw [hK]; exact q.2 m1 H1 _ (Ext.refl _ _) (Keep.refl _) s1 (iterOk_rev hn r.length.symm)⟩⟩
    · exact q.elim
/-! ### a try that runs through -/
def dThru (db : Ds) : Ds := fun ls st => match db ls st with
  | some (.exc _ _, _, _) => none
  | r => r
theorem ss_thru {h₀ : ExceptHandler} {hs : List ExceptHandler} (hb : SimB X.nox Γ WF body d1) : SimS X Γ W (.Try body (h₀ :: hs) [] [] pos) (dThru d1) := by
  refine ⟨fun ls st a l st' h => ?_, (ps_try_thru0 hb.ps).imp fun D σ H ⟨m, ls, st, s, l, h⟩ => ⟨m, ls, st, s, l, ?_⟩⟩
  · unfold dThru at h
    split at h
    · cases h
    · exact hb.mono _ _ _ _ _ h
  · unfold dThru at h
    split at h
    · exact h.elim
    · rename_i r hr
      match d1 ls st, h, hr with
      | some (.next, ls2, st2), h, _ => exact h
      | some (.cont, ls2, st2), h, _ => exact h
      | some (.brk, ls2, st2), h, _ => exact h
      | some (.ret d, ls2, st2), h, _ => exact h
      | some (.exc c fs, ls2, st2), h, hr => exact absurd rfl (hr _ _ _ _)
end
/-! ### t[::-1] -/
theorem adjust_rev (n : Nat) : Builtin.Slice.sliceAdjust none none (-1) (n : Int) = ((n : Int) - 1, -1) := by
  unfold Builtin.Slice.sliceAdjust
  simp
theorem places_rev (n : Nat) : Builtin.Slice.slicePlaces ((n : Int) - 1) (-1) (-1) = n := by
  unfold Builtin.Slice.slicePlaces
  have h1 : ¬ ((-1 : Int) > 0) := by omega
  simp only [h1, if_false]
  by_cases h : n = 0
  · subst h; rfl
  · have h2 : (n : Int) - 1 > -1 := by omega
    simp only [h2, if_true]
    have e : (n : Int) - 1 - -1 - 1 = (n : Int) - 1 := by omega
    rw [e]
    have e2 : (-(-1) : Int) = 1 := rfl
    rw [e2, Int.ediv_one]
    omega
theorem pick_rev (xs : List Value) : ((List.range xs.length).filterMap fun (m : Nat) => xs.toArray[(((xs.length : Nat) : Int) - 1 + (m : Int) * (-1)).toNat]?) = xs.reverse := by
  have e : ∀ n, n ≤ xs.length → ((List.range n).filterMap fun (m : Nat) => xs.toArray[(((xs.length : Nat) : Int) - 1 + (m : Int) * (-1)).toNat]?) = xs.reverse.take n := fun n => by
    induction n with
    | zero => intro _; rfl
    | succ n ih =>
      intro h
      rw [List.range_succ, List.filterMap_append, ih (by omega), List.take_add_one]
      congr 1
      have e1 : (((xs.length : Nat) : Int) - 1 + (n : Int) * (-1)).toNat = xs.length - 1 - n := by omega
      have e2 : xs.reverse[n]? = xs[xs.length - 1 - n]? := List.getElem?_reverse (by omega)
      rw [e2]
      simp only [List.filterMap_cons, List.filterMap_nil, e1, List.getElem?_toArray]
      cases xs[xs.length - 1 - n]? <;> rfl
  rw [e xs.length (Nat.le_refl _)]
  exact List.take_of_length_le (by rw [List.length_reverse]; exact Nat.le_refl _)
theorem getItem_tuple_rev {prog : Program} {w : World} {A : Around} {E : Value → Shared → Prop} {s : Shared} {t sl : Addr} {its : List Value} {vl vu vs : Value} {Q : Value → Shared → Prop} (ht : IsTup s.heap t its.toArray) (hs : s.heap.IsSliceOf sl vl vu vs) (pl : IsPart vl none) (pu : IsPart vu none) (ps : IsPart vs (some (-1)))
    (h : Q (.ref s.heap.objs.size) { s with heap := s.heap.push { cls := .type "tuple", data := .seq its.reverse.toArray } }) (hsz : its.length ≤ sizeLine) : wpAny (model prog w) A (getItem (.ref t) (.ref sl)) Q E s := by
  obtain ⟨os, hos, hcs, hds⟩ := id hs
  have hTs : s.TypeIs (.ref sl) "slice" := ⟨os, hos, hcs⟩
  have hok : sizeOk (.seq its.reverse.toArray) := by
    show its.reverse.toArray.size ≤ sizeLine
    rw [List.size_toArray, List.length_reverse]
    exact hsz
  unfold getItem
  try with_reducible refine wpAny_holding ?_
  first | refine wpAny_bind (wpAny_pure ?_) | skip
  refine wpAny_bind (wpAny_sequenceKey ht.typeIs (by decide) ?_)
  refine wpAny_bind (wpAny_callSpecial?_slot (name := Str.ofString "__getitem__") ht.typeIs PyProof.Rows.slot_tuple_getitem (wpAny_call_entry PyProof.Rows.slot_tuple_getitem ht.typeIs entry_tuple_getitem ?_ (args_tuple_getitem _ _)))
  show wpAny _ _ (Builtin.Tuple.tupleItemsOf (.ref t) >>= _) _ _ s
  refine wpAny_bind (tupleItemsOf_ ht (wpAny_bind (wpAny_typeOf hTs ?_)))
  rw [if_pos (by decide)]
  refine wpAny_bind ?_
  unfold Builtin.Slice.sliceApplied Builtin.Slice.sliceFields
  refine wpAny_bind (wpAny_bind (wpAny_field hos hds (x := vl) rfl (wpAny_bind (wpAny_field hos hds (x := vu) rfl (wpAny_bind (wpAny_field hos hds (x := vs) rfl (wpAny_pure ?_)))))))
  refine wpAny_bind (HT.slicePart_ ps ?_)
  show wpAny _ _ (if ((-1 : Int) == 0) = true then _ else _) _ _ s
  rw [if_neg (by decide)]
  refine wpAny_bind (HT.slicePart_ pl (wpAny_bind (HT.slicePart_ pu (wpAny_bind (wpAny_pure ?_)))))
  show wpAny _ _ (match Builtin.Slice.sliceAdjust none none (-1) ((its.toArray.size : Nat) : Int) with | (lo, hi) => pure (lo, (-1 : Int), Builtin.Slice.slicePlaces lo hi (-1))) _ _ s
  rw [adjust_rev]
  show wpAny _ _ (pure (((its.toArray.size : Nat) : Int) - 1, (-1 : Int), Builtin.Slice.slicePlaces (((its.toArray.size : Nat) : Int) - 1) (-1) (-1))) _ _ s
  rw [places_rev]
  refine wpAny_pure ?_
  show wpAny _ _ (if ((((its.toArray.size : Nat) : Int) - 1 == 0 && (-1 : Int) == 1 && its.toArray.size == its.toArray.size) = true) then _ else _) _ _ s
  rw [if_neg (by simp)]
  have hz : its.toArray.size = its.length := List.size_toArray
  rw [hz, pick_rev]
  exact wpAny_bind (m := Builtin.Tuple.tupleExact _) (wpAny_newObj_type (wpAny_pure ⟨_, rfl, wpAny_pure h⟩) hok)
def tRevT (K : PySem.W.Frag) (te : TE) : TE := fun σ H Q => te σ H fun x H1 => ∃ a xs, x = .ref a ∧ SqT K H1 a xs ∧ ∀ p, H1 p = none → Q (.ref p) (upd H1 p (.tup xs.reverse))
section
variable {X : Cx} {Γ : Gam} {W : WX} {e a : Expr} {da : De} {pos p1 p2 p3 : Pos} {k : Nat}
theorem pe_revT {te : TE} (he : PE X e te) : PE X (.Subscript e (.Slice none none (some (.UnaryOp .USub (.Constant (.int 1) k p1) p2)) p3) pos) (tRevT X.K te) := by
  refine ⟨fun pins s σ H Q I h => ?_⟩
  refine Subscript_ (thn (he.run pins s σ H _ I h) fun v s1 ⟨x, H1, I1, r1, a, xs, ex, hx, q⟩ => ?_)
  subst ex
  cases r1
  have hst : PO X (some (.UnaryOp .USub (.Constant (.int 1) k p1) p2)) (tPart (tUn (rU fun i => .int (-i)) (tC (.int 1)))) := po_some (pe_un un_neg pe_int)
  refine wpAny_Slice (thn (po_none.run pins s1 σ H1 (fun o H2 => o = none ∧ H2 = H1) I1 ⟨rfl, rfl⟩) fun vl s2 ⟨l, H2, I2, pl, el, e2⟩ => ?_)
  subst el e2
  refine thn (po_none.run pins s2 σ H2 (fun o H3 => o = none ∧ H3 = H2) I2 ⟨rfl, rfl⟩) fun vu s3 ⟨u, H3, I3, pu, eu, e3⟩ => ?_
  subst eu e3
  refine thn (hst.run pins s3 σ H3 (fun o H4 => o = some (-1) ∧ H4 = H3) I3 ⟨1, rfl, -1, rfl, rfl, rfl⟩) fun vs s4 ⟨o, H4, I4, ps, eo, e4⟩ => ?_
  subst eo e4
  have I5 : Inv X pins σ H4 { s4 with heap := s4.heap.push { cls := .type "slice", data := .fields #[vl, vu, vs] } } := I4.kept (t' := s4.toks) fun b ob q => Heap.get?_push_of_some _ q
  obtain ⟨its, r, ht, hz⟩ := I5.tuple hx
  have hlen := r.length
  show wpAny (model X.prog X.w) X.A (subscriptTail e (.Slice none none (some (.UnaryOp .USub (.Constant (.int 1) k p1) p2)) p3) (.ref a) (.ref s4.heap.objs.size)) (EP X pins σ Q) X.xe { s4 with heap := s4.heap.push { cls := .type "slice", data := .fields #[vl, vu, vs] } }
  refine tail_any (ops := [.ref a, .ref s4.heap.objs.size]) ht.typeIs (PyProof.Rows.slot_tuple_getitem.lookup) ?_ (by with_unfolding_all rfl)
  refine getItem_tuple_rev ht (Heap.IsSliceOf.new _ vl vu vs) pl pu ps ?_ (by omega)
  refine ⟨.ref _, _, I5.laid (t' := s4.toks) (o := .tup xs.reverse) (fun b ob q => Heap.get?_push_of_some _ q) (Nat.le_refl _) ?_, rfl, q _ (I5.hok.fresh (Nat.le_refl _))⟩
  exact ⟨by rw [List.length_reverse]; exact hz, _, r.reverse, IsTup.new _ _⟩
def fRevT : D → Sto → Rt
  | .tup l, st => okD (.tup l.reverse) st
  | _, _ => none
theorem mono_fRevT : MonoF fRevT := by
  intro d st r st' h
  unfold fRevT at h
  split at h
  · exact mono_ok h
  · cases h
theorem rvL_rev {K : PySem.W.Frag} {m : Nat → Addr} {L : Nat} {H : Hp} : ∀ {ds : List D} {vs : List V}, RvL K m L H ds vs → RvL K m L H ds.reverse vs.reverse
  | _, _, .nil => .nil
  | _, _, .cons r rs => by
    rw [List.reverse_cons, List.reverse_cons]
    exact (rvL_rev rs).snoc r
theorem sim_revT (hK : X.K = Γ.K) (ha : Sim X Γ W a da) : Sim X Γ W (.Subscript a (.Slice none none (some (.UnaryOp .USub (.Constant (.int 1) k p1) p2)) p3) pos) (dUn fRevT da) := by
  refine ⟨mono_un ha.mono mono_fRevT, (pe_revT ha.pe).imp fun σ H Q ⟨m, ls, st, s, l, h⟩ => ?_⟩
  obtain ⟨m0, ls0, st0, s0, l0, q0⟩ := tD_bind ha.mono s l mono_fRevT h
  refine ⟨m0, ls0, st0, s0, l0, q0.imp fun v H1 ⟨m1, d, st1, s1, l1, r1, q1, _⟩ => ?_⟩
  match d, r1, q1 with
  | .tup l0', .tup (a := b) (vs := vs) h1 rv, q1 => exact ⟨b, vs, rfl, by rw [hK]; exact h1, fun p hp => Res.tupN q1 s1 (rvL_rev rv) hp⟩
end
end MP
end
section
set_option maxRecDepth 100000
set_option maxHeartbeats 1000000
namespace MP
open PySem PySem.Spec PyProof.Rows L2
/-! ### `a or b`, where a is any data -/
def fOrG (db : De) (ls : Ls) : D → Sto → Rt := fun d st => match truD d st with
  | some true => okD d st
  | some false => db ls st
  | none => none
theorem mono_fOrG {db : De} {ls : Ls} (mb : Mono db) : MonoF (fOrG db ls) := by
  intro d st r st' h
  unfold fOrG at h
  split at h
  · exact mono_ok h
  · exact mb _ _ _ _ h
  · cases h
def dOrG (da db : De) : De := fun ls st => bindR (da ls st) (fOrG db ls)
theorem mono_orG {da db : De} (ma : Mono da) (mb : Mono db) : Mono (dOrG da db) := fun ls st r st' q => bindR_mono (fun a s z => ma ls st a s z) (mono_fOrG mb) r st' q
section
variable {X : Cx} {Γ : Gam} {W : WX} {a b : Expr} {da db : De} {pos : Pos} {rest : List Expr}
theorem sim_orG (hK : X.K = Γ.K) (ha : Sim X Γ W a da) (hb : Sim X Γ W (.BoolOp .Or (b :: rest) pos) db) : Sim X Γ W (.BoolOp .Or (a :: b :: rest) pos) (dOrG da db) := by
  refine ⟨mono_orG ha.mono hb.mono, (pe_orT ha.pe hb.pe).imp fun σ H Q ⟨m, ls, st, s, l, h⟩ => ?_⟩
  obtain ⟨m0, ls0, st0, s0, l0, q0⟩ := tD_bind ha.mono s l (mono_fOrG hb.mono) h
  refine ⟨m0, ls0, st0, s0, l0, q0.imp fun v H1 ⟨m1, d, st1, s1, l1, r1, q1, _⟩ => ?_⟩
  unfold fOrG at q1
  split at q1
  · rename_i ek
    exact ⟨true, by rw [hK]; exact r1.tru s1 ek, q1.ok s1 r1⟩
  · rename_i ek
    exact ⟨false, by rw [hK]; exact r1.tru s1 ek, ⟨m1, ls, st1, s1, l1, q1⟩⟩
  · exact q1.elim
end
end MP
end
section
set_option maxRecDepth 100000
set_option maxHeartbeats 1000000
namespace MP
open PySem PySem.Spec PyProof.Rows L2
/-! ### try: .. except T: .. -/
/-- no exception -/
def noX : Rss → Rss
  | some (.exc _ _, _, _) => none
  | r => r
def dTryO (tbl : List (Str × Bool)) (db dsu : Ds) : Ds := fun ls st => match db ls st with
  | some (.exc c fs, ls1, st1) => match tbl.lookup c with
    | some true => noX (dsu ls1 st1)
    | some false => some (.exc c fs, ls1, st1)
    | none => none
  | r => r
theorem noX_eq {r x : Rss} (h : noX r = x) (hx : x ≠ none) : r = x := by
  unfold noX at h
  split at h
  · exact absurd h.symm hx
  · exact h
theorem mono_tryO {tbl : List (Str × Bool)} {db dsu : Ds} (hb : MonoS db) (hs : MonoS dsu) : MonoS (dTryO tbl db dsu) := fun ls st a l st' h => by
  unfold dTryO at h
  split at h
  · rename_i c fs ls1 st1 e
    have h1 := hb _ _ _ _ _ e
    split at h
    · exact Nat.le_trans h1 (hs _ _ _ _ _ (noX_eq h (by simp)))
    · cases h
      exact h1
    · cases h
  · exact hb _ _ _ _ _ h
section
variable {X : Cx} {Γ : Gam} {W : WX} {x : Str} {tv : Value} {body suite : List Stmt} {b₀ : Stmt} {np pos pos' : Pos} {db dsu : Ds} {tbl : List (Str × Bool)}
theorem tS_tryO (hx : ExmX Γ tbl tv) (hK : X.K = Γ.K) (mb : MonoS db) (ms : MonoS dsu) {D : Ends} {σ : L2.St} {H : Hp} (h : tS Γ W (dTryO tbl db dsu) D σ H) :
    tS Γ (wOnly X.K tv (fun a cls d D σ H => ∃ c, cls = .ref (Γ.cl c) ∧ tS Γ WF dsu D σ H) W D) db D σ H := by
  obtain ⟨m, ls, st, s, l, h⟩ := h
  refine ⟨m, ls, st, s, l, ?_⟩
  unfold dTryO at h
  have mb := fun a l st' q => mb ls st a l st' q
  match db ls st, h, mb with
  | some (.next, l1, st1), h, _ => exact h
  | some (.brk, l1, st1), h, _ => exact h
  | some (.cont, l1, st1), h, _ => exact h
  | some (.ret d, l1, st1), h, _ => exact h
  | some (.exc c fs, l1, st1), h, mb =>
    have hl := mb _ _ _ rfl
    refine ⟨hl, fun m1 H1 σ1 dd e1 k1 s1 ls1 x1 => ?_⟩
    dsimp only at h
    split at h
    · rename_i et
      refine ⟨true, by rw [hK]; exact hx _ _ et, fun _ a ha => ⟨c, rfl, m1, l1, st1, s1, ls1, ?_⟩, fun q => Bool.noConfusion q⟩
      have ms := fun a l st' q => ms l1 st1 a l st' q
      revert h ms
      generalize dsu l1 st1 = r3
      intro h ms
      have h := h.mono e1 k1 hl fun a l st' q => ms a l st' (noX_eq q (by simp))
      match r3, h with
      | some (.next, l3, st3), h => exact h
      | some (.brk, l3, st3), h => exact h
      | some (.cont, l3, st3), h => exact h
      | some (.ret v, l3, st3), h => exact h
      | some (.exc _ _, l3, st3), h => exact h.elim
      | none, h => exact h.elim
    · rename_i et
      exact ⟨false, by rw [hK]; exact hx _ _ et, fun q => Bool.noConfusion q, fun _ => h.2 m1 H1 σ1 dd e1 k1 s1 ls1 x1⟩
    · exact h.elim
theorem ss_tryO (hs : X.stack = X.env :: X.outer) (hf : X.env.frame = some X.env.locals) (hx : ExmX Γ tbl tv) (hK : X.K = Γ.K) (hc : Names X x tv) (tk : Takes X W)
    (hb : ∀ (W : WX) (pn : List (Addr × Obj)) (xe : Value → Shared → Prop), Takes (X.tr pn xe) W → PassesOwn (model X.prog X.w) X.A X.env xe → SimB (X.tr pn xe) Γ W body db)
    (hsu : ∀ (a : Addr) (oe : Obj) (c : Str) (d : Option Addr) (pn : List (Addr × Obj)), Zc (.ref (Γ.cl c)) d oe → (∃ vs, oe.data = .fields vs) → SimB (X.suite a ((a, oe) :: pn)) Γ WF (b₀ :: suite) dsu) :
    SimS X Γ W (.Try body [.ExceptHandler (some (.Name x np)) none (b₀ :: suite) pos'] [] [] pos) (dTryO tbl db dsu) := by
  have mb : MonoS db := (hb WF X.pn (fun _ _ => False) LamX.takes0 PassesOwn.never).mono
  have ms : MonoS dsu := (hsu 0 { cls := .ref (Γ.cl Str.empty), dict := none, data := .fields #[] } Str.empty none [] ⟨rfl, rfl⟩ ⟨_, rfl⟩).mono
  refine ⟨mono_tryO mb ms, (ps_try_only hs hf hc tk (tb := fun W => tS Γ W db) (ts := fun a cls d D σ H => ∃ c, cls = .ref (Γ.cl c) ∧ tS Γ WF dsu D σ H) (fun W pn xe t p => (hb W pn xe t p).ps) fun a oe cls d pn hz hv => ?_).imp fun D σ H h => tS_tryO hx hK mb ms h⟩
  refine ⟨fun pins s σ H D I ⟨c, ec, w⟩ => ?_⟩
  subst ec
  exact (hsu a oe c d pn hz hv).ps.run pins s σ H D I w
end
/-! ### sum of a list of numbers -/
def fSum : List D → Sto → Rt
  | [.obj n], st => match st[n]? with
    | some (.lst _ l) => match intsOf l with
      | some ns => okD (.int ns.sum) st
      | none => none
    | _ => none
  | _, _ => none
theorem mono_fSum : MonoFA fSum := by
  intro d st r st' h
  unfold fSum at h
  repeat' (split at h)
  all_goals first | exact mono_ok h | cases h
theorem cs_sum {Γ : Gam} : CallSim Γ (rSum Γ.K) fSum := fun
  | m, st, H, _, [.obj n], Q, E, s, .cons (.obj _) .nil, h => by
    dsimp only [fSum] at h
    split at h
    · rename_i ro l e
      split at h
      · rename_i ns en
        obtain ⟨vs, a, r⟩ := s.list e
        rw [intsOf_vals r en] at a
        exact ⟨m n, ns, rfl, a, h.ok s (.int _)⟩
      · exact h.elim
    · exact h.elim
end MP
end
section
set_option maxRecDepth 100000
set_option maxHeartbeats 1000000
namespace MP
open PySem PySem.Spec PyProof.Rows L2
/-! ### x, o[i] = e -/
def nsK (j : Nat) (do_ di_ : De) (ls : Ls) (v : D) (st1 : Sto) : Rss := match v with
  | .tup [d1, d2] => bindS (do_ (ls.set j (some d1)) st1) (ls.set j (some d1)) fun o st2 => bindS (di_ (ls.set j (some d1)) st2) (ls.set j (some d1)) (setKG (ls.set j (some d1)) d2 o)
  | _ => none
def dAsgNS (j : Nat) (de do_ di_ : De) : Ds := fun ls st => bindS (de ls st) ls (nsK j do_ di_ ls)
section
variable {X : Cx} {Γ : Gam} {W : WX} {e a b c o i tg iter : Expr} {da db dc de do_ di_ : De} {pos pos' px pt tpos p2 : Pos}
theorem ss_asgNS {j kt : Nat} {x : Str} (hc : X.calm = true) (hN : X.N.Nodup) (hj : X.N[j]? = some x) (hx : Loc X.env.scope x) (hf : X.fn x = true ∨ X.env.scope.names.lookup x = some .local) (hK : X.K = Γ.K) (hu : X.A.units + 65 < cLine) (he : Sim X Γ W e de) (ho : Sim X Γ W o do_) (hi : Sim X Γ W i di_) (ha : ∀ v, assign (.Subscript o i tpos) X.env v = (do
      let ov ← holding [v] (eval o X.env)
      let iv ← holding [v, ov] (eval i X.env)
      standAt tpos
      holding [v, ov, iv] (setItem ov iv v)
      release [v, ov, iv] [])) (hs : swapsWithSole [.Tuple [.Name x px, .Subscript o i tpos] kt pt] e pos.line X.env = pure false) (hw : swappedStores [.Tuple [.Name x px, .Subscript o i tpos] kt pt] e X.env = pure none)
    (h1 : (assignEach [.Tuple [.Name x px, .Subscript o i tpos] kt pt] X.env).map (·.2) = [assign (.Tuple [.Name x px, .Subscript o i tpos] kt pt) X.env])
    (hn : (assignEach [.Name x px, .Subscript o i tpos] X.env).length = 2) (hst : (assignEach [.Name x px, .Subscript o i tpos] X.env).findIdx? (·.1) = none) : SimS X Γ W (.Assign [.Tuple [.Name x px, .Subscript o i tpos] kt pt] e pos) (dAsgNS j de do_ di_) := by
  have m2 : ∀ (ls : Ls) (v o : D), MonoK (setKG ls v o) := fun ls v o => monoK_setG
  have m1 : ∀ (ls : Ls) (v : D), MonoK fun o st2 => bindS (di_ ls st2) ls (setKG ls v o) := fun ls v o st a l st' h => bindS_mono (fun a s z => hi.mono ls st a s z) (m2 ls v o) a l st' h
  have m0 : ∀ (ls : Ls), MonoK (nsK j do_ di_ ls) := fun ls v st a l st' h => by
    unfold nsK at h
    split at h
    · exact bindS_mono (fun a s z => ho.mono _ st a s z) (m1 _ _) a l st' h
    · cases h
  refine ⟨fun ls st a l st' h => bindS_mono (fun a s z => he.mono ls st a s z) (m0 ls) a l st' h, (ps_asg he.pe (pg_tup hc (pgs_cons (pg_name hN hj hx hf) (pgs_cons (pg_sub ho.pe hi.pe (set_G hK hu) ha) pgs_nil)) hn hst) hs hw h1).imp fun D σ H ⟨m, ls, st, s, l, h⟩ => ?_⟩
  refine tD_bindS he.mono s l (m0 ls) h fun m1' v st1 vv H1 s1 l1 r1 q1 _ _ _ => ?_
  unfold nsK at q1
  split at q1
  · rename_i d1 d2
    obtain ⟨ta, vs, rfl, ht, rl⟩ : ∃ ta vs, vv = V.ref ta ∧ SqT Γ.K H1 ta vs ∧ RvL Γ.K m1' st1.length H1 [d1, d2] vs := by
      cases r1 with
      | tup h1 h2 => exact ⟨_, _, rfl, h1, h2⟩
    obtain ⟨v1, v2, rfl, ra, rb⟩ : ∃ v1 v2, vs = [v1, v2] ∧ Rv Γ.K m1' st1.length H1 d1 v1 ∧ Rv Γ.K m1' st1.length H1 d2 v2 := by
      cases rl with
      | cons ra rs =>
        cases rs with
        | cons rb rn =>
          cases rn
          exact ⟨_, _, rfl, ra, rb⟩
    · skip
      refine ⟨ta, [v1, v2], rfl, by rw [hK]; exact ht, rfl, v1, [v2], rfl, v2, [], rfl, ?_⟩
      refine tD_bindS ho.mono s1 (l1.set j ra) (m1 _ d2) q1 fun m2' o st2 ov H2 s2 l2 r2 q2 hl2 e2 k2 => ?_
      refine tD_bindS hi.mono s2 l2 (m2 _ d2 o) q2 fun m3' i st3 iv H3 s3 l3 r3 q3 hl3 e3 k3 => ?_
      have r2' := r2.mono e3 hl3 k3
      have r1' := (rb.mono e2 hl2 k2).mono e3 hl3 k3
      unfold setKG at q3
      split at q3
      · rename_i n ps hd
        split at q3
        · rename_i ok
          split at q3
          · rename_i hl
            obtain ⟨n', en, el⟩ := dctAt_at hd
            cases en
            refine .inr (askD s3 hd r2' ok r3 fun n' b qs en e' ey eH r => ⟨by rw [← dct_len r]; exact line_lt hl, ?_⟩)
            cases en
            have k4 : Keep H3 (upd H3 (m3' n) (dctO (m3' n) (putQ qs (keyD i) b v2 (lookD ps i).isSome))) := .put eH .dct
            have s4 := s3.put (o := dctO (m3' n) (putQ qs (keyD i) b v2 (lookD ps i).isSome)) (c' := .dct (putP ps i d2)) el rfl rfl ⟨_, upd_same, (r.put ok (ey ▸ r3) r1').mono (Ext.refl _ _) (Nat.le_refl _) k4⟩
            refine ⟨rfl, q3.2 m3' _ _ (Ext.refl _ _) k4 s4 ?_⟩
            rw [List.length_set]
            exact l3.mono (Ext.refl _ _) (Nat.le_refl _) k4
          · exact q3.elim
        · exact q3.elim
      · refine .inl ?_
        unfold setK at q3
        split at q3
        · rename_i n k hne
          split at q3
          · rename_i l0 el
            split at q3
            · rename_i j' ej
              cases r2'
              cases r3
              obtain ⟨vs, hv, rv⟩ := s3.lst el
              refine ⟨m3' n, vs, k, j', rfl, rfl, hv, by rw [← rv.length]; exact ej, ?_⟩
              have k4 : Keep H3 (upd H3 (m3' n) (.lst (vs.set j' v2))) := .put hv .lst
              have s4 := s3.put (o := .lst (vs.set j' v2)) (c' := .lst false (l0.set j' d2)) el rfl rfl ⟨_, upd_same, (rv.set j' r1').mono (Ext.refl _ _) (Nat.le_refl _) k4⟩
              refine ⟨rfl, q3.2 m3' _ _ (Ext.refl _ _) k4 s4 ?_⟩
              rw [List.length_set]
              exact l3.mono (Ext.refl _ _) (Nat.le_refl _) k4
            · exact q3.elim
          · exact q3.elim
        · exact q3.elim
  · exact q1.elim
end
end MP
end
section
set_option maxRecDepth 100000
set_option maxHeartbeats 1000000
namespace MP
open PySem PySem.Spec PyProof.Rows L2

/-! ### == of two dicts with keys that are tuples: both have the same -/
section
variable {prog : Program} {w : World} {K : Type} [DecidableEq K] {knd : HeapKind prog w K} {A : Around} {E : Value → Shared → Prop} {s : Shared}
theorem samePairsH {nm : String} {a b : Addr} {xa xb : List (K × Addr × Value)} {Q : Bool → Shared → Prop} (ha : (a == sysModules) = false) (hb : (b == sysModules) = false) (hu : knd.room A)
    (da : s.heap.DictOfH knd a xa) (db : s.heap.DictOfH knd b xb) (hl : xa.length = xb.length) (hits : ∀ x ∈ xa, ∃ p, atKey xb x.1 = some p ∧ SeqAt.EqP prog w A s x.2.2 p.2 true) (h : Q true s) :
    wpAny (model prog w) A (Builtin.Dict.samePairs nm a b) Q E s := by
  obtain ⟨oa, es, ep, hoa, _, hda, hea, hisa, hna⟩ := da
  obtain ⟨ob, es', ep', hob, _, hdb, heb, hisb, hnb⟩ := db
  have hla : es.size = xa.length := size_of_entries hea
  have hlb : es'.size = xb.length := size_of_entries heb
  unfold Builtin.Dict.samePairs Builtin.Dict.showsAll
  rw [if_neg (show ¬ (a == sysModules) = true by rw [ha]; exact Bool.false_ne_true), if_neg (show ¬ (b == sysModules) = true by rw [hb]; exact Bool.false_ne_true)]
  refine wpAny_bind (wpAny_pure (wpAny_bind (wpAny_pure ?_)))
  refine wpAny_bind (wpAny_dictEntries hoa hda ?_)
  dsimp only
  refine wpAny_bind (wpAny_dictEntries hob hdb ?_)
  have hsz : es.size = es'.size := by omega
  rw [if_neg (by rw [hsz]; simp)]
  refine wpAny_bind (wpAny_dictEpoch hoa hda ?_)
  refine wpAny_bind ?_
  rw [Std.Legacy.Range.forIn_eq_forIn_range']
  simp only [Std.Legacy.Range.size, Nat.sub_zero, Nat.add_sub_cancel, Nat.div_one]
  refine wpAny_forIn_list _
    (fun rest q s' => s' = s ∧ q = (none, ()) ∧ ∃ i, rest = List.range' i (es.size - i) ∧ i ≤ es.size)
    _ ?_ ?_ _ _ ⟨rfl, rfl, 0, by simp, Nat.zero_le _⟩
  · rintro x rest q s' ⟨rfl, rfl, i, hr, hi⟩
    have hlt : i < es.size := by
      rcases Nat.lt_or_ge i es.size with h | h
      · exact h
      · rw [Nat.sub_eq_zero_of_le h] at hr; simp at hr
    obtain ⟨rfl, hrest⟩ : x = i ∧ rest = List.range' (i + 1) (es.size - (i + 1)) := by
      have e : es.size - i = (es.size - (i + 1)) + 1 := by omega
      rw [e, List.range'_succ] at hr
      injection hr with h1 h2
      exact ⟨h1, h2⟩
    refine wpAny_bind (wpAny_dictEntries hoa hda ?_)
    have hlt' : x < xa.length := by omega
    have ee : es[x]? = some (entryOfKey knd xa[x]) := by
      rw [entry_at hea x, List.getElem?_eq_getElem hlt']
      rfl
    rw [ee]
    obtain ⟨p, hp, heq⟩ := hits xa[x] (List.getElem_mem hlt')
    show wpAny _ _ (holding [(entryOfKey knd xa[x]).key, (entryOfKey knd xa[x]).val] _ >>= _) _ _ _
    refine wpAny_bind (wpAny_holding (wpAny_bind (wpAny_dictFind_heap (k := xa[x].1) (a := xa[x].2.1) hu (hisa _ (List.getElem_mem hlt')) hob hdb heb hisb hnb (fun hno => ?_) (fun j q hj => ?_))))
    · rw [atKey_none_of_get hno] at hp
      cases hp
    · have hpq : q = p := Option.some.inj ((atKey_of_get hnb hj).symm.trans hp)
      subst hpq
      refine wpAny_bind (wpAny_dictEntries hob hdb ?_)
      have ee' : es'[j]? = some (entryOfKey knd (xa[x].1, q)) := by
        rw [entry_at heb j, hj]
        rfl
      rw [ee']
      refine wpAny_holding (heq _ _ ?_)
      show wpAny _ _ (if (!true) = true then _ else _) _ _ _
      rw [if_neg (by decide)]
      refine wpAny_bind (wpAny_dictEpoch hoa hda ?_)
      rw [if_neg (by simp)]
      exact wpAny_pure ⟨rfl, rfl, x + 1, hrest, hlt⟩
  · rintro q s' ⟨rfl, rfl, i, hr, hi⟩
    exact wpAny_pure h
theorem rcH_dicts {a b : Addr} {xa xb : List (K × Addr × Value)} (ha : (a == sysModules) = false) (hb : (b == sysModules) = false) (hr : knd.room A.in1)
    (da : s.heap.DictOfH knd a xa) (db : s.heap.DictOfH knd b xb) (hu : A.units < cLine) (hl : xa.length = xb.length) (hits : ∀ x ∈ xa, ∃ p, atKey xb x.1 = some p ∧ SeqAt.EqP prog w A.in1 s x.2.2 p.2 true) (E Q : Value → Shared → Prop) (h : Q (.bool true) s) : wpAny (model prog w) A (richCompare .Eq (.ref a) (.ref b)) Q E s := by
  refine wpAny_richCompare_same_room (op := .Eq) da.typeIs db.typeIs PySem.F.slot_dict_eq (wpAny_call_entry PySem.F.slot_dict_eq da.typeIs PySem.F.entry_dict_eq ?_ (PySem.F.args_dict_eq_2 _ _)) hu
  show wpAny _ _ (Builtin.Dict.dictSlotArgs "__eq__" ⟨[.ref a, .ref b], []⟩ >>= _) _ _ s
  refine wpAny_bind ?_
  unfold Builtin.Dict.dictSlotArgs
  refine wpAny_bind (wpAny_notOrdered_dict da.typeIs ?_)
  show wpAny _ _ (pure (Value.ref a, Value.ref b)) _ _ s
  refine wpAny_pure ?_
  refine wpAny_bind (wpAny_isInstance (T := "dict") db.typeIs PySem.F.sub_dict_dict ?_)
  simp only [Bool.not_true, Bool.false_eq_true, if_false]
  refine wpAny_bind (wpAny_pure (wpAny_bind (wpAny_pure ?_)))
  refine wpAny_bind (samePairsH ha hb hr da db hl hits ?_)
  refine wpAny_pure ⟨_, rfl, ?_, ?_⟩
  · exact fun x => nomatch x
  · simpa using h
end
section
variable {X : Cx} {Γ : Gam}
def rEqDD (K : PySem.W.Frag) : R2 := fun x y H Q => ∃ m L a b ps qs ps' qs', x = .ref a ∧ y = .ref b ∧ H a = some (dctO a qs) ∧ H b = some (dctO b qs') ∧ DctR K m L H ps qs ∧ DctR K m L H ps' qs' ∧ ps.length = ps'.length ∧
  (∀ p ∈ ps, ∃ d, lookD ps' p.1 = some d ∧ ∀ v u, Rv K m L H p.2 v → Rv K m L H d u → ∃ e e', Dp K H v e ∧ Dp K H u e' ∧ SeqAt.shaped e = true ∧ SeqAt.shaped e' = true ∧ PyData.eqv e e' = true) ∧ Q (.bl true) H
theorem rq_items {K : PySem.W.Frag} {m : Nat → Addr} {L : Nat} {H : Hp} : ∀ {ps : List (D × D)} {qs : List (NestedKey × Addr × V)} {xs : List (NestedKey × Addr × Value)}, DctR K m L H ps qs → Paired RQ qs xs → ∀ x ∈ xs, ∃ p ∈ ps, ∃ v, okTop p.1 = true ∧ x.1 = keyD p.1 ∧ Rv K m L H p.2 v ∧ RelV v x.2.2
  | _, _, _, .nil, .nil, x, hx => by simp at hx
  | _, _, _, .cons (k := a) (d := d) (b := ba) (v := v) o r1 r2 rs, .cons (b := x) h t, y, hy => by
    obtain ⟨e1, e2, e3⟩ := h
    dsimp only at e1 e2 e3
    rcases List.mem_cons.mp hy with e | e
    · subst e
      exact ⟨(a, d), List.mem_cons_self, v, o, e1.symm, r2, e3⟩
    · obtain ⟨p, hp, z⟩ := rq_items rs t y e
      exact ⟨p, List.mem_cons_of_mem _ hp, z⟩
theorem op_eqDD (hK : X.K = Γ.K) (hu : X.A.units + 65 < cLine) : OpR X (compareOp .Eq) (rEqDD Γ.K) := by
  intro pins s σ H x y v u Q I rx ry h
  obtain ⟨m, L, a, b, ps, qs, ps', qs', rfl, rfl, e, e', r, r', hl, hits, q⟩ := h
  cases rx
  cases ry
  obtain ⟨h1, h2, xs, h3, hd⟩ := dct_of I hK e r
  obtain ⟨h1', h2', xs', h3', hd'⟩ := dct_of I hK e' r'
  refine rcH_dicts (knd := nestedKind X.prog X.w) h2 h2' (room8 hu) hd hd' (by omega) ?_ (fun x hx => ?_) _ _ ⟨.bl _, H, I, rfl, q⟩
  · have := dct_len r
    have := dct_len r'
    have := h3.length
    have := h3'.length
    omega
  · obtain ⟨p, hp, v, ok, ek, rv, rl⟩ := rq_items r h3 x hx
    obtain ⟨d, hdd, hv⟩ := hits p hp
    rcases look_at (k := p.1) ok r' h3' with ⟨e1, e2⟩ | ⟨d', b', v', u', e1, e2, rd, ru⟩
    · rw [e1] at hdd; cases hdd
    · rw [e1] at hdd
      cases hdd
      refine ⟨(b', u'), by rw [ek]; exact e2, ?_⟩
      obtain ⟨c, c', d1, d2, s1, s2, hq⟩ := hv v v' rv rd
      rw [hK.symm] at d1 d2
      obtain ⟨as, t1⟩ := Dp.reads I c v _ d1 rl
      obtain ⟨bs, t2⟩ := Dp.reads I c' v' _ d2 ru
      have := (SeqAt.eqAt_reads c c' X.A.in1 s _ _ as bs t1 t2 (SeqAt.canLay_of_shaped s1) (SeqAt.canLay_of_shaped s2) (SeqAt.room_of_shaped s1 (by show X.A.units + 1 + 64 < cLine; omega))).eqP (prog := X.prog) (w := X.w)
      rw [hq] at this
      exact this
def eqDD (st : Sto) (ps ps' : List (D × D)) : Bool := ps.length == ps'.length && ps.all fun p => match lookD ps' p.1 with
  | some d => eqD st p.2 d == some true
  | none => false
/-- == of two dicts that have the same; of other data -/
def fEqG (d e : D) (st : Sto) : Rt := match dctAt st d, dctAt st e with
  | some ps, some ps' => if eqDD st ps ps' then okD (.bl true) st else none
  | _, _ => fEq d e st
theorem mono_fEqG : MonoF2 fEqG := by
  intro d e st r st' h
  unfold fEqG at h
  split at h
  · split at h
    · exact mono_ok h
    · cases h
  · exact mono_fEq _ _ _ _ _ h
abbrev rEqG2 (K : PySem.W.Frag) : R2 := fun x y H Q => rEqDD K x y H Q ∨ rEqD K x y H Q
theorem op_eqG (hK : X.K = Γ.K) (hu : X.A.units + 65 < cLine) : OpR X (compareOp .Eq) (rEqG2 Γ.K) := (op_eqDD hK hu).or (by rw [← hK]; exact op_eqD (by omega))
theorem os_eqG : OpSim Γ (rEqG2 Γ.K) fEqG := fun m st H x y d e Q E s rx ry h => by
  unfold fEqG at h
  split at h
  · rename_i ps ps' hd he
    split at h
    · rename_i z
      unfold eqDD at z
      rw [Bool.and_eq_true_iff] at z
      obtain ⟨zl, za⟩ := z
      obtain ⟨n, rfl, e1⟩ := dctAt_at hd
      obtain ⟨k, rfl, e2⟩ := dctAt_at he
      cases rx
      cases ry
      obtain ⟨qs, h1, r⟩ := s.cell n _ e1
      obtain ⟨qs', h2, r'⟩ := s.cell k _ e2
      refine .inl ⟨m, st.length, m n, m k, ps, qs, ps', qs', rfl, rfl, h1, h2, r, r', by simpa using zl, fun p hp => ?_, h.ok s (.bl _)⟩
      have zp := List.all_eq_true.mp za p hp
      split at zp
      · rename_i d hd'
        refine ⟨d, hd', fun v u rv ru => ?_⟩
        have zq : eqD st p.2 d = some true := by simpa using zp
        unfold eqD at zq
        split at zq
        · rename_i p' q' e1' e2'
          split at zq
          · rename_i hs
            obtain ⟨s1, s2⟩ := Bool.and_eq_true_iff.mp hs
            exact ⟨p', q', rv.dp s DEEP e1', ru.dp s DEEP e2', s1, s2, by simpa using zq⟩
          · cases zq
        · cases zq
      · cases zp
    · exact h.elim
  · exact .inr (os_eq m st H x y d e Q E s rx ry h)
end
end MP
end
section
set_option maxRecDepth 100000
set_option maxHeartbeats 1000000
namespace MP
open PySem PySem.Spec PySem.W PyProof.Rows L2

/-! ### sorted of a tuple -/
section
variable {X : Cx} {Γ : Gam}
def rSortTp (K : PySem.W.Frag) : List V → Hp → VK → Prop := fun xs H Q => ∃ m L p l vs, xs = [.ref p] ∧ SqT K H p vs ∧ RvL K m L H l vs ∧ canSort l = true ∧ ∀ q ws, H q = none → RvL K m L H (isort leD l) ws → Q (.ref q) (upd H q (.lst ws))
theorem cr_sortTp (hK : X.K = Γ.K) (hu : X.A.units + 65 < cLine) : CallR X (.builtin "sorted") (rSortTp Γ.K) := by
  intro pins s σ H xs us Q I r h
  obtain ⟨m, L, p, l, vs, rfl, hq, rv, hs, q⟩ := h
  obtain ⟨u, rfl, rx⟩ := vals1 r
  cases rx
  obtain ⟨its, rv2, pt, hz⟩ := I.tuple (by rw [hK]; exact hq)
  obtain ⟨o, ho, hc, k, hd⟩ := pt
  have ud := ud_of (Γ := Γ) rv rv2
  have hil : its.length = vs.length := rv2.length.symm
  have hll : l.length = vs.length := rv.length
  refine Calls.call_function_entry PyProof.Rows.kind_sorted PyProof.Rows.plain_sorted PyProof.Rows.entry_sorted (PyProof.Rows.args_sorted1 _) ?_
  unfold Builtin.«sorted»
  refine wpAny_bind (m := checkCount "sorted" 1 1 _) (wpAny_pure ?_)
  refine wpAny_bind (wpAny_collect_seq p (.inr rfl) ho hc hd (fun h' hk => ?_) (by rw [List.size_toArray]; omega))
  have I1 : Inv X pins σ H { s with heap := h' } := I.kept (t' := s.toks) hk
  rw [List.toList_toArray]
  refine wpAny_bind (wpAny_newList ?_ (by omega))
  have hoL : (h'.push (seqObj "list" its.toArray 0)).get? h'.objs.size = some (seqObj "list" its.toArray 0) := Heap.get?_push_size _ rfl
  show wpAny _ _ _ _ _ { s with heap := h'.push (seqObj "list" its.toArray 0) }
  obtain ⟨c1, c2, c3⟩ := canSort_ok hs
  have hlen : l.length ≤ sizeLine := by omega
  have I2 : Inv X pins σ H { s with heap := h'.push (seqObj "list" its.toArray 0) } := I1.kept (t' := s.toks) fun b o e => Heap.get?_push_of_some _ e
  refine wpAny_bind (wpAny_holding (list_sort_data (s := { s with heap := h'.push (seqObj "list" its.toArray 0) }) (enc := encD) hoL ud ((ud_reads I2 hK c1 ud).mono fun _ _ ⟨as, r, z⟩ => ⟨as, r, z _⟩) c2 c3 hlen (fun b hb => ?_) fun out hout eo => ?_))
  · have := depth_flat (List.all_eq_true.mp c1 b hb)
    have e1 : X.A.in1.units = X.A.units + 1 := rfl
    omega
  · rw [sortE encD] at eo
    obtain ⟨e', he'⟩ := PyProof.Rows.sortedHeap_at (vs := its) (out := out.toArray) hoL
    obtain ⟨ws, w1, w2, w3⟩ := sorted_inv (h' := sortedHeap (h'.push (seqObj "list" its.toArray 0)) h'.objs.size its out.toArray) (tk := s.toks) I1 (fun b u e => by
      have hb : b < h'.objs.size := Heap.lt_size e
      rw [PyProof.Rows.sortedHeap_old (Nat.ne_of_lt hb) (by rw [size_push']; exact Nat.lt_succ_of_lt hb)]
      exact Heap.get?_push_of_some _ e) (Nat.le_refl _) he' eo (by rw [isort_len]; exact hlen)
    exact wpAny_pure ⟨_, rfl, .ref h'.objs.size, _, w3, rfl, q _ _ w2 w1⟩
end
def fSortTp : List D → Sto → Rt
  | [.tup l], st => if canSort l then okL (isort leD l) st else none
  | _, _ => none
theorem mono_fSortTp : MonoFA fSortTp := by
  intro ds st r st' h
  unfold fSortTp at h
  repeat' (split at h)
  all_goals first | exact mono_okL h | cases h
theorem cs_sortTp {Γ : Gam} : CallSim Γ (rSortTp Γ.K) fSortTp := fun
  | m, st, H, _, [.tup l], Q, E, s, .cons (.tup a r) .nil, h => by
    dsimp only [fSortTp] at h
    split at h
    · rename_i hc
      exact ⟨m, st.length, _, l, _, rfl, a, r, hc, fun q ws hq rw_ => h.lstN s rw_ hq⟩
    · exact h.elim
end MP
end
section
set_option maxRecDepth 100000
set_option maxHeartbeats 1000000
namespace MP
open PySem PySem.Spec PyProof.Rows L2
/-! ### a >= b of numbers, or of tuples of numbers -/
def geT (ns ms : List Int) : Bool := Ob.lexAt (fun j => decide (ns.getD j 0 = ms.getD j 0)) (fun j => decide (ms.getD j 0 ≤ ns.getD j 0)) (decide (ms.length ≤ ns.length)) 0 (min ns.length ms.length)
def rGeT (K : PySem.W.Frag) : R2 := fun x y H Q => ∃ (a b : Addr) (ns ms : List Int), x = .ref a ∧ y = .ref b ∧ SqT K H a (ns.map V.int) ∧ SqT K H b (ms.map V.int) ∧ Q (.bl (geT ns ms)) H
theorem op_geT {X : Cx} (hu : X.A.units < cLine) : OpR X (compareOp .GtE) (rGeT X.K) := by
  intro pins s σ H x y v u Q I rx ry ⟨a, b, ns, ms, ex, ey, ha, hb, q⟩
  subst ex ey
  cases rx
  cases ry
  obtain ⟨its, r1, p1, _⟩ := I.tuple ha
  obtain ⟨its2, r2, p2, _⟩ := I.tuple hb
  have i1 := Vals.ints r1
  have i2 := Vals.ints r2
  have e1 : its.toArray.size = ns.length := (List.size_toArray ..).trans i1.length
  have e2 : its2.toArray.size = ms.length := (List.size_toArray ..).trans i2.length
  have a1 : ∀ j (h1 : j < its.toArray.size), ∃ t, its.toArray[j] = .int (ns.getD j 0) t := fun j h1 => IntsAre.int_at i1 _ _ (by simp at h1; simp [h1])
  have a2 : ∀ j (h1 : j < its2.toArray.size), ∃ t, its2.toArray[j] = .int (ms.getD j 0) t := fun j h1 => IntsAre.int_at i2 _ _ (by simp at h1; simp [h1])
  have R := Ob.RcOp.tuples_ge (A := X.A) (s := s) (e := fun j => decide (ns.getD j 0 = ms.getD j 0)) (r := fun j => decide (ms.getD j 0 ≤ ns.getD j 0)) p1 p2 hu
    (fun j h1 h2 => by
      obtain ⟨t, et⟩ := a1 j h1
      obtain ⟨t', et'⟩ := a2 j h2
      have z : decide (ns.getD j 0 = ms.getD j 0) = (ns.getD j 0 == ms.getD j 0) := by
        rw [Bool.eq_iff_iff]
        simp
      rw [et, et', z]
      exact SeqAt.EqAt.int_int _ _ _ _)
    (fun j h1 h2 _ => by
      obtain ⟨t, et⟩ := a1 j h1
      obtain ⟨t', et'⟩ := a2 j h2
      rw [et, et']
      exact Ob.RcOp.ge_int _ _ _ _)
  rw [e1, e2] at R
  exact R X.prog X.w X.xe (EP X pins σ Q) ⟨.bl _, H, I, rfl, q⟩
def fGeD : D → D → Sto → Rt
  | .int i, .int j, st => okD (.bl (decide (j ≤ i))) st
  | .tup a, .tup b, st => match intsOf a, intsOf b with | some x, some y => okD (.bl (geT x y)) st | _, _ => none
  | _, _, _ => none
theorem mono_fGeD : MonoF2 fGeD := by
  intro d e st r st' h
  unfold fGeD at h
  repeat' (split at h)
  all_goals first | exact mono_ok h | cases h
def rGeD (K : PySem.W.Frag) : R2 := fun x y H Q => rI0 (fun i j => .bl (decide (j ≤ i))) x y H Q ∨ rGeT K x y H Q
theorem op_geD {X : Cx} (hu : X.A.units < cLine) : OpR X (compareOp .GtE) (rGeD X.K) := op_ge.or (op_geT hu)
theorem os_geD {Γ : Gam} : OpSim Γ (rGeD Γ.K) fGeD := fun
  | m, st, H, _, _, .int i, .int j, Q, E, s, .int _, .int _, h => .inl ⟨i, j, rfl, rfl, h.ok s (.bl _)⟩
  | m, st, H, _, _, .tup a, .tup b, Q, E, s, .tup (a := p) (vs := xs) h1 r1, .tup (a := q) (vs := ys) h2 r2, h => by
    dsimp only [fGeD] at h
    split at h
    · rename_i ns ms e1 e2
      rw [intsOf_vals r1 e1] at h1
      rw [intsOf_vals r2 e2] at h2
      exact .inr ⟨p, q, ns, ms, rfl, rfl, h1, h2, h.ok s (.bl _)⟩
    · exact h.elim
end MP
end
section
set_option maxRecDepth 100000
set_option maxHeartbeats 1000000
namespace MP
open PySem PySem.Spec PyProof.Rows L2 PySem.W PySem.Calls
/-! ### list(d.values()) -/
def vwO (p a : Addr) : HO := .ext fun h => h.IsValuesView p a
def tVals (to : TE) : TE := fun σ H Q => to σ H fun x H1 => ∃ a qs, x = .ref a ∧ H1 a = some (dctO a qs) ∧ ∀ p, H1 p = none → Q (.ref p) (upd H1 p (vwO p a))
theorem vw_new {P : Program} {w : World} {H : Hp} {h : Heap} {p a : Addr} (e : h.get? p = some { cls := .type "dict_values", data := .fields #[.ref a] }) : ObjOk P w H h p (vwO p a) :=
  ⟨⟨_, e, rfl, rfl⟩, ⟨_, e⟩, fun h1 h2 ⟨o, g, x⟩ k => ⟨o, k o g, x⟩⟩
section
variable {X : Cx} {o : Expr} {to : TE} {apos cpos : Pos}
theorem pe_vals (ho : PE X o to) (hbase : attributeBase o "values" X.env (eval o X.env) = eval o X.env) (hline : (apos.endLine == cpos.line) = true) : PE X (.Call (.Attribute o "values" apos) [] [] cpos) (tVals to) := by
  refine ⟨fun pins s σ H Q I h => ?_⟩
  refine wpAny_Call_method (T := "dict") (id := "dict.values") hbase rfl hline PySem.F.plainAttrs_dict PySem.F.slot_dict_values PySem.F.type_dict_values (thn (ho.run pins s σ H _ I h) fun u s1 ⟨x, H1, I1, rx, a, qs, ex, e, q⟩ => ?_)
  subst ex
  obtain rfl : u = Value.ref a := rx
  obtain ⟨h1, h2, xs, h3, ob, es, ep, g1, g2, g3, g4⟩ := dct_raw I1 e
  have ty : s1.TypeIs (.ref a) "dict" := ⟨ob, g1, g2.1⟩
  refine ⟨ty, fun b z => ?_, ?_⟩
  · cases z
    exact ⟨ob, g1, g2.2.1⟩
  show wpAny _ _ (callWith cpos (.builtin "dict.values") [.ref a] [] []) _ X.xe s1
  refine method_meetsIn PySem.F.slot_dict_values PySem.F.entry_dict_values rfl (PySem.evalArgs_none ⟨rfl, ty, PySem.F.args_dict_values_1 _, _, meets_dict_values_raw a h2, ⟨es, ep, ob, g1, g2, g3⟩, ?_⟩)
  exact ⟨.ref s1.heap.objs.size, _, I1.laid (t' := s1.toks) (fun b o e => Heap.get?_push_of_some _ e) (Nat.le_refl _) (vw_new (Heap.get?_push_size _ rfl)), rfl, q _ (I1.hok.fresh (Nat.le_refl _))⟩
end
def rValsL : List V → Hp → VK → Prop := fun xs H Q => ∃ p a qs, xs = [.ref p] ∧ H p = some (vwO p a) ∧ H a = some (dctO a qs) ∧ ∀ q, H q = none → Q (.ref q) (upd H q (.lst (qs.map (·.2.2))))
theorem vals_rq : ∀ {qs : List (NestedKey × Addr × V)} {xs : List (NestedKey × Addr × Value)}, Paired RQ qs xs → Vals (qs.map (·.2.2)) (xs.map (·.2.2))
  | _, _, .nil => .nil
  | _, _, .cons h t => .cons h.2.2 (vals_rq t)
section
variable {X : Cx}
theorem cr_valsL (hc : X.calm = true) : CallR X (.type "list") rValsL := by
  intro pins s σ H xs us Q I r h
  obtain ⟨p, a, qs, rfl, e1, e2, q⟩ := h
  obtain ⟨u, rfl, rx⟩ := r.one
  cases rx
  obtain ⟨hv, _, _⟩ := (show ObjOk X.prog X.w H s.heap p (vwO p a) from I.hok p _ e1)
  obtain ⟨h1, h2, xs, h3, ob, es, ep, g1, g2, g3, g4⟩ := dct_raw I e2
  have l1 : es.size = xs.length := by rw [← Array.length_toList, g4, List.length_map]
  have l2 := Paired.length h3
  refine PySem.W.kdl_call (KdlSrc.rawValues (prog := X.prog) (w := X.w) (r := p) (d := a) (es := es) (ep := ep)) (I.ok.hd hc) ⟨hv, ⟨ob, g1, g2, g3⟩⟩ (by omega) fun h' tk acc' c' kp e' it => ?_
  have ea : acc'.toList = xs.map (·.2.2) := by
    apply List.ext_getElem?
    intro j
    rw [List.getElem?_map]
    cases hj : acc'.toList[j]? with
    | none =>
      have h1 := List.getElem?_eq_none_iff.mp hj
      rw [Array.length_toList, it.1, l1] at h1
      rw [List.getElem?_eq_none h1]
      rfl
    | some v =>
      obtain ⟨hi, hv⟩ := it.2 j v (by rw [← Array.getElem?_toList]; exact hj)
      have hen : es.toList[j]? = some es[j] := by rw [Array.getElem?_toList]; exact Array.getElem?_eq_getElem hi
      rw [g4, List.getElem?_map] at hen
      cases hb : xs[j]? with
      | none => rw [hb] at hen; cases hen
      | some b =>
        rw [hb] at hen
        have z : es[j] = (⟨hashK b.1, .ref b.2.1, b.2.2⟩ : DictEntry) := (Option.some.inj hen).symm
        rw [hv, z]
        rfl
  refine ⟨.ref s.heap.objs.size, _, I.laid (t' := tk) (o := .lst (qs.map (·.2.2))) kp (Nat.le_refl _) ?_, rfl, q _ (I.hok.fresh (Nat.le_refl _))⟩
  exact ⟨by rw [List.length_map]; exact h1, acc'.toList, c', by rw [ea]; exact vals_rq h3, by rw [Array.toArray_toList]; exact e'⟩
end
def fValsL (d : D) (st : Sto) : Rt := match dctAt st d with
  | some ps => okL (ps.map (·.2)) st
  | none => none
theorem mono_fValsL : MonoF fValsL := by
  intro d st r st' h
  unfold fValsL at h
  split at h
  · exact mono_okL h
  · cases h
theorem rvL_vals {K : PySem.W.Frag} {m : Nat → Addr} {L : Nat} {H : Hp} : ∀ {ps : List (D × D)} {qs : List (NestedKey × Addr × V)}, DctR K m L H ps qs → RvL K m L H (ps.map (·.2)) (qs.map (·.2.2))
  | _, _, .nil => .nil
  | _, _, .cons _ _ r2 rs => .cons r2 (rvL_vals rs)
section
variable {X : Cx} {Γ : Gam} {W : WX} {o : Expr} {da : De} {apos cpos pos p : Pos}
theorem sim_listvals (hc : X.calm = true) (hg : Gl X "list") (hm : X.mg "list" = none) (ha : Sim X Γ W o da)
    (hbase : attributeBase o "values" X.env (eval o X.env) = eval o X.env) (hline : (apos.endLine == cpos.line) = true)
    (he : starEach [.Call (.Attribute o "values" apos) [] [] cpos] X.env = (false, eval (.Call (.Attribute o "values" apos) [] [] cpos) X.env) :: starEach [] X.env) :
    Sim X Γ W (.Call (.Name "list" p) [.Call (.Attribute o "values" apos) [] [] cpos] [] pos) (dUn fValsL da) := by
  refine ⟨mono_un ha.mono mono_fValsL, (pe_callTy (cr_valsL hc) hg hm (by decide +kernel) (pa_cons (pe_vals ha.pe hbase hline) pa_nil he) (by decide) (by decide) he rfl).imp fun σ H Q ⟨m, ls, st, s, l, h⟩ => ?_⟩
  obtain ⟨m0, ls0, st0, s0, l0, q0⟩ := tD_bind ha.mono s l mono_fValsL h
  refine ⟨m0, ls0, st0, s0, l0, q0.imp fun v H1 ⟨m1, d, st1, s1, l1, r1, q1, _⟩ => ?_⟩
  unfold fValsL at q1
  split at q1
  · rename_i ps hd
    obtain ⟨n, rfl, e0⟩ := dctAt_at hd
    cases r1
    obtain ⟨qs, g1, g2⟩ := s1.cell n _ e0
    refine ⟨m1 n, qs, rfl, g1, fun p0 hp0 => ?_⟩
    have kA : Keep H1 (upd H1 p0 (vwO p0 (m1 n))) := .new hp0
    refine ⟨p0, m1 n, qs, rfl, upd_same, by rw [upd_ne (ne_of_none g1 hp0)]; exact g1, fun q hq => ?_⟩
    have q2 : Res Γ m1 st1.length (upd H1 p0 (vwO p0 (m1 n))) (okL (ps.map (·.2)) st1) Q (fun c d H' => W c d σ H') :=
      q1.mono (Ext.refl _ _) kA (Nat.le_refl _) fun a st' z => mono_okL z
    exact q2.lstN (s1.side hp0) ((rvL_vals g2).mono (Ext.refl _ _) (Nat.le_refl _) kA) hq
  · exact q1.elim
end
/-! ### a, b = a list -/
section
variable {X : Cx} {pos : Pos}
def gLst (n : Nat) (t : TGs) : TG := fun v σ H Q => ∃ a xs, v = .ref a ∧ H a = some (.lst xs) ∧ xs.length = n ∧ t xs σ H Q
theorem pg_lst {es : List Expr} {k : Nat} {t : TGs} {n : Nat} (hc : X.calm = true) (h : PGs X es t)
    (hn : (assignEach es X.env).length = n) (hst : (assignEach es X.env).findIdx? (·.1) = none) : PG X (.Tuple es k pos) (gLst n t) := by
  refine ⟨fun pins s σ H v u Q I r hw => ?_⟩
  obtain ⟨a, xs, e1, hq, hl, hw⟩ := hw
  subst e1
  cases r
  obtain ⟨hz, its, c, rv, hp⟩ := (show ObjOk X.prog X.w H s.heap a (.lst xs) from I.hok a _ hq)
  have il : s.heap.IsList a its.toArray := ⟨_, hp, rfl, _, rfl⟩
  rw [assign_Tuple]
  refine wpAny_bind (wpAny_standAt ?_)
  unfold unpack
  rw [show (assignEach es X.env).length = its.toArray.size by rw [hn, ← hl, rv.length]; simp, hst]
  refine wpAny_bind (wpAny_holding (kun_itemsOf (I.ok.hd hc) il fun h' hx => ?_))
  have I1 : Inv X pins σ H { s with heap := h' } := I.kept (t' := s.toks) fun b o e => hx b o (Nat.ne_of_lt (Heap.lt_size e)) e
  exact h.run pins _ σ H xs _ Q I1 (by simpa using rv) hw
end
theorem asgs_lenD : ∀ {ts : List Tg} {ds : List D} {ls l : Ls}, asgs ts ds ls = some l → ds.length = ts.length := by
  intro ts
  induction ts with
  | nil =>
    intro ds ls l h
    cases ds with
    | nil => rfl
    | cons _ _ => unfold asgs at h; cases h
  | cons t ts ih =>
    intro ds ls l h
    cases ds with
    | nil => unfold asgs at h; cases h
    | cons d ds =>
      unfold asgs at h
      split at h
      · rw [List.length_cons, List.length_cons, ih h]
      · cases h
def lstD (st : Sto) : D → Option (List D)
  | .obj n => match st[n]? with
    | some (.lst false l) => some l
    | _ => none
  | _ => none
def asgLK (ts : List Tg) (ls : Ls) (d : D) (st : Sto) : Rss := match lstD st d with
  | some l => asgK (.tp ts) ls (.tup l) st
  | none => none
def dAsgL (da : De) (ts : List Tg) : Ds := fun ls st => bindS (da ls st) ls (asgLK ts ls)
theorem monoK_asgL {ts : List Tg} {ls : Ls} : MonoK (asgLK ts ls) := fun d st a l st' h => by
  unfold asgLK at h
  split at h
  · exact monoK_asg _ _ _ _ _ h
  · cases h
section
variable {X : Cx} {Γ : Gam} {W : WX} {e : Expr} {es : List Expr} {da : De} {ts : List Tg} {pos pt : Pos}
theorem ss_asgL {k n : Nat} (hc : X.calm = true) (ha : Sim X Γ W e da) (hg : PGs X es (tGs Γ ts)) (hn : (assignEach es X.env).length = n) (hst : (assignEach es X.env).findIdx? (·.1) = none) (hlen : ts.length = n)
    (hs : swapsWithSole [.Tuple es k pt] e pos.line X.env = pure false) (hw : swappedStores [.Tuple es k pt] e X.env = pure none) (h1 : (assignEach [.Tuple es k pt] X.env).map (·.2) = [assign (.Tuple es k pt) X.env]) : SimS X Γ W (.Assign [.Tuple es k pt] e pos) (dAsgL da ts) := by
  refine ⟨fun ls st a l st' h => bindS_mono (fun a s z => ha.mono ls st a s z) monoK_asgL a l st' h, (ps_asg ha.pe (pg_lst hc hg hn hst) hs hw h1).imp fun D σ H ⟨m, ls, st, s, l, h⟩ => ?_⟩
  refine tD_bindS ha.mono s l monoK_asgL h fun m1 d st1 v H1 s1 l1 r1 q _ _ _ => ?_
  unfold asgLK at q
  split at q
  · rename_i l0 hl0
    unfold lstD at hl0
    split at hl0
    · rename_i n0
      split at hl0
      · rename_i l2 e2
        cases hl0
        cases r1
        obtain ⟨vs, hv, rv⟩ := s1.lst e2
        unfold asgK at q
        split at q
        · rename_i ls1 e
          unfold asg at e
          exact ⟨m1 n0, vs, rfl, hv, by rw [← rv.length, asgs_lenD e, hlen], m1, st1.length, ls, l0, ls1, l1, rv, e, fun σ' hl hk => OutS.here q s1 hl⟩
        · exact q.elim
      · cases hl0
    · cases hl0
  · exact q.elim
end
end MP
end
section
set_option maxRecDepth 100000
set_option maxHeartbeats 1000000
namespace MP
open PySem PySem.Spec PyProof.Rows L2 PySem.W PySem.Calls
/-! ### range(a, b, c) as a value -/
def rgcB (i j c : Int) : Bool := decide (c ≠ 0) && decide (c.natAbs < 1073741824) && Builtin.Range.small i j c && decide (0 ≤ Builtin.Range.rangeSize i j c)
theorem rgcB_at {i j c : Int} (h : rgcB i j c = true) : RgC i j c (Builtin.Range.rangeSize i j c).toNat := by
  unfold rgcB at h
  simp only [Bool.and_eq_true, decide_eq_true_eq] at h
  obtain ⟨⟨⟨h1, h2⟩, h3⟩, h4⟩ := h
  exact ⟨h1, h2, h3, by omega⟩
def rRng3 : List V → Hp → VK → Prop := fun vs H Q => ∃ i j c n, vs = [V.int i, V.int j, V.int c] ∧ RgC i j c n ∧ ∀ p, H p = none → Q (.ref p) (upd H p (rgO p i c n))
theorem cr_range3 {X : Cx} : CallR X (.type "range") rRng3 := by
  intro pins s σ H vs us Q I r h
  obtain ⟨i, j, k, n, rfl, hn, q⟩ := h
  cases r with
  | cons r rr =>
    cases rr with
    | cons r' rr =>
      cases rr with
      | cons r'' rr =>
        cases rr
        obtain ⟨t, rfl⟩ := r
        obtain ⟨t', rfl⟩ := r'
        obtain ⟨t'', rfl⟩ := r''
        refine call_range_3 hn.1 ⟨.ref s.heap.objs.size, upd H s.heap.objs.size (rgO s.heap.objs.size i k n), I.laid (t' := s.toks) (fun b o e => Heap.get?_push_of_some _ e) (Nat.le_refl _) ?_, rfl, q _ (I.hok.fresh (Nat.le_refl _))⟩ (.inl (PyProof.noPylong_small hn.2.1))
        exact ⟨⟨j, t, t', t'', hn, Heap.get?_push_size _ rfl⟩, ⟨_, Heap.get?_push_size _ rfl⟩, fun h1 h2 ⟨j, t, u, v, hr, e⟩ kk => ⟨j, t, u, v, hr, kk _ e⟩⟩
def fRange3 : List D → Sto → Rt
  | [.int i, .int j, .int c], st => if rgcB i j c then some (.ok (.obj st.length), st ++ [.rng i c (Builtin.Range.rangeSize i j c).toNat]) else none
  | _, _ => none
theorem mono_fRange3 : MonoFA fRange3 := by
  intro ds st r st' h
  unfold fRange3 at h
  split at h
  · split at h
    · cases h
      rw [List.length_append]
      exact Nat.le_add_right _ _
    · cases h
  · cases h
section
variable {X : Cx} {Γ : Gam}
theorem cs_range3 : CallSim Γ rRng3 fRange3 := by
  intro m st H vs ds Q E s r h
  unfold fRange3 at h
  split at h
  · rename_i ds' st0 i j c
    split at h
    · rename_i hb
      cases r with
      | cons r1 r =>
        cases r with
        | cons r2 r =>
          cases r with
          | cons r3 r =>
            cases r
            cases r1
            cases r2
            cases r3
            refine ⟨i, j, c, _, rfl, rgcB_at hb, fun p hp => ?_⟩
            have k : Keep H (upd H p (rgO p i c (Builtin.Range.rangeSize i j c).toNat)) := .new hp
            have e : Ext m st.length (extM m st.length p) := extM_ext
            have q := h.2 (extM m st.length p) (upd H p (rgO p i c (Builtin.Range.rangeSize i j c).toNat)) (.ref p) e k (s.push hp upd_same)
            refine q ?_
            have hl : (st ++ [Cell.rng i c (Builtin.Range.rangeSize i j c).toNat]).length = st.length + 1 := by rw [List.length_append, List.length_singleton]
            have z := Rv.obj (K := Γ.K) (m := extM m st.length p) (H := upd H p (rgO p i c (Builtin.Range.rangeSize i j c).toNat)) (n := st.length) (L := st.length + 1) (Nat.lt_succ_self _)
            rw [extM_new] at z
            rw [hl]
            exact z
    · exact h.elim
  · exact h.elim
end
end MP
end
section
set_option maxRecDepth 100000
set_option maxHeartbeats 1000000
namespace MP
open PySem PySem.Spec PyProof.Rows L2 PySem.W PySem.Calls
/-! ### dicts from numbers to numbers -/
abbrev kiP (p : Int × Int) : Key × V := (Sum.inl p.1, V.int p.2)
def lookI (ps : List (Int × Int)) (k : Int) : Option Int := (ps.find? fun p => decide (p.1 = k)).map (·.2)
def putI (ps : List (Int × Int)) (k v : Int) : List (Int × Int) := if (ps.any fun p => decide (p.1 = k)) = true then ps.map (fun p => if p.1 = k then (p.1, v) else p) else ps ++ [(k, v)]
theorem inl_iff (a b : Int) : (Sum.inl a : Key) = Sum.inl b ↔ a = b := ⟨fun h => by injection h, fun h => by rw [h]⟩
theorem look_kiP (ps : List (Int × Int)) (k : Int) : valV (ps.map kiP) (Sum.inl k) = (lookI ps k).map V.int := by
  unfold valV lookI
  induction ps with
  | nil => rfl
  | cons p ps ih =>
    rw [List.map_cons, List.find?_cons, List.find?_cons]
    by_cases h : p.1 = k
    · have e : decide ((kiP p).1 = Sum.inl k) = true := decide_eq_true ((inl_iff _ _).mpr h)
      rw [e, decide_eq_true h]
      rfl
    · have e : decide ((kiP p).1 = Sum.inl k) = false := decide_eq_false fun z => h ((inl_iff _ _).mp z)
      rw [e, decide_eq_false h]
      exact ih
theorem any_kiP (ps : List (Int × Int)) (k : Int) : ((ps.map kiP).any fun kv => decide (kv.1 = Sum.inl k)) = ps.any fun p => decide (p.1 = k) := by
  rw [List.any_map]
  congr 1
  funext p
  exact decide_eq_decide.mpr (inl_iff _ _)
theorem put_kiP (ps : List (Int × Int)) (k v : Int) : putK (ps.map kiP) (Sum.inl k) (V.int v) = (putI ps k v).map kiP := by
  unfold putK putI
  rw [any_kiP]
  split
  · rw [List.map_map, List.map_map]
    refine List.map_congr_left fun p _ => ?_
    show (if (Sum.inl p.1 : Key) = Sum.inl k then _ else _) = _
    by_cases h : p.1 = k
    · rw [if_pos ((inl_iff _ _).mpr h)]
      show _ = kiP (if p.1 = k then (p.1, v) else p)
      rw [if_pos h]
    · rw [if_neg fun z => h ((inl_iff _ _).mp z)]
      show _ = kiP (if p.1 = k then (p.1, v) else p)
      rw [if_neg h]
  · rw [List.map_append]
    rfl
def dkiAt (st : Sto) : D → Option (List (Int × Int))
  | .obj n => match st[n]? with
    | some (.dki ps) => some ps
    | _ => none
  | _ => none
theorem dkiAt_at {st : Sto} {d : D} {ps : List (Int × Int)} (h : dkiAt st d = some ps) : ∃ n, d = .obj n ∧ st[n]? = some (.dki ps) := by
  unfold dkiAt at h
  split at h
  · rename_i n
    split at h
    · rename_i e
      cases h
      exact ⟨n, rfl, e⟩
    · cases h
  · cases h
/-! {} -/
def dDNewK : De := fun _ st => some (.ok (.obj st.length), st ++ [.dki []])
theorem mono_dnewK : Mono dDNewK := fun ls st r st' h => by
  cases h
  rw [List.length_append]
  exact Nat.le_add_right _ _
section
variable {X : Cx} {Γ : Gam} {W : WX} {o e f value : Expr} {da db dc : De} {pos pos' apos cpos : Pos}
theorem sim_dnewK : Sim X Γ W (.Dict [] [] pos) dDNewK := by
  refine ⟨mono_dnewK, pe_dnewK.imp fun σ H Q ⟨m, ls, st, s, l, h⟩ p hp => ?_⟩
  have k : Keep H (upd H p (.dK [])) := .new hp
  have e : Ext m st.length (extM m st.length p) := extM_ext
  have q := h.2 (extM m st.length p) (upd H p (.dK [])) (.ref p) e k (s.push hp upd_same)
  refine q ?_
  have hl : (st ++ [Cell.dki []]).length = st.length + 1 := by rw [List.length_append, List.length_singleton]
  have z := Rv.obj (K := Γ.K) (m := extM m st.length p) (H := upd H p (.dK [])) (n := st.length) (L := st.length + 1) (Nat.lt_succ_self _)
  rw [extM_new] at z
  rw [hl]
  exact z
/-! d[k] -/
def ixK (x : D) (y : D) (st : Sto) : Rt := match dkiAt st x, y with
  | some ps, .int k => match lookI ps k with
    | some v => okD (.int v) st
    | none => none
  | _, _ => none
def dIxK (da db : De) : De := fun ls st => bindR (da ls st) fun x st1 => bindR (db ls st1) fun y st2 => ixK x y st2
theorem mono_ixK {x : D} : MonoF (ixK x) := by
  intro y st r st' h
  unfold ixK at h
  repeat' (split at h)
  all_goals first | exact mono_ok h | cases h
theorem sim_ixK (hu : X.A.units + 65 < cLine) (ho : Sim X Γ W o da) (hi : Sim X Γ W e db) (hs : NoSl e) : Sim X Γ W (.Subscript o e pos) (dIxK da db) := by
  have m1 : ∀ ls, MonoF fun x st1 => bindR (db ls st1) fun y st2 => ixK x y st2 := fun ls x st r st' h => bindR_mono (fun a s z => hi.mono ls st a s z) mono_ixK r st' h
  refine ⟨fun ls st r st' h => bindR_mono (fun a s z => ho.mono ls st a s z) (m1 ls) r st' h, (pe_dget (by omega) ho.pe hi.pe hs).imp fun σ H Q ⟨m, ls, st, s, l, h⟩ => ?_⟩
  obtain ⟨m0, ls0, st0, s0, l0, q0⟩ := tD_bind ho.mono s l (m1 ls) h
  refine ⟨m0, ls0, st0, s0, l0, q0.imp fun x H1 ⟨m1', d, st1, s1, l1, r1, q1, _⟩ => ?_⟩
  obtain ⟨m0, ls0, st0, s0, l0, q0⟩ := tD_bind hi.mono s1 l1 mono_ixK q1
  refine ⟨m0, ls0, st0, s0, l0, q0.imp fun y H2 ⟨m2, d2, st2, s2, l2, r2, q2, hl2, e2, k2⟩ => ?_⟩
  unfold ixK at q2
  split at q2
  · rename_i ps k hd
    obtain ⟨n, rfl, e0⟩ := dkiAt_at hd
    have r1' := r1.mono e2 hl2 k2
    cases r1'
    cases r2
    split at q2
    · rename_i v hv
      have hc : H2 (m2 n) = some (.dK (ps.map kiP)) := s2.cell n _ e0
      have g := DGet.k (k := Sum.inl k) hc
      rw [look_kiP, hv] at g
      exact ⟨m2 n, .int v, rfl, g, q2.ok s2 (.int v)⟩
    · exact q2.elim
  · exact q2.elim
/-! d.get(k, x) -/
def getK (x y z : D) (st : Sto) : Rt := match dkiAt st x, y, z with
  | some ps, .int k, .int v => okD (.int ((lookI ps k).getD v)) st
  | _, _, _ => none
theorem mono_getK {x y : D} : MonoF (getK x y) := by
  intro z st r st' h
  unfold getK at h
  split at h
  · exact mono_ok h
  · cases h
def getK1 (db dc : De) (ls : Ls) (x : D) (st1 : Sto) : Rt := match dkiAt st1 x with
  | some _ => bindR (db ls st1) fun y st2 => bindR (dc ls st2) fun z st3 => getK x y z st3
  | none => none
def dGetK (da db dc : De) : De := fun ls st => bindR (da ls st) (getK1 db dc ls)
theorem sim_getK (hu : X.A.units + 65 < cLine) (ho : Sim X Γ W o da) (hi : Sim X Γ W e db) (hf : Sim X Γ W f dc) (m : M2 X o "get" apos e f cpos) : Sim X Γ W (.Call (.Attribute o "get" apos) [e, f] [] cpos) (dGetK da db dc) := by
  have m2 : ∀ ls x, MonoF fun y st2 => bindR (dc ls st2) fun z st3 => getK x y z st3 := fun ls x y st r st' h => bindR_mono (fun a s z => hf.mono ls st a s z) mono_getK r st' h
  have m1 : ∀ ls, MonoF (getK1 db dc ls) := fun ls x st r st' h => by
    unfold getK1 at h
    split at h
    · exact bindR_mono (fun a s z => hi.mono ls st a s z) (m2 ls x) r st' h
    · cases h
  refine ⟨fun ls st r st' h => bindR_mono (fun a s z => ho.mono ls st a s z) (m1 ls) r st' h, (pe_dget2 (by omega) ho.pe hi.pe hf.pe m).imp fun σ H Q ⟨m, ls, st, s, l, h⟩ => ?_⟩
  obtain ⟨m0, ls0, st0, s0, l0, q0⟩ := tD_bind ho.mono s l (m1 ls) h
  refine ⟨m0, ls0, st0, s0, l0, q0.imp fun x H1 ⟨m1', d, st1, s1, l1, r1, q1, _⟩ => ?_⟩
  unfold getK1 at q1
  split at q1
  · rename_i ps0 hd0
    obtain ⟨n, rfl, e0⟩ := dkiAt_at hd0
    have hc0 : H1 (m1' n) = some (.dK (ps0.map kiP)) := s1.cell n _ e0
    have r1c := r1
    cases r1c
    refine ⟨m1' n, rfl, .inl ⟨_, .inl hc0⟩, ?_⟩
    obtain ⟨m0, ls0, st0, s0, l0, q0⟩ := tD_bind hi.mono s1 l1 (m2 ls _) q1
    refine ⟨m0, ls0, st0, s0, l0, q0.imp fun y H2 ⟨m2', d2, st2, s2, l2, r2, q2, hl2, e2, k2⟩ => ?_⟩
    obtain ⟨m0, ls0, st0, s0, l0, q0⟩ := tD_bind hf.mono s2 l2 mono_getK q2
    refine ⟨m0, ls0, st0, s0, l0, q0.imp fun z H3 ⟨m3, d3, st3, s3, l3, r3, q3, hl3, e3, k3⟩ => ?_⟩
    unfold getK at q3
    split at q3
    · rename_i ps k v hd _
      obtain ⟨n', en, e4⟩ := dkiAt_at hd
      cases en
      have r1' := (r1.mono e2 hl2 k2).mono e3 hl3 k3
      have r2' := r2.mono e3 hl3 k3
      cases r2'
      cases r3
      have hn : n < st1.length := get_lt e0
      have em : m3 n = m1' n := (e3 n (Nat.lt_of_lt_of_le hn hl2)).trans (e2 n hn)
      have hc : H3 (m3 n) = some (.dK (ps.map kiP)) := s3.cell n _ e4
      rw [em] at hc
      have g := DGet.k (k := Sum.inl k) hc
      rw [look_kiP] at g
      refine ⟨_, g, ?_⟩
      have ev : ((lookI ps k).map V.int).getD (V.int v) = V.int ((lookI ps k).getD v) := by cases lookI ps k <;> rfl
      rw [ev]
      exact q3.ok s3 (.int _)
    · exact q3.elim
  · exact q1.elim
/-! d[k] = v -/
def setK3 (ls : Ls) (v x y : D) (st : Sto) : Rss := match v, x, dkiAt st x, y with
  | .int j, .obj n, some ps, .int k => if ps.length < LINE then some (.next, ls, st.set n (.dki (putI ps k j))) else none
  | _, _, _, _ => none
def dSetK (dv do_ di_ : De) : Ds := fun ls st => bindS (dv ls st) ls fun v st1 => bindS (do_ ls st1) ls fun x st2 => bindS (di_ ls st2) ls (setK3 ls v x)
theorem monoK_setK3 {ls : Ls} {v x : D} : MonoK (setK3 ls v x) := fun y st a l st' h => by
  unfold setK3 at h
  split at h
  · split at h
    · cases h
      rw [List.length_set]
      exact Nat.le_refl _
    · cases h
  · cases h
theorem ss_setK (hu : X.A.units + 65 < cLine) (hv : Sim X Γ W value dc) (ho : Sim X Γ W o da) (hi : Sim X Γ W e db) (hs : swapsWith value (some (.Subscript o e pos')) pos.line X.env = pure false) : SimS X Γ W (.Assign [.Subscript o e pos'] value pos) (dSetK dc da db) := by
  have m2 : ∀ (ls : Ls) (v : D), MonoK fun x st2 => bindS (db ls st2) ls (setK3 ls v x) := fun ls v x st a l st' h => bindS_mono (fun a s z => hi.mono ls st a s z) monoK_setK3 a l st' h
  have m1 : ∀ (ls : Ls), MonoK fun v st1 => bindS (da ls st1) ls fun x st2 => bindS (db ls st2) ls (setK3 ls v x) := fun ls v st a l st' h => bindS_mono (fun a s z => ho.mono ls st a s z) (m2 ls v) a l st' h
  refine ⟨fun ls st a l st' h => bindS_mono (fun a s z => hv.mono ls st a s z) (m1 ls) a l st' h, (ps_dput (by omega) ho.pe hi.pe hv.pe hs).imp fun D σ H ⟨m, ls, st, s, l, h⟩ => ?_⟩
  refine tD_bindS hv.mono s l (m1 ls) h fun m1' v st1 vv H1 s1 l1 r1 q1 _ _ _ => ?_
  refine tD_bindS ho.mono s1 l1 (m2 ls v) q1 fun m2' x st2 xv H2 s2 l2 r2 q2 hl2 e2 k2 => ?_
  refine tD_bindS hi.mono s2 l2 monoK_setK3 q2 fun m3 y st3 yv H3 s3 l3 r3 q3 hl3 e3 k3 => ?_
  unfold setK3 at q3
  split at q3
  · rename_i j n ps k hd
    split at q3
    · rename_i hl
      obtain ⟨n', en, e0⟩ := dkiAt_at hd
      cases en
      have r2' := r2.mono e3 hl3 k3
      cases r2'
      cases r3
      have r1' := (r1.mono e2 hl2 k2).mono e3 hl3 k3
      cases r1'
      have hc : H3 (m3 n) = some (.dK (ps.map kiP)) := s3.cell n _ e0
      have g := DPut.k (k := Sum.inl k) (v := V.int j) hc (by rw [List.length_map]; exact line_lt hl)
      rw [put_kiP] at g
      have k4 : Keep H3 (upd H3 (m3 n) (.dK ((putI ps k j).map kiP))) := .put hc .dK
      have s4 := s3.put (o := .dK ((putI ps k j).map kiP)) (c' := .dki (putI ps k j)) e0 rfl rfl upd_same
      refine ⟨m3 n, _, rfl, g, q3.2 m3 _ _ (Ext.refl _ _) k4 s4 ?_⟩
      rw [List.length_set]
      exact l3.mono (Ext.refl _ _) (Nat.le_refl _) k4
    · exact q3.elim
  · exact q3.elim
end
end MP
end
section
set_option maxRecDepth 100000
set_option maxHeartbeats 1000000
/-! lines over a grid of cells: pure mathematics, no program -/
namespace MG
open MP

/-- the number of the cell at the place p of B, from x on, dx in all -/
def cN (x dx h B p : Int) : Int := (x * B + dx * p + h * B) / (2 * h * B)
section
variable {x dx h B p p1 p2 k q : Int}
theorem den_pos (hh : 0 < h) (hB : 0 < B) : 0 < 2 * h * B := Int.mul_pos (by omega) hB
theorem cN_lt (hh : 0 < h) (hB : 0 < B) : cN x dx h B p < k ↔ x * B + dx * p + h * B < k * (2 * h * B) := by
  unfold cN
  exact Int.ediv_lt_iff_lt_mul (den_pos hh hB)
theorem le_cN (hh : 0 < h) (hB : 0 < B) : k ≤ cN x dx h B p ↔ k * (2 * h * B) ≤ x * B + dx * p + h * B := by
  unfold cN
  exact Int.le_ediv_iff_mul_le (den_pos hh hB)
theorem cN_mono (hh : 0 < h) (hB : 0 < B) (hd : 0 ≤ dx) (hp : p1 ≤ p2) : cN x dx h B p1 ≤ cN x dx h B p2 := by
  unfold cN
  refine Int.ediv_le_ediv (den_pos hh hB) ?_
  have := Int.mul_le_mul_of_nonneg_left hp hd
  omega
theorem cN_anti (hh : 0 < h) (hB : 0 < B) (hd : dx ≤ 0) (hp : p1 ≤ p2) : cN x dx h B p2 ≤ cN x dx h B p1 := by
  unfold cN
  refine Int.ediv_le_ediv (den_pos hh hB) ?_
  have := Int.mul_le_mul_of_nonpos_left hd hp
  omega
/-- a border is crossed upwards on the way forth -/
theorem cross_pos (hh : 0 < h) (hB : 0 < B) (hd : 0 < dx) (hq : B = dx * q) (h1 : cN x dx h B p1 < k) (h2 : k ≤ cN x dx h B p2) : p1 < (2 * h * k - h - x) * q ∧ (2 * h * k - h - x) * q ≤ p2 := by
  rw [cN_lt hh hB] at h1
  rw [le_cN hh hB] at h2
  have e1 : dx * ((2 * h * k - h - x) * q) = k * (2 * h * B) - x * B - h * B := by rw [hq]; grind
  refine ⟨Int.lt_of_mul_lt_mul_left (a := dx) ?_ (Int.le_of_lt hd), Int.le_of_mul_le_mul_left (a := dx) ?_ hd⟩
  · rw [e1]; omega
  · rw [e1]; omega
/-- a border is crossed downwards on the way forth -/
theorem cross_neg (hh : 0 < h) (hB : 0 < B) (hd : dx < 0) (hq : B = -dx * q) (h1 : cN x dx h B p1 < k) (h2 : k ≤ cN x dx h B p2) : p2 ≤ (x - (2 * h * k - h)) * q ∧ (x - (2 * h * k - h)) * q < p1 := by
  rw [cN_lt hh hB] at h1
  rw [le_cN hh hB] at h2
  have e1 : -dx * ((x - (2 * h * k - h)) * q) = -(k * (2 * h * B)) + x * B + h * B := by rw [hq]; grind
  have hd' : 0 < -dx := by omega
  have m1 : -dx * p1 = -(dx * p1) := Int.neg_mul ..
  have m2 : -dx * p2 = -(dx * p2) := Int.neg_mul ..
  refine ⟨Int.le_of_mul_le_mul_left (a := -dx) ?_ hd', Int.lt_of_mul_lt_mul_left (a := -dx) ?_ (Int.le_of_lt hd')⟩
  · rw [e1, m2]; omega
  · rw [e1, m1]; omega
theorem cN_flat (hd : dx = 0) : cN x dx h B p1 = cN x dx h B p2 := by
  subst hd
  unfold cN
  rw [Int.zero_mul, Int.zero_mul]
end
/-- where the border below the cell k is met, as a place -/
def bor (x dx h q k : Int) : Int := if 0 < dx then (2 * h * k - h - x) * q else (x - (2 * h * k - h)) * q
/-- how one number goes: dx of it in all, B = |dx| q -/
structure Way (dx B q : Int) : Prop where
  pos : 0 < dx → B = dx * q
  neg : dx < 0 → B = -dx * q
section
variable {x dx h B p p1 p2 k q : Int}
/-- two places with unlike numbers have a border between: at the lower one's end, or there -/
theorem cross (hh : 0 < h) (hB : 0 < B) (w : Way dx B q) (h1 : cN x dx h B p1 < k) (h2 : k ≤ cN x dx h B p2) :
    (0 < dx ∧ p1 < bor x dx h q k ∧ bor x dx h q k ≤ p2) ∨ (dx < 0 ∧ p2 ≤ bor x dx h q k ∧ bor x dx h q k < p1) := by
  rcases Int.lt_trichotomy dx 0 with d | d | d
  · obtain ⟨a, b⟩ := cross_neg hh hB d (w.neg d) h1 h2
    unfold bor
    rw [if_neg (by omega)]
    exact .inr ⟨d, a, b⟩
  · have := cN_flat (x := x) (h := h) (B := B) (p1 := p1) (p2 := p2) d
    omega
  · obtain ⟨a, b⟩ := cross_pos hh hB d (w.pos d) h1 h2
    unfold bor
    rw [if_pos d]
    exact .inl ⟨d, a, b⟩
/-- between two places a, b with no border strictly inside, the numbers are one -/
theorem same_in (hh : 0 < h) (hB : 0 < B) (w : Way dx B q) {a b : Int} (hp1 : a < p1) (hp2 : p1 < b) (hp3 : a < p2) (hp4 : p2 < b)
    (no : ∀ k, dx ≠ 0 → (k = cN x dx h B p1 ∨ k = cN x dx h B p1 + 1) → ¬ (a < bor x dx h q k ∧ bor x dx h q k < b)) : cN x dx h B p2 = cN x dx h B p1 := by
  rcases Int.lt_trichotomy (cN x dx h B p2) (cN x dx h B p1) with c | c | c
  · rcases cross (x := x) (k := cN x dx h B p1) hh hB w c (Int.le_refl _) with ⟨d, u, v⟩ | ⟨d, u, v⟩
    · exact absurd ⟨by omega, by omega⟩ (no _ (by omega) (.inl rfl))
    · exact absurd ⟨by omega, by omega⟩ (no _ (by omega) (.inl rfl))
  · exact c
  · rcases cross (x := x) (k := cN x dx h B p1 + 1) (p1 := p1) (p2 := p2) hh hB w (by omega) (by omega) with ⟨d, u, v⟩ | ⟨d, u, v⟩
    · exact absurd ⟨by omega, by omega⟩ (no _ (by omega) (.inr rfl))
    · exact absurd ⟨by omega, by omega⟩ (no _ (by omega) (.inr rfl))
end
/-! ### the list of stops, the places amid them -/
/-- the places amid stops, and behind each the next stop -/
def mom : List Int → List Int
  | a :: b :: r => (a + b) / 2 :: b :: mom (b :: r)
  | _ => []
theorem mom_cons2 (a b : Int) (r : List Int) : mom (a :: b :: r) = (a + b) / 2 :: b :: mom (b :: r) := rfl
/-- all stops even: each place between the first and the last is a stop, or lies between two neighbours -/
theorem mom_cover {p : Int} : ∀ {l : List Int} {a : Int}, (a :: l).Pairwise (· < ·) → (∀ e ∈ a :: l, e % 2 = 0) → a < p → (∃ z ∈ l, p ≤ z) →
    p ∈ mom (a :: l) ∨ ∃ u v, u ∈ a :: l ∧ v ∈ l ∧ u < p ∧ p < v ∧ (∀ e ∈ a :: l, ¬ (u < e ∧ e < v)) ∧ (u + v) / 2 ∈ mom (a :: l) ∧ u < (u + v) / 2 ∧ (u + v) / 2 < v
  | [], a, _, _, _, h => by obtain ⟨z, hz, _⟩ := h; simp at hz
  | b :: l, a, hs, he, ha, hz => by
    obtain ⟨s1, s2⟩ := List.pairwise_cons.mp hs
    have hab := s1 b List.mem_cons_self
    have e1 := he a List.mem_cons_self
    have e2 := he b (List.mem_cons_of_mem _ List.mem_cons_self)
    rw [mom_cons2]
    rcases Int.lt_trichotomy p b with c | c | c
    · refine .inr ⟨a, b, List.mem_cons_self, List.mem_cons_self, ha, c, fun e hm ⟨z1, z2⟩ => ?_, List.mem_cons_self, by omega, by omega⟩
      rcases List.mem_cons.mp hm with q | q
      · omega
      · rcases List.mem_cons.mp q with q | q
        · omega
        · have := (List.pairwise_cons.mp s2).1 e q
          omega
    · subst c
      exact .inl (List.mem_cons_of_mem _ List.mem_cons_self)
    · obtain ⟨z, hz, hpz⟩ := hz
      have hz' : z ∈ l := by
        rcases List.mem_cons.mp hz with q | q
        · omega
        · exact q
      rcases mom_cover s2 (fun e h => he e (List.mem_cons_of_mem _ h)) c ⟨z, hz', hpz⟩ with m | ⟨u, v, m1, m2, m3, m4, m5, m6, m7, m8⟩
      · exact .inl (List.mem_cons_of_mem _ (List.mem_cons_of_mem _ m))
      · refine .inr ⟨u, v, List.mem_cons_of_mem _ m1, List.mem_cons_of_mem _ m2, m3, m4, fun e hm => ?_, List.mem_cons_of_mem _ (List.mem_cons_of_mem _ m6), m7, m8⟩
        rcases List.mem_cons.mp hm with q | q
        · subst q
          intro z
          rcases List.mem_cons.mp m1 with q2 | q2
          · omega
          · have := (List.pairwise_cons.mp s2).1 u q2
            omega
        · exact m5 e q
/-- they ascend -/
theorem mom_sorted : ∀ {l : List Int} {a : Int}, (a :: l).Pairwise (· < ·) → (∀ e ∈ a :: l, e % 2 = 0) → (mom (a :: l)).Pairwise (· < ·) ∧ ∀ e ∈ mom (a :: l), a < e
  | [], a, _, _ => ⟨List.Pairwise.nil, fun e h => by simp [mom] at h⟩
  | b :: l, a, hs, he => by
    obtain ⟨s1, s2⟩ := List.pairwise_cons.mp hs
    have hab := s1 b List.mem_cons_self
    have e1 := he a List.mem_cons_self
    have e2 := he b (List.mem_cons_of_mem _ List.mem_cons_self)
    obtain ⟨i1, i2⟩ := mom_sorted s2 fun e h => he e (List.mem_cons_of_mem _ h)
    rw [mom_cons2]
    have n1 : ∀ e ∈ mom (b :: l), b < e := i2
    refine ⟨List.pairwise_cons.mpr ⟨fun e h => ?_, List.pairwise_cons.mpr ⟨n1, i1⟩⟩, fun e h => ?_⟩
    · rcases List.mem_cons.mp h with q | q
      · omega
      · have := n1 e q
        omega
    · rcases List.mem_cons.mp h with q | q
      · omega
      · rcases List.mem_cons.mp q with q | q
        · omega
        · have := n1 e q
          omega
end MG
end
section
set_option maxRecDepth 100000
set_option maxHeartbeats 1000000
namespace MG
open MP
abbrev C := Int × Int
/-- a line from (x, y), (dx, dy) in all, in B parts, over cells of the half h -/
structure Line where
  (x y dx dy h B qx qy : Int)
  hh : 0 < h
  hB : 0 < B
  wx : Way dx B qx
  wy : Way dy B qy
namespace Line
variable (l : Line)
def cell (p : Int) : C := (cN l.x l.dx l.h l.B p, cN l.y l.dy l.h l.B p)
theorem mono1 {p q : Int} (h : p ≤ q) : (0 ≤ l.dx → (l.cell p).1 ≤ (l.cell q).1) ∧ (l.dx ≤ 0 → (l.cell q).1 ≤ (l.cell p).1) := ⟨fun d => cN_mono l.hh l.hB d h, fun d => cN_anti l.hh l.hB d h⟩
theorem mono2 {p q : Int} (h : p ≤ q) : (0 ≤ l.dy → (l.cell p).2 ≤ (l.cell q).2) ∧ (l.dy ≤ 0 → (l.cell q).2 ≤ (l.cell p).2) := ⟨fun d => cN_mono l.hh l.hB d h, fun d => cN_anti l.hh l.hB d h⟩
/-- the line doesn't turn back -/
theorem noback {p1 p2 p3 p4 : Int} {a b : C} (h1 : p1 ≤ p2) (h2 : p3 ≤ p4) (e1 : l.cell p1 = a) (e2 : l.cell p2 = b) (e3 : l.cell p3 = b) (e4 : l.cell p4 = a) : a = b := by
  have x1 := l.mono1 h1
  have x2 := l.mono1 h2
  have y1 := l.mono2 h1
  have y2 := l.mono2 h2
  rw [e1, e2] at x1 y1
  rw [e3, e4] at x2 y2
  refine Prod.ext ?_ ?_
  · rcases Int.le_total 0 l.dx with d | d
    · have := x1.1 d; have := x2.1 d; omega
    · have := x1.2 d; have := x2.2 d; omega
  · rcases Int.le_total 0 l.dy with d | d
    · have := y1.1 d; have := y2.1 d; omega
    · have := y1.2 d; have := y2.2 d; omega
/-- stops with all borders near the cell of p meet that cell -/
theorem cover {p : Int} {s : List Int} (hs : (0 :: s).Pairwise (· < ·)) (he : ∀ e ∈ 0 :: s, e % 2 = 0) (hz : l.B ∈ s) (h0 : 0 ≤ p) (h1 : p ≤ l.B)
    (bx : ∀ k, l.dx ≠ 0 → (k = (l.cell p).1 ∨ k = (l.cell p).1 + 1) → 0 < bor l.x l.dx l.h l.qx k → bor l.x l.dx l.h l.qx k < l.B → bor l.x l.dx l.h l.qx k ∈ s)
    (by_ : ∀ k, l.dy ≠ 0 → (k = (l.cell p).2 ∨ k = (l.cell p).2 + 1) → 0 < bor l.y l.dy l.h l.qy k → bor l.y l.dy l.h l.qy k < l.B → bor l.y l.dy l.h l.qy k ∈ s) :
    ∃ m ∈ 0 :: mom (0 :: s), l.cell m = l.cell p := by
  rcases Int.lt_or_eq_of_le h0 with h0 | h0
  · rcases mom_cover hs he h0 ⟨l.B, hz, h1⟩ with m | ⟨u, v, m1, m2, m3, m4, m5, m6, m7, m8⟩
    · exact ⟨p, List.mem_cons_of_mem _ m, rfl⟩
    · refine ⟨_, List.mem_cons_of_mem _ m6, ?_⟩
      have hu : 0 ≤ u := by
        rcases List.mem_cons.mp m1 with q | q
        · omega
        · have := (List.pairwise_cons.mp hs).1 u q; omega
      have hv : v ≤ l.B := by
        rcases Int.lt_or_le l.B v with c | c
        · exact absurd ⟨by omega, c⟩ (m5 l.B (List.mem_cons_of_mem _ hz))
        · exact c
      refine Prod.ext ?_ ?_
      · refine same_in l.hh l.hB l.wx m3 m4 m7 m8 fun k hd hk ⟨a, b⟩ => m5 _ (List.mem_cons_of_mem _ (bx k hd hk (by omega) (by omega))) ⟨a, b⟩
      · refine same_in l.hh l.hB l.wy m3 m4 m7 m8 fun k hd hk ⟨a, b⟩ => m5 _ (List.mem_cons_of_mem _ (by_ k hd hk (by omega) (by omega))) ⟨a, b⟩
  · exact ⟨0, List.mem_cons_self, by rw [h0]⟩
end Line
/-! ### cells behind one another that are the same, taken once -/
def dedA (acc : List C) : List C → List C
  | [] => acc
  | c :: r => dedA (if acc.getLast? = some c then acc else acc ++ [c]) r
/-- a comes ahead of b, and isn't b -/
def Bef (l : Line) (a b : C) : Prop := a ≠ b ∧ ∃ m1 m2, m1 ≤ m2 ∧ l.cell m1 = a ∧ l.cell m2 = b
theorem ded_ok (l : Line) : ∀ {ms : List Int} {acc : List C} {m : Int}, (m :: ms).Pairwise (· < ·) → acc.Pairwise (Bef l) → (∀ a ∈ acc, ∃ m1, m1 ≤ m ∧ l.cell m1 = a) → acc.getLast? = some (l.cell m) →
    (dedA acc (ms.map l.cell)).Pairwise (Bef l) ∧ ∀ c, c ∈ dedA acc (ms.map l.cell) ↔ c ∈ acc ∨ ∃ m ∈ ms, l.cell m = c
  | [], acc, m, _, h2, _, _ => ⟨h2, fun c => by simp [dedA]⟩
  | n :: ms, acc, m, h1, h2, h3, h4 => by
    obtain ⟨a1, a2⟩ := List.pairwise_cons.mp h1
    have hn := a1 n List.mem_cons_self
    rw [List.map_cons, dedA]
    by_cases e : acc.getLast? = some (l.cell n)
    · rw [if_pos e]
      obtain ⟨i1, i2⟩ := ded_ok l a2 h2 (fun a ha => let ⟨m1, b1, b2⟩ := h3 a ha; ⟨m1, by omega, b2⟩) e
      refine ⟨i1, fun c => (i2 c).trans ?_⟩
      constructor
      · rintro (q | ⟨z, z1, z2⟩)
        · exact .inl q
        · exact .inr ⟨z, List.mem_cons_of_mem _ z1, z2⟩
      · rintro (q | ⟨z, z1, z2⟩)
        · exact .inl q
        · rcases List.mem_cons.mp z1 with q | q
          · subst q
            rw [z2] at e
            exact .inl (List.mem_of_getLast? e)
          · exact .inr ⟨z, q, z2⟩
    · rw [if_neg e]
      have ne : l.cell m ≠ l.cell n := fun z => e (by rw [h4, z])
      have bef : ∀ a ∈ acc, Bef l a (l.cell n) := fun a ha => by
        obtain ⟨m1, b1, b2⟩ := h3 a ha
        refine ⟨fun z => ?_, m1, n, by omega, b2, rfl⟩
        subst z
        have := l.noback (p1 := m1) (p2 := m) (p3 := m) (p4 := n) (a := l.cell n) (b := l.cell m) b1 (by omega) b2 rfl rfl rfl
        exact ne this.symm
      obtain ⟨i1, i2⟩ := ded_ok l (acc := acc ++ [l.cell n]) a2 (List.pairwise_append.mpr ⟨h2, List.pairwise_singleton _ _, fun a ha b hb => by rw [List.mem_singleton.mp hb]; exact bef a ha⟩) (fun a ha => by
        rcases List.mem_append.mp ha with q | q
        · obtain ⟨m1, b1, b2⟩ := h3 a q
          exact ⟨m1, by omega, b2⟩
        · exact ⟨n, Int.le_refl _, (List.mem_singleton.mp q).symm⟩) (by simp)
      refine ⟨i1, fun c => (i2 c).trans ?_⟩
      constructor
      · rintro (q | ⟨z, z1, z2⟩)
        · rcases List.mem_append.mp q with q | q
          · exact .inl q
          · exact .inr ⟨n, List.mem_cons_self, (List.mem_singleton.mp q).symm⟩
        · exact .inr ⟨z, List.mem_cons_of_mem _ z1, z2⟩
      · rintro (q | ⟨z, z1, z2⟩)
        · exact .inl (List.mem_append_left _ q)
        · rcases List.mem_cons.mp z1 with q | q
          · subst q
            exact .inl (List.mem_append_right _ (by rw [z2]; exact List.mem_singleton.mpr rfl))
          · exact .inr ⟨z, q, z2⟩
/-- all cells of ascending places, in order, each once -/
theorem ded_all (l : Line) {m : Int} {ms : List Int} (h : (m :: ms).Pairwise (· < ·)) : (dedA [] ((m :: ms).map l.cell)).Pairwise (Bef l) ∧ ∀ c, c ∈ dedA [] ((m :: ms).map l.cell) ↔ ∃ z ∈ m :: ms, l.cell z = c := by
  have e : dedA [] ((m :: ms).map l.cell) = dedA [l.cell m] (ms.map l.cell) := by
    rw [List.map_cons, dedA]
    rfl
  rw [e]
  obtain ⟨i1, i2⟩ := ded_ok l (acc := [l.cell m]) h (List.pairwise_singleton _ _) (fun a ha => ⟨m, Int.le_refl _, (List.mem_singleton.mp ha).symm⟩) rfl
  refine ⟨i1, fun c => (i2 c).trans ?_⟩
  simp only [List.mem_cons, exists_eq_or_imp, List.not_mem_nil, or_false]
  exact or_congr_left eq_comm
/-- a list in strict order of a number is known by its members -/
theorem key_uniq {α : Type} {P : α → Int} : ∀ {l r : List α}, l.Pairwise (fun a b => P a < P b) → r.Pairwise (fun a b => P a < P b) → (∀ k, k ∈ l ↔ k ∈ r) → l = r
  | [], [], _, _, _ => rfl
  | [], y :: r, _, _, h => absurd ((h y).mpr List.mem_cons_self) (by simp)
  | x :: l, [], _, _, h => absurd ((h x).mp List.mem_cons_self) (by simp)
  | x :: l, y :: r, hl, hr, h => by
    obtain ⟨l1, l2⟩ := List.pairwise_cons.mp hl
    obtain ⟨r1, r2⟩ := List.pairwise_cons.mp hr
    have e : x = y := by
      rcases List.mem_cons.mp ((h x).mp List.mem_cons_self) with q | q
      · exact q
      · rcases List.mem_cons.mp ((h y).mpr List.mem_cons_self) with q2 | q2
        · exact q2.symm
        · have a1 := r1 x q
          have a2 := l1 y q2
          omega
    subst e
    rw [key_uniq l2 r2 fun k => ?_]
    constructor
    · intro hk
      rcases List.mem_cons.mp ((h k).mp (List.mem_cons_of_mem _ hk)) with q | q
      · subst q
        have := l1 k hk
        omega
      · exact q
    · intro hk
      rcases List.mem_cons.mp ((h k).mpr (List.mem_cons_of_mem _ hk)) with q | q
      · subst q
        have := r1 k hk
        omega
      · exact q
/-- by a place of each cell, what comes ahead is less -/
theorem bef_lt (l : Line) {P : C → Int} {a b : C} (h : Bef l a b) (ha : l.cell (P a) = a) (hb : l.cell (P b) = b) : P a < P b := by
  obtain ⟨ne, m1, m2, hm, e1, e2⟩ := h
  rcases Int.lt_or_le (P a) (P b) with c | c
  · exact c
  · exact absurd (l.noback hm c e1 e2 hb ha) ne
/-- cells of a line by their own places, in order: the same list -/
theorem lists_eq (l : Line) {P : C → Int} {L R : List C} (hL : L.Pairwise (Bef l)) (hR : R.Pairwise fun a b => P a < P b) (hm : ∀ c, c ∈ L ↔ c ∈ R) (hP : ∀ c ∈ L, l.cell (P c) = c) : L = R :=
  key_uniq (P := P) (hL.imp_of_mem fun {a b} ha hb h => bef_lt l h (hP a ha) (hP b hb)) hR hm
end MG
end
section
set_option maxRecDepth 100000
set_option maxHeartbeats 1000000
namespace K35
open PySem PySem.Spec PyProof.Rows L2 MP LamX
def top (i : Nat) : Stmt := PySem.Challenge.pw_ledlines_k35_pieces_told_by_cells.main.body.getD i (.Pass ⟨0, 0, 0, 0⟩)
abbrev sis_number : Stmt := top 6
abbrev scheck_half : Stmt := top 9
abbrev scell_number : Stmt := top 10
abbrev sends_in : Stmt := top 11
abbrev slast_number : Stmt := top 13
abbrev sis_on_board : Stmt := top 14
abbrev scheck_cell : Stmt := top 15
abbrev send_count : Stmt := top 17
abbrev spiece_count : Stmt := top 18
abbrev sfirst_piece : Stmt := top 19
abbrev swhole_count : Stmt := top 20
abbrev s_law_taken : Stmt := top 22
abbrev s_law_half : Stmt := top 23
abbrev slaw : Stmt := top 24
structure Txt (Γ : Gam) (mg : Str → Option Value) : Prop where
  z_isinstance : mg "isinstance" = none
  z_int : mg "int" = none
  z_bool : mg "bool" = none
  F_is_number : FunX Γ.K mg "is_number" sis_number ["value", "low", "high"]
  c_GREATEST_HALF : ConstI mg "GREATEST_HALF" 30
  x_InvalidHalf : ExcF Γ mg "InvalidHalf"
  F_check_half : FunX Γ.K mg "check_half" scheck_half ["half"]
  F_cell_number : FunX Γ.K mg "cell_number" scell_number ["coordinate", "half"]
  z_max : mg "max" = none
  c_GREATEST_COORDINATE : ConstI mg "GREATEST_COORDINATE" 60
  z_min : mg "min" = none
  F_ends_in : FunX Γ.K mg "ends_in" sends_in ["cell", "half"]
  F_last_number : FunX Γ.K mg "last_number" slast_number ["half"]
  z_len : mg "len" = none
  z_all : mg "all" = none
  F_is_on_board : FunX Γ.K mg "is_on_board" sis_on_board ["cell", "half"]
  x_InvalidCell : ExcF Γ mg "InvalidCell"
  F_check_cell : FunX Γ.K mg "check_cell" scheck_cell ["cell", "half"]
  F_end_count : FunX Γ.K mg "end_count" send_count ["cell", "half"]
  F_piece_count : FunX Γ.K mg "piece_count" spiece_count ["half", "one", "other"]
  F_first_piece : FunX Γ.K mg "first_piece" sfirst_piece ["half", "one", "other"]
  F_whole_count : FunX Γ.K mg "whole_count" swhole_count ["half", "cells"]
  F__law_taken : FunX Γ.K mg "_law_taken" s_law_taken ["_law_row", "_law_many"]
  F__law_half : FunX Γ.K mg "_law_half" s_law_half ["_law_row"]
  z_range : mg "range" = none
  z_sorted : mg "sorted" = none
  z_set : mg "set" = none
  z_tuple : mg "tuple" = none
abbrev Nis_number : List Str := ["value", "low", "high"]
theorem scis_number : FnScope Nis_number ["value", "low", "high"] (defScope sis_number) := ⟨rfl, rfl, rfl, by decide +kernel, rfl, by decide +kernel, by decide +kernel⟩
def bis_number : Ds := (dRet (dAnd (dUn (fIsi "int") (dVar 0)) (dAnd (dUn fNot (dUn (fIsi "bool") (dVar 0))) (dChain fLe fLe (dVar 1) (dVar 0) (dVar 2)))))
def gis_number : List D → Sto → Rt := runD 3 bis_number
theorem denis_number {P : Program} {w : World} {Γ : Gam} {mg : Str → Option Value} {base : Heap} (T : Txt Γ mg) : Den P w Γ mg base 1 "is_number" 3 gis_number :=
  den_of (k := 0) T.F_is_number scis_number (db := bis_number) (fun f cdv A outer s H E hr =>
    (sb_one (ss_ret (sim_and (sim_isi rfl rfl T.z_isinstance rfl T.z_int PyProof.Rows.boot_int (by decide) (by decide) (sim_var (i := 0) rfl (.inl rfl) (by decide) (by decide)) rfl rfl rfl) (sim_and (sim_not (sim_isi rfl rfl T.z_isinstance rfl T.z_bool PyProof.Rows.boot_bool (by decide) (by decide) (sim_var (i := 0) rfl (.inl rfl) (by decide) (by decide)) rfl rfl rfl)) (sim_one (sim_chain op_le op_le os_le os_le mono_fLe mono_fLe (sim_var (i := 1) rfl (.inl rfl) (by decide) (by decide)) (sim_var (i := 0) rfl (.inl rfl) (by decide) (by decide)) (sim_var (i := 2) rfl (.inl rfl) (by decide) (by decide)) (by with_unfolding_all rfl))))))))
abbrev Ncheck_half : List Str := ["half"]
theorem sccheck_half : FnScope Ncheck_half ["half"] (defScope scheck_half) := ⟨rfl, rfl, rfl, by decide +kernel, rfl, by decide +kernel, by decide +kernel⟩
def bcheck_half : Ds := (dIfS (dUn fNot (dUn fTru (dApp gis_number [(dVar 0), (dC (.int 1)), (dC (.int 30))]))) (dRaise0 "InvalidHalf") dNext)
def gcheck_half : List D → Sto → Rt := runD 1 bcheck_half
theorem dencheck_half {P : Program} {w : World} {Γ : Gam} {mg : Str → Option Value} {base : Heap} (T : Txt Γ mg) : Den P w Γ mg base 2 "check_half" 1 gcheck_half :=
  den_of (k := 1) T.F_check_half sccheck_half (db := bcheck_half) (fun f cdv A outer s H E hr =>
    (sb_one (ss_if (simT_not (sim_tru rfl (sim_callD (denis_number T) rfl (hr.mono (by decide)) rfl hx_def (simA_cons (sim_var (i := 0) rfl (.inl rfl) (by decide) (by decide)) (simA_cons sim_int (simA_cons (sim_constI T.c_GREATEST_HALF rfl (by decide)) simA_nil rfl) rfl) rfl) rfl rfl (by decide) rfl rfl) (fun _ => rfl))) (sb_one (ss_raise0D T.x_InvalidHalf rfl rfl tk_def rfl (by decide))) sb_nil)))
abbrev Ncell_number : List Str := ["coordinate", "half", "numerator", "denominator"]
theorem sccell_number : FnScope Ncell_number ["coordinate", "half"] (defScope scell_number) := ⟨rfl, rfl, rfl, by decide +kernel, rfl, by decide +kernel, by decide +kernel⟩
def bcell_number : Ds := (dThen (dAsg (dVar 0) (.tp [(.nm 2), (.nm 3)])) (dRet (dBin fDiv (dBin fAdd (dVar 2) (dBin fMul (dVar 1) (dVar 3))) (dBin fMul (dBin fMul (dC (.int 2)) (dVar 1)) (dVar 3)))))
def gcell_number : List D → Sto → Rt := runD 4 bcell_number
theorem dencell_number {P : Program} {w : World} {Γ : Gam} {mg : Str → Option Value} {base : Heap} (T : Txt Γ mg) : Den P w Γ mg base 1 "cell_number" 2 gcell_number :=
  den_of (k := 0) T.F_cell_number sccell_number (db := bcell_number) (fun f cdv A outer s H E hr =>
    (sb_cons (ss_asg (sim_var (i := 0) rfl (.inl rfl) (by decide) (by decide)) (sg_tup rfl rfl (sgs_cons (sg_name (i := 2) sccell_number.nd rfl (.inl rfl) (.inr rfl)) (sgs_cons (sg_name (i := 3) sccell_number.nd rfl (.inl rfl) (.inr rfl)) sgs_nil rfl) rfl) rfl rfl rfl) rfl rfl rfl)
      (sb_one (ss_ret (sim_op op_fdiv os_div mono_fDiv (sim_op op_addD os_add mono_fAdd (sim_var (i := 2) rfl (.inl rfl) (by decide) (by decide)) (sim_op op_mul os_mul mono_fMul (sim_var (i := 1) rfl (.inl rfl) (by decide) (by decide)) (sim_var (i := 3) rfl (.inl rfl) (by decide) (by decide)))) (sim_op op_mul os_mul mono_fMul (sim_op op_mul os_mul mono_fMul sim_int (sim_var (i := 1) rfl (.inl rfl) (by decide) (by decide))) (sim_var (i := 3) rfl (.inl rfl) (by decide) (by decide))))))))
abbrev Nends_in : List Str := ["cell", "half", "i", "j", "lowest", "highest_x", "highest_y"]
theorem scends_in : FnScope Nends_in ["cell", "half"] (defScope sends_in) := ⟨rfl, rfl, rfl, by decide +kernel, rfl, by decide +kernel, by decide +kernel⟩
def bends_in : Ds := (dThen (dAsg (dVar 0) (.tp [(.nm 2), (.nm 3)])) (dThen (dAsg (dApp fTup [(dApp fMax2D [(dC (.int 0)), (dBin fMul (dBin fSub (dBin fMul (dC (.int 2)) (dVar 2)) (dC (.int 1))) (dVar 1))]), (dApp fMax2D [(dC (.int 0)), (dBin fMul (dBin fSub (dBin fMul (dC (.int 2)) (dVar 3)) (dC (.int 1))) (dVar 1))])]) (.nm 4)) (dThen (dAsg (dApp fMin2D [(dC (.int 60)), (dBin fSub (dBin fMul (dBin fAdd (dBin fMul (dC (.int 2)) (dVar 2)) (dC (.int 1))) (dVar 1)) (dC (.int 1)))]) (.nm 5)) (dThen (dAsg (dApp fMin2D [(dC (.int 60)), (dBin fSub (dBin fMul (dBin fAdd (dBin fMul (dC (.int 2)) (dVar 3)) (dC (.int 1))) (dVar 1)) (dC (.int 1)))]) (.nm 6)) (dRet (dApp fTup [(dVar 4), (dApp fTup [(dVar 5), (dVar 6)])]))))))
def gends_in : List D → Sto → Rt := runD 7 bends_in
theorem denends_in {P : Program} {w : World} {Γ : Gam} {mg : Str → Option Value} {base : Heap} (T : Txt Γ mg) : Den P w Γ mg base 1 "ends_in" 2 gends_in :=
  den_of (k := 0) T.F_ends_in scends_in (db := bends_in) (fun f cdv A outer s H E hr =>
    (sb_cons (ss_asg (sim_var (i := 0) rfl (.inl rfl) (by decide) (by decide)) (sg_tup rfl rfl (sgs_cons (sg_name (i := 2) scends_in.nd rfl (.inl rfl) (.inr rfl)) (sgs_cons (sg_name (i := 3) scends_in.nd rfl (.inl rfl) (.inr rfl)) sgs_nil rfl) rfl) rfl rfl rfl) rfl rfl rfl)
      (sb_cons (ss_set (i := 4) scends_in.nd rfl (.inl rfl) (sim_tup (simA_cons (sim_callB (cr_max2D rfl (hr.mono (by decide) : Room 0 _).units) cs_max2D mono_fMax2D rfl T.z_max (by decide +kernel) (simA_cons sim_int (simA_cons (sim_op op_mul os_mul mono_fMul (sim_op op_sub os_sub mono_fSub (sim_op op_mul os_mul mono_fMul sim_int (sim_var (i := 2) rfl (.inl rfl) (by decide) (by decide))) sim_int) (sim_var (i := 1) rfl (.inl rfl) (by decide) (by decide))) simA_nil rfl) rfl) (by decide) (by decide) rfl rfl) (simA_cons (sim_callB (cr_max2D rfl (hr.mono (by decide) : Room 0 _).units) cs_max2D mono_fMax2D rfl T.z_max (by decide +kernel) (simA_cons sim_int (simA_cons (sim_op op_mul os_mul mono_fMul (sim_op op_sub os_sub mono_fSub (sim_op op_mul os_mul mono_fMul sim_int (sim_var (i := 3) rfl (.inl rfl) (by decide) (by decide))) sim_int) (sim_var (i := 1) rfl (.inl rfl) (by decide) (by decide))) simA_nil rfl) rfl) (by decide) (by decide) rfl rfl) simA_nil rfl) rfl)) rfl (.inl rfl))
      (sb_cons (ss_set (i := 5) scends_in.nd rfl (.inl rfl) (sim_callB (cr_min2D rfl (hr.mono (by decide) : Room 0 _).units) cs_min2D mono_fMin2D rfl T.z_min (by decide +kernel) (simA_cons (sim_constI T.c_GREATEST_COORDINATE rfl (by decide)) (simA_cons (sim_op op_sub os_sub mono_fSub (sim_op op_mul os_mul mono_fMul (sim_op op_addD os_add mono_fAdd (sim_op op_mul os_mul mono_fMul sim_int (sim_var (i := 2) rfl (.inl rfl) (by decide) (by decide))) sim_int) (sim_var (i := 1) rfl (.inl rfl) (by decide) (by decide))) sim_int) simA_nil rfl) rfl) (by decide) (by decide) rfl rfl) rfl (.inl rfl))
      (sb_cons (ss_set (i := 6) scends_in.nd rfl (.inl rfl) (sim_callB (cr_min2D rfl (hr.mono (by decide) : Room 0 _).units) cs_min2D mono_fMin2D rfl T.z_min (by decide +kernel) (simA_cons (sim_constI T.c_GREATEST_COORDINATE rfl (by decide)) (simA_cons (sim_op op_sub os_sub mono_fSub (sim_op op_mul os_mul mono_fMul (sim_op op_addD os_add mono_fAdd (sim_op op_mul os_mul mono_fMul sim_int (sim_var (i := 3) rfl (.inl rfl) (by decide) (by decide))) sim_int) (sim_var (i := 1) rfl (.inl rfl) (by decide) (by decide))) sim_int) simA_nil rfl) rfl) (by decide) (by decide) rfl rfl) rfl (.inl rfl))
      (sb_one (ss_ret (sim_tup (simA_cons (sim_var (i := 4) rfl (.inl rfl) (by decide) (by decide)) (simA_cons (sim_tup (simA_cons (sim_var (i := 5) rfl (.inl rfl) (by decide) (by decide)) (simA_cons (sim_var (i := 6) rfl (.inl rfl) (by decide) (by decide)) simA_nil rfl) rfl)) simA_nil rfl) rfl)))))))))
abbrev Nlast_number : List Str := ["half"]
theorem sclast_number : FnScope Nlast_number ["half"] (defScope slast_number) := ⟨rfl, rfl, rfl, by decide +kernel, rfl, by decide +kernel, by decide +kernel⟩
def blast_number : Ds := (dRet (dApp gcell_number [(dApp fTup [(dC (.int 60)), (dC (.int 1))]), (dVar 0)]))
def glast_number : List D → Sto → Rt := runD 1 blast_number
theorem denlast_number {P : Program} {w : World} {Γ : Gam} {mg : Str → Option Value} {base : Heap} (T : Txt Γ mg) : Den P w Γ mg base 2 "last_number" 1 glast_number :=
  den_of (k := 1) T.F_last_number sclast_number (db := blast_number) (fun f cdv A outer s H E hr =>
    (sb_one (ss_ret (sim_callD (dencell_number T) rfl (hr.mono (by decide)) rfl hx_def (simA_cons (sim_tup (simA_cons (sim_constI T.c_GREATEST_COORDINATE rfl (by decide)) (simA_cons sim_int simA_nil rfl) rfl)) (simA_cons (sim_var (i := 0) rfl (.inl rfl) (by decide) (by decide)) simA_nil rfl) rfl) rfl rfl (by decide) rfl rfl))))
abbrev Nis_on_board : List Str := ["cell", "half", "number"]
theorem scis_on_board : FnScope Nis_on_board ["cell", "half"] (defScope sis_on_board) := ⟨rfl, rfl, rfl, by decide +kernel, rfl, by decide +kernel, by decide +kernel⟩
def bis_on_board : Ds := (dRet (dAnd (dBin fEq (dApp fLen [(dVar 0)]) (dC (.int 2))) (dApp fAll [(dLc (dSeq (dVar 0)) (.nm 2) dYes (dApp gis_number [(dVar 2), (dC (.int 0)), (dApp glast_number [(dVar 1)])]) [2])])))
def gis_on_board : List D → Sto → Rt := runD 3 bis_on_board
theorem denis_on_board {P : Program} {w : World} {Γ : Gam} {mg : Str → Option Value} {base : Heap} (T : Txt Γ mg) : Den P w Γ mg base 3 "is_on_board" 2 gis_on_board :=
  den_of (k := 2) T.F_is_on_board scis_on_board (db := bis_on_board) (fun f cdv A outer s H E hr =>
    (sb_one (ss_ret (sim_and (sim_cmp (op_eqD (hr.mono (by decide) : Room 0 _).units) os_eq mono_fEq (sim_callB cr_len cs_len mono_fLen rfl T.z_len (by decide +kernel) (simA_cons (sim_var (i := 0) rfl (.inl rfl) (by decide) (by decide)) simA_nil rfl) (by decide) (by decide) rfl rfl) sim_int (nomark _)) (sim_one (sim_callB (cr_all rfl) cs_all mono_fAll rfl T.z_all (by decide +kernel) (simA_cons (sim_lc0 (own := [("number", 2)]) rfl scis_on_board.nd (si_seq rfl (sim_var (i := 0) rfl (.inl rfl) (by decide) (by decide))) (blkOk_by (own := [("number", 2)]) (N := Nis_on_board) (sc := defScope sis_on_board) (by decide +kernel)) (by decide) (fun _ _ _ _ _ => (sg_name (i := 2) scis_on_board.nd rfl (.inl rfl) (.inr rfl))) (fun _ _ _ _ _ => (sim_callD (denis_number T) rfl (hr.mono (by decide)) rfl hx_no (simA_cons (sim_var (i := 2) rfl (.inl rfl) (by decide) (by decide)) (simA_cons sim_int (simA_cons (sim_callD (denlast_number T) rfl (hr.mono (by decide)) rfl hx_no (simA_cons (sim_var (i := 1) rfl (by first | exact .inr (.inl rfl) | exact .inr (.inr rfl) | exact .inl rfl) (by decide) (by decide)) simA_nil rfl) rfl rfl (by decide) rfl rfl) simA_nil rfl) rfl) rfl) rfl rfl (by decide) rfl rfl)) (fun _ => rfl)) simA_nil rfl) (by decide) (by decide) rfl rfl))))))
abbrev Ncheck_cell : List Str := ["cell", "half"]
theorem sccheck_cell : FnScope Ncheck_cell ["cell", "half"] (defScope scheck_cell) := ⟨rfl, rfl, rfl, by decide +kernel, rfl, by decide +kernel, by decide +kernel⟩
def bcheck_cell : Ds := (dIfS (dUn fNot (dUn fTru (dApp gis_on_board [(dVar 0), (dVar 1)]))) (dRaise0 "InvalidCell") dNext)
def gcheck_cell : List D → Sto → Rt := runD 2 bcheck_cell
theorem dencheck_cell {P : Program} {w : World} {Γ : Gam} {mg : Str → Option Value} {base : Heap} (T : Txt Γ mg) : Den P w Γ mg base 4 "check_cell" 2 gcheck_cell :=
  den_of (k := 3) T.F_check_cell sccheck_cell (db := bcheck_cell) (fun f cdv A outer s H E hr =>
    (sb_one (ss_if (simT_not (sim_tru rfl (sim_callD (denis_on_board T) rfl (hr.mono (by decide)) rfl hx_def (simA_cons (sim_var (i := 0) rfl (.inl rfl) (by decide) (by decide)) (simA_cons (sim_var (i := 1) rfl (.inl rfl) (by decide) (by decide)) simA_nil rfl) rfl) rfl rfl (by decide) rfl rfl) (fun _ => rfl))) (sb_one (ss_raise0D T.x_InvalidCell rfl rfl tk_def rfl (by decide))) sb_nil)))
abbrev Nend_count : List Str := ["cell", "half", "x", "y", "x2", "y2"]
theorem scend_count : FnScope Nend_count ["cell", "half"] (defScope send_count) := ⟨rfl, rfl, rfl, by decide +kernel, rfl, by decide +kernel, by decide +kernel⟩
def bend_count : Ds := (dThen (dAsg (dApp gends_in [(dVar 0), (dVar 1)]) (.tp [(.tp [(.nm 2), (.nm 3)]), (.tp [(.nm 4), (.nm 5)])])) (dRet (dBin fMul (dBin fAdd (dBin fSub (dVar 4) (dVar 2)) (dC (.int 1))) (dBin fAdd (dBin fSub (dVar 5) (dVar 3)) (dC (.int 1))))))
def gend_count : List D → Sto → Rt := runD 6 bend_count
theorem denend_count {P : Program} {w : World} {Γ : Gam} {mg : Str → Option Value} {base : Heap} (T : Txt Γ mg) : Den P w Γ mg base 2 "end_count" 2 gend_count :=
  den_of (k := 1) T.F_end_count scend_count (db := bend_count) (fun f cdv A outer s H E hr =>
    (sb_cons (ss_asg (sim_callD (denends_in T) rfl (hr.mono (by decide)) rfl hx_def (simA_cons (sim_var (i := 0) rfl (.inl rfl) (by decide) (by decide)) (simA_cons (sim_var (i := 1) rfl (.inl rfl) (by decide) (by decide)) simA_nil rfl) rfl) rfl rfl (by decide) rfl rfl) (sg_tup rfl rfl (sgs_cons (sg_tup rfl rfl (sgs_cons (sg_name (i := 2) scend_count.nd rfl (.inl rfl) (.inr rfl)) (sgs_cons (sg_name (i := 3) scend_count.nd rfl (.inl rfl) (.inr rfl)) sgs_nil rfl) rfl) rfl rfl rfl) (sgs_cons (sg_tup rfl rfl (sgs_cons (sg_name (i := 4) scend_count.nd rfl (.inl rfl) (.inr rfl)) (sgs_cons (sg_name (i := 5) scend_count.nd rfl (.inl rfl) (.inr rfl)) sgs_nil rfl) rfl) rfl rfl rfl) sgs_nil rfl) rfl) rfl rfl rfl) rfl rfl rfl)
      (sb_one (ss_ret (sim_op op_mul os_mul mono_fMul (sim_op op_addD os_add mono_fAdd (sim_op op_sub os_sub mono_fSub (sim_var (i := 4) rfl (.inl rfl) (by decide) (by decide)) (sim_var (i := 2) rfl (.inl rfl) (by decide) (by decide))) sim_int) (sim_op op_addD os_add mono_fAdd (sim_op op_sub os_sub mono_fSub (sim_var (i := 5) rfl (.inl rfl) (by decide) (by decide)) (sim_var (i := 3) rfl (.inl rfl) (by decide) (by decide))) sim_int))))))
abbrev Npiece_count : List Str := ["half", "one", "other"]
theorem scpiece_count : FnScope Npiece_count ["half", "one", "other"] (defScope spiece_count) := ⟨rfl, rfl, rfl, by decide +kernel, rfl, by decide +kernel, by decide +kernel⟩
def bpiece_count : Ds := (dThen (dExpr (dApp gcheck_half [(dVar 0)])) (dThen (dExpr (dApp gcheck_cell [(dVar 1), (dVar 0)])) (dThen (dExpr (dApp gcheck_cell [(dVar 2), (dVar 0)])) (dThen (dIfS (dBin fEq (dVar 1) (dVar 2)) (dRet (dBin fMul (dApp gend_count [(dVar 1), (dVar 0)]) (dBin fSub (dApp gend_count [(dVar 1), (dVar 0)]) (dC (.int 1))))) dNext) (dRet (dBin fMul (dApp gend_count [(dVar 1), (dVar 0)]) (dApp gend_count [(dVar 2), (dVar 0)])))))))
def gpiece_count : List D → Sto → Rt := runD 3 bpiece_count
theorem denpiece_count {P : Program} {w : World} {Γ : Gam} {mg : Str → Option Value} {base : Heap} (T : Txt Γ mg) : Den P w Γ mg base 5 "piece_count" 3 gpiece_count :=
  den_of (k := 4) T.F_piece_count scpiece_count (db := bpiece_count) (fun f cdv A outer s H E hr =>
    (sb_cons (ss_expr (sim_callD (dencheck_half T) rfl (hr.mono (by decide)) rfl hx_def (simA_cons (sim_var (i := 0) rfl (.inl rfl) (by decide) (by decide)) simA_nil rfl) rfl rfl (by decide) rfl rfl) rfl)
      (sb_cons (ss_expr (sim_callD (dencheck_cell T) rfl (hr.mono (by decide)) rfl hx_def (simA_cons (sim_var (i := 1) rfl (.inl rfl) (by decide) (by decide)) (simA_cons (sim_var (i := 0) rfl (.inl rfl) (by decide) (by decide)) simA_nil rfl) rfl) rfl rfl (by decide) rfl rfl) rfl)
      (sb_cons (ss_expr (sim_callD (dencheck_cell T) rfl (hr.mono (by decide)) rfl hx_def (simA_cons (sim_var (i := 2) rfl (.inl rfl) (by decide) (by decide)) (simA_cons (sim_var (i := 0) rfl (.inl rfl) (by decide) (by decide)) simA_nil rfl) rfl) rfl rfl (by decide) rfl rfl) rfl)
      (sb_cons (ss_if (simT_cmp (op_eqD (hr.mono (by decide) : Room 0 _).units) os_eq mono_fEq (sim_var (i := 1) rfl (.inl rfl) (by decide) (by decide)) (sim_var (i := 2) rfl (.inl rfl) (by decide) (by decide)) (nomark _)) (sb_one (ss_ret (sim_op op_mul os_mul mono_fMul (sim_callD (denend_count T) rfl (hr.mono (by decide)) rfl hx_def (simA_cons (sim_var (i := 1) rfl (.inl rfl) (by decide) (by decide)) (simA_cons (sim_var (i := 0) rfl (.inl rfl) (by decide) (by decide)) simA_nil rfl) rfl) rfl rfl (by decide) rfl rfl) (sim_op op_sub os_sub mono_fSub (sim_callD (denend_count T) rfl (hr.mono (by decide)) rfl hx_def (simA_cons (sim_var (i := 1) rfl (.inl rfl) (by decide) (by decide)) (simA_cons (sim_var (i := 0) rfl (.inl rfl) (by decide) (by decide)) simA_nil rfl) rfl) rfl rfl (by decide) rfl rfl) sim_int)))) sb_nil)
      (sb_one (ss_ret (sim_op op_mul os_mul mono_fMul (sim_callD (denend_count T) rfl (hr.mono (by decide)) rfl hx_def (simA_cons (sim_var (i := 1) rfl (.inl rfl) (by decide) (by decide)) (simA_cons (sim_var (i := 0) rfl (.inl rfl) (by decide) (by decide)) simA_nil rfl) rfl) rfl rfl (by decide) rfl rfl) (sim_callD (denend_count T) rfl (hr.mono (by decide)) rfl hx_def (simA_cons (sim_var (i := 2) rfl (.inl rfl) (by decide) (by decide)) (simA_cons (sim_var (i := 0) rfl (.inl rfl) (by decide) (by decide)) simA_nil rfl) rfl) rfl rfl (by decide) rfl rfl)))))))))
abbrev Nfirst_piece : List Str := ["half", "one", "other", "first", "_", "x", "y", "y2"]
theorem scfirst_piece : FnScope Nfirst_piece ["half", "one", "other"] (defScope sfirst_piece) := ⟨rfl, rfl, rfl, by decide +kernel, rfl, by decide +kernel, by decide +kernel⟩
def bfirst_piece : Ds := (dThen (dIfS (dBin fEq (dApp gpiece_count [(dVar 0), (dVar 1), (dVar 2)]) (dC (.int 0))) (dRet (dC .non)) dNext) (dThen (dAsg (dApp gends_in [(dVar 1), (dVar 0)]) (.tp [(.nm 3), (.nm 4)])) (dThen (dAsg (dApp gends_in [(dVar 2), (dVar 0)]) (.tp [(.tp [(.nm 5), (.nm 6)]), (.tp [(.nm 4), (.nm 7)])])) (dThen (dIfS (dBin fNe (dVar 1) (dVar 2)) (dRet (dBin fAdd (dVar 3) (dApp fTup [(dVar 5), (dVar 6)]))) dNext) (dRet (dBin fAdd (dVar 3) (dIf (dBin fLt (dVar 6) (dVar 7)) (dApp fTup [(dVar 5), (dBin fAdd (dVar 6) (dC (.int 1)))]) (dApp fTup [(dBin fAdd (dVar 5) (dC (.int 1))), (dVar 6)]))))))))
def gfirst_piece : List D → Sto → Rt := runD 8 bfirst_piece
theorem denfirst_piece {P : Program} {w : World} {Γ : Gam} {mg : Str → Option Value} {base : Heap} (T : Txt Γ mg) : Den P w Γ mg base 6 "first_piece" 3 gfirst_piece :=
  den_of (k := 5) T.F_first_piece scfirst_piece (db := bfirst_piece) (fun f cdv A outer s H E hr =>
    (sb_cons (ss_if (simT_cmp (op_eqD (hr.mono (by decide) : Room 0 _).units) os_eq mono_fEq (sim_callD (denpiece_count T) rfl (hr.mono (by decide)) rfl hx_def (simA_cons (sim_var (i := 0) rfl (.inl rfl) (by decide) (by decide)) (simA_cons (sim_var (i := 1) rfl (.inl rfl) (by decide) (by decide)) (simA_cons (sim_var (i := 2) rfl (.inl rfl) (by decide) (by decide)) simA_nil rfl) rfl) rfl) rfl rfl (by decide) rfl rfl) sim_int (nomark _)) (sb_one (ss_ret sim_non)) sb_nil)
      (sb_cons (ss_asg (sim_callD (denends_in T) rfl (hr.mono (by decide)) rfl hx_def (simA_cons (sim_var (i := 1) rfl (.inl rfl) (by decide) (by decide)) (simA_cons (sim_var (i := 0) rfl (.inl rfl) (by decide) (by decide)) simA_nil rfl) rfl) rfl rfl (by decide) rfl rfl) (sg_tup rfl rfl (sgs_cons (sg_name (i := 3) scfirst_piece.nd rfl (.inl rfl) (.inr rfl)) (sgs_cons (sg_name (i := 4) scfirst_piece.nd rfl (.inl rfl) (.inr rfl)) sgs_nil rfl) rfl) rfl rfl rfl) rfl rfl rfl)
      (sb_cons (ss_asg (sim_callD (denends_in T) rfl (hr.mono (by decide)) rfl hx_def (simA_cons (sim_var (i := 2) rfl (.inl rfl) (by decide) (by decide)) (simA_cons (sim_var (i := 0) rfl (.inl rfl) (by decide) (by decide)) simA_nil rfl) rfl) rfl rfl (by decide) rfl rfl) (sg_tup rfl rfl (sgs_cons (sg_tup rfl rfl (sgs_cons (sg_name (i := 5) scfirst_piece.nd rfl (.inl rfl) (.inr rfl)) (sgs_cons (sg_name (i := 6) scfirst_piece.nd rfl (.inl rfl) (.inr rfl)) sgs_nil rfl) rfl) rfl rfl rfl) (sgs_cons (sg_tup rfl rfl (sgs_cons (sg_name (i := 4) scfirst_piece.nd rfl (.inl rfl) (.inr rfl)) (sgs_cons (sg_name (i := 7) scfirst_piece.nd rfl (.inl rfl) (.inr rfl)) sgs_nil rfl) rfl) rfl rfl rfl) sgs_nil rfl) rfl) rfl rfl rfl) rfl rfl rfl)
      (sb_cons (ss_if (simT_cmp (op_neD (hr.mono (by decide) : Room 0 _).units) os_ne mono_fNe (sim_var (i := 1) rfl (.inl rfl) (by decide) (by decide)) (sim_var (i := 2) rfl (.inl rfl) (by decide) (by decide)) (nomark _)) (sb_one (ss_ret (sim_op op_addD os_add mono_fAdd (sim_var (i := 3) rfl (.inl rfl) (by decide) (by decide)) (sim_tup (simA_cons (sim_var (i := 5) rfl (.inl rfl) (by decide) (by decide)) (simA_cons (sim_var (i := 6) rfl (.inl rfl) (by decide) (by decide)) simA_nil rfl) rfl))))) sb_nil)
      (sb_one (ss_ret (sim_op op_addD os_add mono_fAdd (sim_var (i := 3) rfl (.inl rfl) (by decide) (by decide)) (sim_if (simT_cmp (op_ltD (hr.mono (by decide) : Room 0 _).units0) os_lt mono_fLt (sim_var (i := 6) rfl (.inl rfl) (by decide) (by decide)) (sim_var (i := 7) rfl (.inl rfl) (by decide) (by decide)) (nomark _)) (sim_tup (simA_cons (sim_var (i := 5) rfl (.inl rfl) (by decide) (by decide)) (simA_cons (sim_op op_addD os_add mono_fAdd (sim_var (i := 6) rfl (.inl rfl) (by decide) (by decide)) sim_int) simA_nil rfl) rfl)) (sim_tup (simA_cons (sim_op op_addD os_add mono_fAdd (sim_var (i := 5) rfl (.inl rfl) (by decide) (by decide)) sim_int) (simA_cons (sim_var (i := 6) rfl (.inl rfl) (by decide) (by decide)) simA_nil rfl) rfl)))))))))))
abbrev Nwhole_count : List Str := ["half", "cells"]
theorem scwhole_count : FnScope Nwhole_count ["half", "cells"] (defScope swhole_count) := ⟨rfl, rfl, rfl, by decide +kernel, rfl, by decide +kernel, by decide +kernel⟩
def bwhole_count : Ds := (dThen (dExpr (dApp gcheck_half [(dVar 0)])) (dThen (dIfS (dOr (dBin fNotInG (dApp fLen [(dVar 1)]) (dApp fTup [(dC (.int 1)), (dC (.int 2))])) (dAnd (dBin fEq (dApp fLen [(dVar 1)]) (dC (.int 2))) (dBin fGeD (dBin fIx (dVar 1) (dC (.int 0))) (dBin fIx (dVar 1) (dC (.int 1)))))) (dRaise0 "InvalidCell") dNext) (dRet (dBin fMul (dApp fLen [(dVar 1)]) (dApp gpiece_count [(dVar 0), (dBin fIx (dVar 1) (dC (.int 0))), (dBin fIx (dVar 1) (dUn fNeg (dC (.int 1))))])))))
def gwhole_count : List D → Sto → Rt := runD 2 bwhole_count
theorem denwhole_count {P : Program} {w : World} {Γ : Gam} {mg : Str → Option Value} {base : Heap} (T : Txt Γ mg) : Den P w Γ mg base 6 "whole_count" 2 gwhole_count :=
  den_of (k := 5) T.F_whole_count scwhole_count (db := bwhole_count) (fun f cdv A outer s H E hr =>
    (sb_cons (ss_expr (sim_callD (dencheck_half T) rfl (hr.mono (by decide)) rfl hx_def (simA_cons (sim_var (i := 0) rfl (.inl rfl) (by decide) (by decide)) simA_nil rfl) rfl rfl (by decide) rfl rfl) rfl)
      (sb_cons (ss_if (SimW.t (simW_or (simT_cmp (op_notInG rfl (un65 (hr.mono (by decide) : Room 0 _))) os_notInG mono_fNotInG (sim_callB cr_len cs_len mono_fLen rfl T.z_len (by decide +kernel) (simA_cons (sim_var (i := 1) rfl (.inl rfl) (by decide) (by decide)) simA_nil rfl) (by decide) (by decide) rfl rfl) (sim_tup (simA_cons sim_int (simA_cons sim_int simA_nil rfl) rfl)) (by with_unfolding_all rfl)) (simW_or1 (SimW.t (simW_and (simT_cmp (op_eqD (hr.mono (by decide) : Room 0 _).units) os_eq mono_fEq (sim_callB cr_len cs_len mono_fLen rfl T.z_len (by decide +kernel) (simA_cons (sim_var (i := 1) rfl (.inl rfl) (by decide) (by decide)) simA_nil rfl) (by decide) (by decide) rfl rfl) sim_int (nomark _)) (simW_and1 (simT_cmp (op_geD (hr.mono (by decide) : Room 0 _).units0) os_geD mono_fGeD (sim_ix ix_seq os_ix mono_fIx (sim_var (i := 1) rfl (.inl rfl) (by decide) (by decide)) sim_int (fun _ _ => rfl)) (sim_ix ix_seq os_ix mono_fIx (sim_var (i := 1) rfl (.inl rfl) (by decide) (by decide)) sim_int (fun _ _ => rfl)) (nomark _)))))))) (sb_one (ss_raise0D T.x_InvalidCell rfl rfl tk_def rfl (by decide))) sb_nil)
      (sb_one (ss_ret (sim_op op_mul os_mul mono_fMul (sim_callB cr_len cs_len mono_fLen rfl T.z_len (by decide +kernel) (simA_cons (sim_var (i := 1) rfl (.inl rfl) (by decide) (by decide)) simA_nil rfl) (by decide) (by decide) rfl rfl) (sim_callD (denpiece_count T) rfl (hr.mono (by decide)) rfl hx_def (simA_cons (sim_var (i := 0) rfl (.inl rfl) (by decide) (by decide)) (simA_cons (sim_ix ix_seq os_ix mono_fIx (sim_var (i := 1) rfl (.inl rfl) (by decide) (by decide)) sim_int (fun _ _ => rfl)) (simA_cons (sim_ix ix_seq os_ix mono_fIx (sim_var (i := 1) rfl (.inl rfl) (by decide) (by decide)) (sim_neg sim_int) (fun _ _ => rfl)) simA_nil rfl) rfl) rfl) rfl rfl (by decide) rfl rfl)))))))
abbrev N_law_taken : List Str := ["_law_row", "_law_many", "_law_found", "_law_cell"]
theorem sc_law_taken : FnScope N_law_taken ["_law_row", "_law_many"] (defScope s_law_taken) := ⟨rfl, rfl, rfl, by decide +kernel, rfl, by decide +kernel, by decide +kernel⟩
def b_law_taken : Ds := (dThen (dIfS (dBin fGt (dBin fIx (dVar 0) (dC (.int 3))) (dC (.int 0))) (dThen (dAsg (dBin fMod (dApp fInt [(dBin fIx (dVar 0) (dC (.int 3)))]) (dVar 1)) (.nm 2)) (dThen (dSetIx (dBin fDiv (dBin fIx (dVar 0) (dC (.int 3))) (dVar 1)) (dVar 0) (dC (.int 3))) (dRet (dVar 2)))) dNext) (dThen (dSetIx (dBin fAdd (dBin fIx (dVar 0) (dC (.int 1))) (dC (.int 1))) (dVar 0) (dC (.int 1))) (dThen (dIfS (dBin fGt (dBin fIx (dVar 0) (dC (.int 1))) (dApp fLen [(dBin fIx (dVar 0) (dC (.int 0)))])) (dThen (dSetIx (dBin fMod (dApp fInt [(dBin fAdd (dBin fMul (dBin fIx (dVar 0) (dC (.int 2))) (dC (.int 48271))) (dC (.int 11)))]) (dC (.int 2147483647))) (dVar 0) (dC (.int 2))) (dRet (dBin fMod (dApp fInt [(dBin fDiv (dBin fIx (dVar 0) (dC (.int 2))) (dC (.int 7)))]) (dVar 1)))) dNext) (dThen (dAsg (dBin fIx (dBin fIx (dVar 0) (dC (.int 0))) (dBin fSub (dBin fIx (dVar 0) (dC (.int 1))) (dC (.int 1)))) (.nm 3)) (dThen (dSetIx (dBin fMod (dApp fInt [(dBin fAdd (dBin fAdd (dBin fMul (dBin fIx (dVar 0) (dC (.int 2))) (dC (.int 48271))) (dVar 3)) (dC (.int 11)))]) (dC (.int 2147483647))) (dVar 0) (dC (.int 2))) (dThen (dIfS (dBin fGe (dVar 3) (dBin fPow (dC (.int 10)) (dC (.int 18)))) (dSetIx (dBin fDiv (dVar 3) (dVar 1)) (dVar 0) (dC (.int 3))) dNext) (dRet (dBin fMod (dApp fInt [(dVar 3)]) (dVar 1)))))))))
def g_law_taken : List D → Sto → Rt := runD 4 b_law_taken
theorem den_law_taken {P : Program} {w : World} {Γ : Gam} {mg : Str → Option Value} {base : Heap} (T : Txt Γ mg) : Den P w Γ mg base 1 "_law_taken" 2 g_law_taken :=
  den_of (k := 0) T.F__law_taken sc_law_taken (db := b_law_taken) (fun f cdv A outer s H E hr =>
    (sb_cons (ss_if (simT_cmp op_gt os_gt mono_fGt (sim_ix ix_seq os_ix mono_fIx (sim_var (i := 0) rfl (.inl rfl) (by decide) (by decide)) sim_int (fun _ _ => rfl)) sim_int (nomark _)) (sb_cons (ss_set (i := 2) sc_law_taken.nd rfl (.inl rfl) (sim_op op_mod os_mod mono_fMod (sim_callTy call_int1 cs_int mono_fInt rfl T.z_int (by decide +kernel) (simA_cons (sim_ix ix_seq os_ix mono_fIx (sim_var (i := 0) rfl (.inl rfl) (by decide) (by decide)) sim_int (fun _ _ => rfl)) simA_nil rfl) (by decide) (by decide) rfl rfl) (sim_var (i := 1) rfl (.inl rfl) (by decide) (by decide))) rfl (.inl rfl))
      (sb_cons (ss_setix (sim_op op_fdiv os_div mono_fDiv (sim_ix ix_seq os_ix mono_fIx (sim_var (i := 0) rfl (.inl rfl) (by decide) (by decide)) sim_int (fun _ _ => rfl)) (sim_var (i := 1) rfl (.inl rfl) (by decide) (by decide))) (sim_var (i := 0) rfl (.inl rfl) (by decide) (by decide)) sim_int (fun _ => rfl) rfl rfl rfl)
      (sb_one (ss_ret (sim_var (i := 2) rfl (.inl rfl) (by decide) (by decide)))))) sb_nil)
      (sb_cons (ss_setix (sim_op op_addD os_add mono_fAdd (sim_ix ix_seq os_ix mono_fIx (sim_var (i := 0) rfl (.inl rfl) (by decide) (by decide)) sim_int (fun _ _ => rfl)) sim_int) (sim_var (i := 0) rfl (.inl rfl) (by decide) (by decide)) sim_int (fun _ => rfl) rfl rfl rfl)
      (sb_cons (ss_if (simT_cmp op_gt os_gt mono_fGt (sim_ix ix_seq os_ix mono_fIx (sim_var (i := 0) rfl (.inl rfl) (by decide) (by decide)) sim_int (fun _ _ => rfl)) (sim_callB cr_len cs_len mono_fLen rfl T.z_len (by decide +kernel) (simA_cons (sim_ix ix_seq os_ix mono_fIx (sim_var (i := 0) rfl (.inl rfl) (by decide) (by decide)) sim_int (fun _ _ => rfl)) simA_nil rfl) (by decide) (by decide) rfl rfl) (nomark _)) (sb_cons (ss_setix (sim_op op_mod os_mod mono_fMod (sim_callTy call_int1 cs_int mono_fInt rfl T.z_int (by decide +kernel) (simA_cons (sim_op op_addD os_add mono_fAdd (sim_op op_mul os_mul mono_fMul (sim_ix ix_seq os_ix mono_fIx (sim_var (i := 0) rfl (.inl rfl) (by decide) (by decide)) sim_int (fun _ _ => rfl)) sim_int) sim_int) simA_nil rfl) (by decide) (by decide) rfl rfl) sim_int) (sim_var (i := 0) rfl (.inl rfl) (by decide) (by decide)) sim_int (fun _ => rfl) rfl rfl rfl)
      (sb_one (ss_ret (sim_op op_mod os_mod mono_fMod (sim_callTy call_int1 cs_int mono_fInt rfl T.z_int (by decide +kernel) (simA_cons (sim_op op_fdiv os_div mono_fDiv (sim_ix ix_seq os_ix mono_fIx (sim_var (i := 0) rfl (.inl rfl) (by decide) (by decide)) sim_int (fun _ _ => rfl)) sim_int) simA_nil rfl) (by decide) (by decide) rfl rfl) (sim_var (i := 1) rfl (.inl rfl) (by decide) (by decide)))))) sb_nil)
      (sb_cons (ss_set (i := 3) sc_law_taken.nd rfl (.inl rfl) (sim_ix ix_seq os_ix mono_fIx (sim_ix ix_seq os_ix mono_fIx (sim_var (i := 0) rfl (.inl rfl) (by decide) (by decide)) sim_int (fun _ _ => rfl)) (sim_op op_sub os_sub mono_fSub (sim_ix ix_seq os_ix mono_fIx (sim_var (i := 0) rfl (.inl rfl) (by decide) (by decide)) sim_int (fun _ _ => rfl)) sim_int) (fun _ _ => rfl)) rfl (.inl rfl))
      (sb_cons (ss_setix (sim_op op_mod os_mod mono_fMod (sim_callTy call_int1 cs_int mono_fInt rfl T.z_int (by decide +kernel) (simA_cons (sim_op op_addD os_add mono_fAdd (sim_op op_addD os_add mono_fAdd (sim_op op_mul os_mul mono_fMul (sim_ix ix_seq os_ix mono_fIx (sim_var (i := 0) rfl (.inl rfl) (by decide) (by decide)) sim_int (fun _ _ => rfl)) sim_int) (sim_var (i := 3) rfl (.inl rfl) (by decide) (by decide))) sim_int) simA_nil rfl) (by decide) (by decide) rfl rfl) sim_int) (sim_var (i := 0) rfl (.inl rfl) (by decide) (by decide)) sim_int (fun _ => rfl) rfl rfl rfl)
      (sb_cons (ss_if (simT_cmp op_ge os_ge mono_fGe (sim_var (i := 3) rfl (.inl rfl) (by decide) (by decide)) (sim_op op_pow os_pow mono_fPow sim_int sim_int) (nomark _)) (sb_one (ss_setix (sim_op op_fdiv os_div mono_fDiv (sim_var (i := 3) rfl (.inl rfl) (by decide) (by decide)) (sim_var (i := 1) rfl (.inl rfl) (by decide) (by decide))) (sim_var (i := 0) rfl (.inl rfl) (by decide) (by decide)) sim_int (fun _ => rfl) rfl rfl rfl)) sb_nil)
      (sb_one (ss_ret (sim_op op_mod os_mod mono_fMod (sim_callTy call_int1 cs_int mono_fInt rfl T.z_int (by decide +kernel) (simA_cons (sim_var (i := 3) rfl (.inl rfl) (by decide) (by decide)) simA_nil rfl) (by decide) (by decide) rfl rfl) (sim_var (i := 1) rfl (.inl rfl) (by decide) (by decide))))))))))))
abbrev N_law_half : List Str := ["_law_row"]
theorem sc_law_half : FnScope N_law_half ["_law_row"] (defScope s_law_half) := ⟨rfl, rfl, rfl, by decide +kernel, rfl, by decide +kernel, by decide +kernel⟩
def b_law_half : Ds := (dRet (dBin fIx (dApp fLst [(dBin fAdd (dC (.int 1)) (dApp g_law_taken [(dVar 0), (dC (.int 30))])), (dBin fAdd (dC (.int 5)) (dApp g_law_taken [(dVar 0), (dC (.int 12))])), (dBin fAdd (dC (.int 3)) (dApp g_law_taken [(dVar 0), (dC (.int 5))]))]) (dApp g_law_taken [(dVar 0), (dC (.int 3))])))
def g_law_half : List D → Sto → Rt := runD 1 b_law_half
theorem den_law_half {P : Program} {w : World} {Γ : Gam} {mg : Str → Option Value} {base : Heap} (T : Txt Γ mg) : Den P w Γ mg base 2 "_law_half" 1 g_law_half :=
  den_of (k := 1) T.F__law_half sc_law_half (db := b_law_half) (fun f cdv A outer s H E hr =>
    (sb_one (ss_ret (sim_ix ix_seq os_ix mono_fIx (sim_lst (simA_cons (sim_op op_addD os_add mono_fAdd sim_int (sim_callD (den_law_taken T) rfl (hr.mono (by decide)) rfl hx_def (simA_cons (sim_var (i := 0) rfl (.inl rfl) (by decide) (by decide)) (simA_cons sim_int simA_nil rfl) rfl) rfl rfl (by decide) rfl rfl)) (simA_cons (sim_op op_addD os_add mono_fAdd sim_int (sim_callD (den_law_taken T) rfl (hr.mono (by decide)) rfl hx_def (simA_cons (sim_var (i := 0) rfl (.inl rfl) (by decide) (by decide)) (simA_cons sim_int simA_nil rfl) rfl) rfl rfl (by decide) rfl rfl)) (simA_cons (sim_op op_addD os_add mono_fAdd sim_int (sim_callD (den_law_taken T) rfl (hr.mono (by decide)) rfl hx_def (simA_cons (sim_var (i := 0) rfl (.inl rfl) (by decide) (by decide)) (simA_cons sim_int simA_nil rfl) rfl) rfl rfl (by decide) rfl rfl)) simA_nil rfl) rfl) rfl)) (sim_callD (den_law_taken T) rfl (hr.mono (by decide)) rfl hx_def (simA_cons (sim_var (i := 0) rfl (.inl rfl) (by decide) (by decide)) (simA_cons sim_int simA_nil rfl) rfl) rfl rfl (by decide) rfl rfl) (fun _ _ => rfl)))))
abbrev Nlaw : List Str := ["_law_script", "_law_row", "_law_turn", "_law_half_here", "_law_points", "_law_x", "_law_y", "_law_cell", "_law_last", "_law_counts", "_law_number", "_law_one", "_law_other", "_law_first", "_law_second", "_law_due", "_law_ends", "_law_cells", "_law_end"]
theorem sclaw : FnScope Nlaw ["_law_script"] (defScope slaw) := ⟨rfl, rfl, rfl, by decide +kernel, rfl, by decide +kernel, by decide +kernel⟩
def blaw : Ds := (dThen (dAsg (dApp fLst [(dVar 0), (dC (.int 0)), (dC (.int 0)), (dC (.int 0))]) (.nm 1)) (dThen (dFor (dAppI fRange [(dC (.int 4))]) (.nm 2) (dThen (dAsg (dApp fTup [(dApp g_law_half [(dVar 1)]), dDNew]) (.tp [(.nm 3), (.nm 4)])) (dThen (dFor (dAppI fRange [(dC (.int 61))]) (.nm 5) (dFor (dAppI fRange [(dC (.int 61))]) (.nm 6) (dThen (dAsg (dApp fTup [(dBin fDiv (dBin fAdd (dVar 5) (dVar 3)) (dBin fMul (dC (.int 2)) (dVar 3))), (dBin fDiv (dBin fAdd (dVar 6) (dVar 3)) (dBin fMul (dC (.int 2)) (dVar 3)))]) (.nm 7)) (dSetIxG (dIf (dBin fLt (dApp fLen [(dMethD fGet2 (dVar 4) [(dVar 7), (dApp fLst [])])]) (dC (.int 2))) (dBin fAdd (dMethD fGet2 (dVar 4) [(dVar 7), (dApp fLst [])]) (dApp fLst [(dApp fTup [(dVar 5), (dVar 6)])])) (dBin fIxG (dVar 4) (dVar 7))) (dVar 4) (dVar 7))))) (dThen (dAsg (dApp fTup [(dBin fDiv (dBin fAdd (dC (.int 60)) (dVar 3)) (dBin fMul (dC (.int 2)) (dVar 3))), dDNewK]) (.tp [.nm 8, .nm 9])) (dThen (dFor (dAppI fRange [(dC (.int 61))]) (.nm 5) (dThen (dAsg (dBin fDiv (dBin fAdd (dVar 5) (dVar 3)) (dBin fMul (dC (.int 2)) (dVar 3))) (.nm 10)) (dSetK (dBin fAdd (dGetK (dVar 9) (dVar 10) (dC (.int 0))) (dC (.int 1))) (dVar 9) (dVar 10)))) (dThen (dAsg (dApp fTup [(dApp g_law_taken [(dVar 1), (dBin fAdd (dVar 8) (dC (.int 1)))]), (dApp g_law_taken [(dVar 1), (dBin fAdd (dVar 8) (dC (.int 1)))])]) (.nm 11)) (dThen (dAsg (dVar 11) (.nm 12)) (dThen (dIfS (dBin fGt (dApp g_law_taken [(dVar 1), (dC (.int 3))]) (dC (.int 0))) (dAsg (dApp fTup [(dApp g_law_taken [(dVar 1), (dBin fAdd (dVar 8) (dC (.int 1)))]), (dApp g_law_taken [(dVar 1), (dBin fAdd (dVar 8) (dC (.int 1)))])]) (.nm 12)) dNext) (dThen (dAsg (dBin fMul (dIxK (dVar 9) (dBin fIx (dVar 11) (dC (.int 0)))) (dIxK (dVar 9) (dBin fIx (dVar 11) (dC (.int 1))))) (.nm 13)) (dThen (dAsg (dBin fMul (dIxK (dVar 9) (dBin fIx (dVar 12) (dC (.int 0)))) (dIxK (dVar 9) (dBin fIx (dVar 12) (dC (.int 1))))) (.nm 14)) (dThen (dAsg (dIf (dBin fEq (dVar 11) (dVar 12)) (dBin fMul (dVar 13) (dBin fSub (dVar 13) (dC (.int 1)))) (dBin fMul (dVar 13) (dVar 14))) (.nm 15)) (dThen (dIfS (dBin fNe (dApp gpiece_count [(dVar 3), (dVar 11), (dVar 12)]) (dVar 15)) (dRet (dC (.bl false))) dNext) (dThen (dAsg (dLc (dSeq (dBin fIxG (dVar 4) (dVar 12))) (.nm 18) (dBin fNe (dVar 18) (dBin fIx (dBin fIxG (dVar 4) (dVar 11)) (dC (.int 0)))) (dVar 18) [18]) (.nm 16)) (dThen (dIfS (dBin fNe (dApp gfirst_piece [(dVar 3), (dVar 11), (dVar 12)]) (dIf (dBin fGt (dVar 15) (dC (.int 0))) (dBin fAdd (dBin fIx (dBin fIxG (dVar 4) (dVar 11)) (dC (.int 0))) (dBin fIx (dVar 16) (dC (.int 0)))) (dC .non))) (dRet (dC (.bl false))) dNext) (dThen (dAsg (dApp fTuple [(dUn fSortSetG (dApp fLst [(dVar 11), (dVar 12)]))]) (.nm 17)) (dIfS (dBin fNe (dApp gwhole_count [(dVar 3), (dVar 17)]) (dIf (dBin fEq (dApp fLen [(dVar 17)]) (dC (.int 1))) (dVar 15) (dBin fMul (dC (.int 2)) (dVar 15)))) (dRet (dC (.bl false))) dNext)))))))))))))))) (dRet (dBin fEq (dApp gpiece_count [(dC (.int 30)), (dApp fTup [(dC (.int 1)), (dC (.int 1))]), (dApp fTup [(dC (.int 1)), (dC (.int 1))])]) (dBin fMul (dC (.int 961)) (dC (.int 960)))))))
def glaw : List D → Sto → Rt := runD 19 blaw
theorem denlaw {P : Program} {w : World} {Γ : Gam} {mg : Str → Option Value} {base : Heap} (T : Txt Γ mg) {cdv : Value} {f : Addr} {oc : Value} {od : Option Addr} {kV doc pm : Value} {an : Option Addr} {ct : Value} {osl : Array (Option Value)} (lk : Γ.K.lookup f = some ⟨oc, od, .func (PySem.W.fnOf "law" "law" (defArgs slaw) (defBody slaw) (defScope slaw) .none kV doc pm an cdv ct), osl⟩) (hcd : PySem.W.codeIn Γ.K cdv "law" = true) :
    FnOk P w Γ.K mg base (L2.CX P w) 7 f (PySem.W.fnOf "law" "law" (defArgs slaw) (defBody slaw) (defScope slaw) .none kV doc pm an cdv ct) ["_law_script"] (spD Γ 1 glaw) :=
  den_ofL (k := 6) lk hcd sclaw (db := blaw) (fun A outer s H E hr =>
    (sb_cons (ss_set (i := 1) sclaw.nd rfl (.inl rfl) (sim_lst (simA_cons (sim_var (i := 0) rfl (.inl rfl) (by decide) (by decide)) (simA_cons sim_int (simA_cons sim_int (simA_cons sim_int simA_nil rfl) rfl) rfl) rfl)) rfl (.inl rfl))
      (sb_cons (ss_for hp_def rfl (si_range1 rfl T.z_range (simA_cons sim_int simA_nil rfl) rfl rfl) (sg_name (i := 2) sclaw.nd rfl (.inl rfl) (.inr rfl)) (sb_cons (ss_asg (sim_tup (simA_cons (sim_callD (den_law_half T) rfl (hr.mono (by decide)) rfl hx_def (simA_cons (sim_var (i := 1) rfl (.inl rfl) (by decide) (by decide)) simA_nil rfl) rfl rfl (by decide) rfl rfl) (simA_cons sim_dnew simA_nil rfl) rfl)) (sg_tup rfl rfl (sgs_cons (sg_name (i := 3) sclaw.nd rfl (.inl rfl) (.inr rfl)) (sgs_cons (sg_name (i := 4) sclaw.nd rfl (.inr rfl) (.inl rfl)) sgs_nil rfl) rfl) rfl rfl rfl) rfl rfl rfl)
      (sb_cons (ss_for hp_def rfl (si_range1 rfl T.z_range (simA_cons sim_int simA_nil rfl) rfl rfl) (sg_name (i := 5) sclaw.nd rfl (.inl rfl) (.inr rfl)) (sb_one (ss_for hp_def rfl (si_range1 rfl T.z_range (simA_cons sim_int simA_nil rfl) rfl rfl) (sg_name (i := 6) sclaw.nd rfl (.inl rfl) (.inr rfl)) (sb_cons (ss_set (i := 7) sclaw.nd rfl (.inl rfl) (sim_tup (simA_cons (sim_op op_fdiv os_div mono_fDiv (sim_op op_addD os_add mono_fAdd (sim_var (i := 5) rfl (.inl rfl) (by decide) (by decide)) (sim_var (i := 3) rfl (.inl rfl) (by decide) (by decide))) (sim_op op_mul os_mul mono_fMul sim_int (sim_var (i := 3) rfl (.inl rfl) (by decide) (by decide)))) (simA_cons (sim_op op_fdiv os_div mono_fDiv (sim_op op_addD os_add mono_fAdd (sim_var (i := 6) rfl (.inl rfl) (by decide) (by decide)) (sim_var (i := 3) rfl (.inl rfl) (by decide) (by decide))) (sim_op op_mul os_mul mono_fMul sim_int (sim_var (i := 3) rfl (.inl rfl) (by decide) (by decide)))) simA_nil rfl) rfl)) rfl (.inl rfl))
      (sb_one (ss_setixG rfl (un65 (hr.mono (by decide) : Room 0 _)) (sim_if (simT_cmp (op_ltD (hr.mono (by decide) : Room 0 _).units0) os_lt mono_fLt (sim_callB cr_len cs_len mono_fLen rfl T.z_len (by decide +kernel) (simA_cons (sim_methD rfl PySem.F.slot_dict_get PySem.F.type_dict_get (mt_getN2 rfl (un65 (hr.mono (by decide) : Room 0 _))) ms_get2 mono_fGet2 (sim_var (i := 4) rfl (.inr (.inl rfl)) (by decide) (by decide)) (simA_cons (sim_var (i := 7) rfl (.inl rfl) (by decide) (by decide)) (simA_cons (sim_lst simA_nil) simA_nil rfl) rfl) rfl rfl rfl rfl rfl) simA_nil rfl) (by decide) (by decide) rfl rfl) sim_int (nomark _)) (sim_op op_addD os_add mono_fAdd (sim_methD rfl PySem.F.slot_dict_get PySem.F.type_dict_get (mt_getN2 rfl (un65 (hr.mono (by decide) : Room 0 _))) ms_get2 mono_fGet2 (sim_var (i := 4) rfl (.inr (.inl rfl)) (by decide) (by decide)) (simA_cons (sim_var (i := 7) rfl (.inl rfl) (by decide) (by decide)) (simA_cons (sim_lst simA_nil) simA_nil rfl) rfl) rfl rfl rfl rfl rfl) (sim_lst (simA_cons (sim_tup (simA_cons (sim_var (i := 5) rfl (.inl rfl) (by decide) (by decide)) (simA_cons (sim_var (i := 6) rfl (.inl rfl) (by decide) (by decide)) simA_nil rfl) rfl)) simA_nil rfl))) (sim_ix (ix_G rfl (un65 (hr.mono (by decide) : Room 0 _))) os_ixG mono_fIxG (sim_var (i := 4) rfl (.inr (.inl rfl)) (by decide) (by decide)) (sim_var (i := 7) rfl (.inl rfl) (by decide) (by decide)) (fun _ _ => rfl))) (sim_var (i := 4) rfl (.inr (.inl rfl)) (by decide) (by decide)) (sim_var (i := 7) rfl (.inl rfl) (by decide) (by decide)) (fun _ => rfl) rfl rfl rfl))) (fun _ => rfl))) (fun _ => rfl))
      (sb_cons (ss_par (i := 8) (j := 9) rfl sclaw.nd rfl rfl (by decide) rfl rfl (simA_cons (sim_op op_fdiv os_div mono_fDiv (sim_op op_addD os_add mono_fAdd sim_int (sim_var (i := 3) rfl (.inl rfl) (by decide) (by decide))) (sim_op op_mul os_mul mono_fMul sim_int (sim_var (i := 3) rfl (.inl rfl) (by decide) (by decide)))) (simA_cons sim_dnewK simA_nil rfl) rfl) rfl rfl rfl)
      (sb_cons (ss_for hp_def rfl (si_range1 rfl T.z_range (simA_cons sim_int simA_nil rfl) rfl rfl) (sg_name (i := 5) sclaw.nd rfl (.inl rfl) (.inr rfl)) (sb_cons (ss_set (i := 10) sclaw.nd rfl (.inl rfl) (sim_op op_fdiv os_div mono_fDiv (sim_op op_addD os_add mono_fAdd (sim_var (i := 5) rfl (.inl rfl) (by decide) (by decide)) (sim_var (i := 3) rfl (.inl rfl) (by decide) (by decide))) (sim_op op_mul os_mul mono_fMul sim_int (sim_var (i := 3) rfl (.inl rfl) (by decide) (by decide)))) rfl (.inl rfl))
      (sb_one (ss_setK (un65 (hr.mono (by decide) : Room 0 _)) (sim_op op_addD os_add mono_fAdd (sim_getK (un65 (hr.mono (by decide) : Room 0 _)) (sim_var (i := 9) rfl (.inl rfl) (by decide) (by decide)) (sim_var (i := 10) rfl (.inl rfl) (by decide) (by decide)) sim_int ⟨rfl, rfl, rfl, rfl⟩) sim_int) (sim_var (i := 9) rfl (.inl rfl) (by decide) (by decide)) (sim_var (i := 10) rfl (.inl rfl) (by decide) (by decide)) rfl))) (fun _ => rfl))
      (sb_cons (ss_set (i := 11) sclaw.nd rfl (.inr rfl) (sim_tup (simA_cons (sim_callD (den_law_taken T) rfl (hr.mono (by decide)) rfl hx_def (simA_cons (sim_var (i := 1) rfl (.inl rfl) (by decide) (by decide)) (simA_cons (sim_op op_addD os_add mono_fAdd (sim_var (i := 8) rfl (.inl rfl) (by decide) (by decide)) sim_int) simA_nil rfl) rfl) rfl rfl (by decide) rfl rfl) (simA_cons (sim_callD (den_law_taken T) rfl (hr.mono (by decide)) rfl hx_def (simA_cons (sim_var (i := 1) rfl (.inl rfl) (by decide) (by decide)) (simA_cons (sim_op op_addD os_add mono_fAdd (sim_var (i := 8) rfl (.inl rfl) (by decide) (by decide)) sim_int) simA_nil rfl) rfl) rfl rfl (by decide) rfl rfl) simA_nil rfl) rfl)) rfl (.inl rfl))
      (sb_cons (ss_set (i := 12) sclaw.nd rfl (.inl rfl) (sim_var (i := 11) rfl (.inr (.inl rfl)) (by decide) (by decide)) rfl (.inl rfl))
      (sb_cons (ss_if (simT_cmp op_gt os_gt mono_fGt (sim_callD (den_law_taken T) rfl (hr.mono (by decide)) rfl hx_def (simA_cons (sim_var (i := 1) rfl (.inl rfl) (by decide) (by decide)) (simA_cons sim_int simA_nil rfl) rfl) rfl rfl (by decide) rfl rfl) sim_int (nomark _)) (sb_one (ss_set (i := 12) sclaw.nd rfl (.inl rfl) (sim_tup (simA_cons (sim_callD (den_law_taken T) rfl (hr.mono (by decide)) rfl hx_def (simA_cons (sim_var (i := 1) rfl (.inl rfl) (by decide) (by decide)) (simA_cons (sim_op op_addD os_add mono_fAdd (sim_var (i := 8) rfl (.inl rfl) (by decide) (by decide)) sim_int) simA_nil rfl) rfl) rfl rfl (by decide) rfl rfl) (simA_cons (sim_callD (den_law_taken T) rfl (hr.mono (by decide)) rfl hx_def (simA_cons (sim_var (i := 1) rfl (.inl rfl) (by decide) (by decide)) (simA_cons (sim_op op_addD os_add mono_fAdd (sim_var (i := 8) rfl (.inl rfl) (by decide) (by decide)) sim_int) simA_nil rfl) rfl) rfl rfl (by decide) rfl rfl) simA_nil rfl) rfl)) rfl (.inl rfl))) sb_nil)
      (sb_cons (ss_set (i := 13) sclaw.nd rfl (.inl rfl) (sim_op op_mul os_mul mono_fMul (sim_ixK (un65 (hr.mono (by decide) : Room 0 _)) (sim_var (i := 9) rfl (.inl rfl) (by decide) (by decide)) (sim_ix ix_seq os_ix mono_fIx (sim_var (i := 11) rfl (.inr (.inl rfl)) (by decide) (by decide)) sim_int (fun _ _ => rfl)) (fun _ _ => rfl)) (sim_ixK (un65 (hr.mono (by decide) : Room 0 _)) (sim_var (i := 9) rfl (.inl rfl) (by decide) (by decide)) (sim_ix ix_seq os_ix mono_fIx (sim_var (i := 11) rfl (.inr (.inl rfl)) (by decide) (by decide)) sim_int (fun _ _ => rfl)) (fun _ _ => rfl))) rfl (.inl rfl))
      (sb_cons (ss_set (i := 14) sclaw.nd rfl (.inl rfl) (sim_op op_mul os_mul mono_fMul (sim_ixK (un65 (hr.mono (by decide) : Room 0 _)) (sim_var (i := 9) rfl (.inl rfl) (by decide) (by decide)) (sim_ix ix_seq os_ix mono_fIx (sim_var (i := 12) rfl (.inl rfl) (by decide) (by decide)) sim_int (fun _ _ => rfl)) (fun _ _ => rfl)) (sim_ixK (un65 (hr.mono (by decide) : Room 0 _)) (sim_var (i := 9) rfl (.inl rfl) (by decide) (by decide)) (sim_ix ix_seq os_ix mono_fIx (sim_var (i := 12) rfl (.inl rfl) (by decide) (by decide)) sim_int (fun _ _ => rfl)) (fun _ _ => rfl))) rfl (.inl rfl))
      (sb_cons (ss_set (i := 15) sclaw.nd rfl (.inl rfl) (sim_if (simT_cmp (op_eqD (hr.mono (by decide) : Room 0 _).units) os_eq mono_fEq (sim_var (i := 11) rfl (.inr (.inl rfl)) (by decide) (by decide)) (sim_var (i := 12) rfl (.inl rfl) (by decide) (by decide)) (nomark _)) (sim_op op_mul os_mul mono_fMul (sim_var (i := 13) rfl (.inl rfl) (by decide) (by decide)) (sim_op op_sub os_sub mono_fSub (sim_var (i := 13) rfl (.inl rfl) (by decide) (by decide)) sim_int)) (sim_op op_mul os_mul mono_fMul (sim_var (i := 13) rfl (.inl rfl) (by decide) (by decide)) (sim_var (i := 14) rfl (.inl rfl) (by decide) (by decide)))) rfl (.inl rfl))
      (sb_cons (ss_if (simT_cmp (op_neD (hr.mono (by decide) : Room 0 _).units) os_ne mono_fNe (sim_callD (denpiece_count T) rfl (hr.mono (by decide)) rfl hx_def (simA_cons (sim_var (i := 3) rfl (.inl rfl) (by decide) (by decide)) (simA_cons (sim_var (i := 11) rfl (.inr (.inl rfl)) (by decide) (by decide)) (simA_cons (sim_var (i := 12) rfl (.inl rfl) (by decide) (by decide)) simA_nil rfl) rfl) rfl) rfl rfl (by decide) rfl rfl) (sim_var (i := 15) rfl (.inl rfl) (by decide) (by decide)) (nomark _)) (sb_one (ss_ret sim_bl)) sb_nil)
      (sb_cons (ss_setLc1 (i := 16) rfl rfl rfl (sw_true rfl rfl rfl (by decide +kernel)) (own := [("_law_end", 18)]) sclaw.nd (si_seq rfl (sim_ix (ix_G rfl (un65 (hr.mono (by decide) : Room 0 _))) os_ixG mono_fIxG (sim_var (i := 4) rfl (.inr (.inl rfl)) (by decide) (by decide)) (sim_var (i := 12) rfl (.inl rfl) (by decide) (by decide)) (fun _ _ => rfl))) (blkOk_by (own := [("_law_end", 18)]) (N := Nlaw) (sc := defScope slaw) (by decide +kernel)) (by decide) (fun _ _ _ _ _ => (sg_name (i := 18) sclaw.nd rfl (.inl rfl) (.inr rfl))) (fun _ _ _ _ _ => (simT_cmp (op_neD (hr.mono (by decide) : Room 0 _).units) os_ne mono_fNe (sim_var (i := 18) rfl (.inl rfl) (by decide) (by decide)) (sim_ix ix_seq os_ix mono_fIx (sim_ix (ix_G rfl (un65 (hr.mono (by decide) : Room 0 _))) os_ixG mono_fIxG (sim_var (i := 4) rfl (by first | exact .inr (.inl rfl) | exact .inr (.inr rfl) | exact .inl rfl) (by decide) (by decide)) (sim_var (i := 11) rfl (by first | exact .inr (.inl rfl) | exact .inr (.inr rfl) | exact .inl rfl) (by decide) (by decide)) (fun _ _ => rfl)) sim_int (fun _ _ => rfl)) (nomark _))) (fun _ _ _ _ _ => (sim_var (i := 18) rfl (.inl rfl) (by decide) (by decide))) (fun _ => rfl))
      (sb_cons (ss_if (simT_cmp (op_neD (hr.mono (by decide) : Room 0 _).units) os_ne mono_fNe (sim_callD (denfirst_piece T) rfl (hr.mono (by decide)) rfl hx_def (simA_cons (sim_var (i := 3) rfl (.inl rfl) (by decide) (by decide)) (simA_cons (sim_var (i := 11) rfl (.inr (.inl rfl)) (by decide) (by decide)) (simA_cons (sim_var (i := 12) rfl (.inl rfl) (by decide) (by decide)) simA_nil rfl) rfl) rfl) rfl rfl (by decide) rfl rfl) (sim_if (simT_cmp op_gt os_gt mono_fGt (sim_var (i := 15) rfl (.inl rfl) (by decide) (by decide)) sim_int (nomark _)) (sim_op op_addD os_add mono_fAdd (sim_ix ix_seq os_ix mono_fIx (sim_ix (ix_G rfl (un65 (hr.mono (by decide) : Room 0 _))) os_ixG mono_fIxG (sim_var (i := 4) rfl (.inr (.inl rfl)) (by decide) (by decide)) (sim_var (i := 11) rfl (.inr (.inl rfl)) (by decide) (by decide)) (fun _ _ => rfl)) sim_int (fun _ _ => rfl)) (sim_ix ix_seq os_ix mono_fIx (sim_var (i := 16) rfl (.inl rfl) (by decide) (by decide)) sim_int (fun _ _ => rfl))) sim_non) (nomark _)) (sb_one (ss_ret sim_bl)) sb_nil)
      (sb_cons (ss_set (i := 17) sclaw.nd rfl (.inl rfl) (sim_callTy call_tuple_of cs_tuple mono_fTuple rfl T.z_tuple (by decide +kernel) (simA_cons (sim_sortsetG rfl rfl (hr.mono (by decide)) rfl T.z_sorted rfl T.z_set (sim_lst (simA_cons (sim_var (i := 11) rfl (.inr (.inl rfl)) (by decide) (by decide)) (simA_cons (sim_var (i := 12) rfl (.inl rfl) (by decide) (by decide)) simA_nil rfl) rfl)) rfl rfl) simA_nil rfl) (by decide) (by decide) rfl rfl) rfl (.inl rfl))
      (sb_one (ss_if (simT_cmp (op_neD (hr.mono (by decide) : Room 0 _).units) os_ne mono_fNe (sim_callD (denwhole_count T) rfl (hr.mono (by decide)) rfl hx_def (simA_cons (sim_var (i := 3) rfl (.inl rfl) (by decide) (by decide)) (simA_cons (sim_var (i := 17) rfl (.inl rfl) (by decide) (by decide)) simA_nil rfl) rfl) rfl rfl (by decide) rfl rfl) (sim_if (simT_cmp (op_eqD (hr.mono (by decide) : Room 0 _).units) os_eq mono_fEq (sim_callB cr_len cs_len mono_fLen rfl T.z_len (by decide +kernel) (simA_cons (sim_var (i := 17) rfl (.inl rfl) (by decide) (by decide)) simA_nil rfl) (by decide) (by decide) rfl rfl) sim_int (nomark _)) (sim_var (i := 15) rfl (.inl rfl) (by decide) (by decide)) (sim_op op_mul os_mul mono_fMul sim_int (sim_var (i := 15) rfl (.inl rfl) (by decide) (by decide)))) (nomark _)) (sb_one (ss_ret sim_bl)) sb_nil)))))))))))))))) (fun _ => rfl))
      (sb_one (ss_ret (sim_cmp (op_eqD (hr.mono (by decide) : Room 0 _).units) os_eq mono_fEq (sim_callD (denpiece_count T) rfl (hr.mono (by decide)) rfl hx_def (simA_cons sim_int (simA_cons (sim_tup (simA_cons sim_int (simA_cons sim_int simA_nil rfl) rfl)) (simA_cons (sim_tup (simA_cons sim_int (simA_cons sim_int simA_nil rfl) rfl)) simA_nil rfl) rfl) rfl) rfl rfl (by decide) rfl rfl) (sim_op op_mul os_mul mono_fMul sim_int sim_int) (nomark _)))))))
theorem all_mk (hs : Says glaw) {l : PySem.W.OpenLaw} {w : World} {K : PySem.W.Frag} {h : Heap} {mg : Str → Option Value} {fa : Addr} {C_InvalidHalf C_InvalidCell f_is_number f_check_half f_cell_number f_ends_in f_last_number f_is_on_board f_check_cell f_end_count f_piece_count f_first_piece f_whole_count f__law_taken f__law_half f_law : Addr} {t_GREATEST_HALF t_GREATEST_COORDINATE : Tok} {od_is_number an_is_number : Option Addr} {sl_is_number : Array (Option Value)} {oc_is_number kV_is_number dc_is_number pm_is_number ct_is_number cd_is_number : Value}
    {od_check_half an_check_half : Option Addr} {sl_check_half : Array (Option Value)} {oc_check_half kV_check_half dc_check_half pm_check_half ct_check_half cd_check_half : Value}
    {od_cell_number an_cell_number : Option Addr} {sl_cell_number : Array (Option Value)} {oc_cell_number kV_cell_number dc_cell_number pm_cell_number ct_cell_number cd_cell_number : Value}
    {od_ends_in an_ends_in : Option Addr} {sl_ends_in : Array (Option Value)} {oc_ends_in kV_ends_in dc_ends_in pm_ends_in ct_ends_in cd_ends_in : Value}
    {od_last_number an_last_number : Option Addr} {sl_last_number : Array (Option Value)} {oc_last_number kV_last_number dc_last_number pm_last_number ct_last_number cd_last_number : Value}
    {od_is_on_board an_is_on_board : Option Addr} {sl_is_on_board : Array (Option Value)} {oc_is_on_board kV_is_on_board dc_is_on_board pm_is_on_board ct_is_on_board cd_is_on_board : Value}
    {od_check_cell an_check_cell : Option Addr} {sl_check_cell : Array (Option Value)} {oc_check_cell kV_check_cell dc_check_cell pm_check_cell ct_check_cell cd_check_cell : Value}
    {od_end_count an_end_count : Option Addr} {sl_end_count : Array (Option Value)} {oc_end_count kV_end_count dc_end_count pm_end_count ct_end_count cd_end_count : Value}
    {od_piece_count an_piece_count : Option Addr} {sl_piece_count : Array (Option Value)} {oc_piece_count kV_piece_count dc_piece_count pm_piece_count ct_piece_count cd_piece_count : Value}
    {od_first_piece an_first_piece : Option Addr} {sl_first_piece : Array (Option Value)} {oc_first_piece kV_first_piece dc_first_piece pm_first_piece ct_first_piece cd_first_piece : Value}
    {od_whole_count an_whole_count : Option Addr} {sl_whole_count : Array (Option Value)} {oc_whole_count kV_whole_count dc_whole_count pm_whole_count ct_whole_count cd_whole_count : Value}
    {od__law_taken an__law_taken : Option Addr} {sl__law_taken : Array (Option Value)} {oc__law_taken kV__law_taken dc__law_taken pm__law_taken ct__law_taken cd__law_taken : Value}
    {od__law_half an__law_half : Option Addr} {sl__law_half : Array (Option Value)} {oc__law_half kV__law_half dc__law_half pm__law_half ct__law_half cd__law_half : Value}
    {od_law an_law : Option Addr} {sl_law : Array (Option Value)} {oc_law kV_law dc_law pm_law ct_law cd_law : Value} (X : K.In h) (G : h.Ns mainGlobals mg) (hfa : mg "law" = some (.ref fa))
    (a_InvalidHalf : PySem.W.nsIn K mainGlobals "InvalidHalf" = some (some (.ref C_InvalidHalf)))
    (a_InvalidCell : PySem.W.nsIn K mainGlobals "InvalidCell" = some (some (.ref C_InvalidCell)))
    (a_f_is_number : PySem.W.nsIn K mainGlobals "is_number" = some (some (.ref f_is_number)))
    (l_is_number : K.lookup f_is_number = some ⟨oc_is_number, od_is_number, .func (PySem.W.fnOf "is_number" "is_number" (defArgs sis_number) (defBody sis_number) (defScope sis_number) .none kV_is_number dc_is_number pm_is_number an_is_number cd_is_number ct_is_number), sl_is_number⟩)
    (c_is_number : PySem.W.codeIn K cd_is_number "is_number" = true)
    (k_is_number : PySem.W.keepIn K (.ref f_is_number) = true)
    (c_GREATEST_HALF : PySem.W.nsIn K mainGlobals "GREATEST_HALF" = some (some (.int 30 t_GREATEST_HALF)))
    (b1 : excFB ⟨K, clM [("InvalidHalf", C_InvalidHalf), ("InvalidCell", C_InvalidCell)], [], []⟩ "InvalidHalf" = true)
    (a_f_check_half : PySem.W.nsIn K mainGlobals "check_half" = some (some (.ref f_check_half)))
    (l_check_half : K.lookup f_check_half = some ⟨oc_check_half, od_check_half, .func (PySem.W.fnOf "check_half" "check_half" (defArgs scheck_half) (defBody scheck_half) (defScope scheck_half) .none kV_check_half dc_check_half pm_check_half an_check_half cd_check_half ct_check_half), sl_check_half⟩)
    (c_check_half : PySem.W.codeIn K cd_check_half "check_half" = true)
    (k_check_half : PySem.W.keepIn K (.ref f_check_half) = true)
    (a_f_cell_number : PySem.W.nsIn K mainGlobals "cell_number" = some (some (.ref f_cell_number)))
    (l_cell_number : K.lookup f_cell_number = some ⟨oc_cell_number, od_cell_number, .func (PySem.W.fnOf "cell_number" "cell_number" (defArgs scell_number) (defBody scell_number) (defScope scell_number) .none kV_cell_number dc_cell_number pm_cell_number an_cell_number cd_cell_number ct_cell_number), sl_cell_number⟩)
    (c_cell_number : PySem.W.codeIn K cd_cell_number "cell_number" = true)
    (k_cell_number : PySem.W.keepIn K (.ref f_cell_number) = true)
    (c_GREATEST_COORDINATE : PySem.W.nsIn K mainGlobals "GREATEST_COORDINATE" = some (some (.int 60 t_GREATEST_COORDINATE)))
    (a_f_ends_in : PySem.W.nsIn K mainGlobals "ends_in" = some (some (.ref f_ends_in)))
    (l_ends_in : K.lookup f_ends_in = some ⟨oc_ends_in, od_ends_in, .func (PySem.W.fnOf "ends_in" "ends_in" (defArgs sends_in) (defBody sends_in) (defScope sends_in) .none kV_ends_in dc_ends_in pm_ends_in an_ends_in cd_ends_in ct_ends_in), sl_ends_in⟩)
    (c_ends_in : PySem.W.codeIn K cd_ends_in "ends_in" = true)
    (k_ends_in : PySem.W.keepIn K (.ref f_ends_in) = true)
    (a_f_last_number : PySem.W.nsIn K mainGlobals "last_number" = some (some (.ref f_last_number)))
    (l_last_number : K.lookup f_last_number = some ⟨oc_last_number, od_last_number, .func (PySem.W.fnOf "last_number" "last_number" (defArgs slast_number) (defBody slast_number) (defScope slast_number) .none kV_last_number dc_last_number pm_last_number an_last_number cd_last_number ct_last_number), sl_last_number⟩)
    (c_last_number : PySem.W.codeIn K cd_last_number "last_number" = true)
    (k_last_number : PySem.W.keepIn K (.ref f_last_number) = true)
    (a_f_is_on_board : PySem.W.nsIn K mainGlobals "is_on_board" = some (some (.ref f_is_on_board)))
    (l_is_on_board : K.lookup f_is_on_board = some ⟨oc_is_on_board, od_is_on_board, .func (PySem.W.fnOf "is_on_board" "is_on_board" (defArgs sis_on_board) (defBody sis_on_board) (defScope sis_on_board) .none kV_is_on_board dc_is_on_board pm_is_on_board an_is_on_board cd_is_on_board ct_is_on_board), sl_is_on_board⟩)
    (c_is_on_board : PySem.W.codeIn K cd_is_on_board "is_on_board" = true)
    (k_is_on_board : PySem.W.keepIn K (.ref f_is_on_board) = true)
    (b2 : excFB ⟨K, clM [("InvalidHalf", C_InvalidHalf), ("InvalidCell", C_InvalidCell)], [], []⟩ "InvalidCell" = true)
    (a_f_check_cell : PySem.W.nsIn K mainGlobals "check_cell" = some (some (.ref f_check_cell)))
    (l_check_cell : K.lookup f_check_cell = some ⟨oc_check_cell, od_check_cell, .func (PySem.W.fnOf "check_cell" "check_cell" (defArgs scheck_cell) (defBody scheck_cell) (defScope scheck_cell) .none kV_check_cell dc_check_cell pm_check_cell an_check_cell cd_check_cell ct_check_cell), sl_check_cell⟩)
    (c_check_cell : PySem.W.codeIn K cd_check_cell "check_cell" = true)
    (k_check_cell : PySem.W.keepIn K (.ref f_check_cell) = true)
    (a_f_end_count : PySem.W.nsIn K mainGlobals "end_count" = some (some (.ref f_end_count)))
    (l_end_count : K.lookup f_end_count = some ⟨oc_end_count, od_end_count, .func (PySem.W.fnOf "end_count" "end_count" (defArgs send_count) (defBody send_count) (defScope send_count) .none kV_end_count dc_end_count pm_end_count an_end_count cd_end_count ct_end_count), sl_end_count⟩)
    (c_end_count : PySem.W.codeIn K cd_end_count "end_count" = true)
    (k_end_count : PySem.W.keepIn K (.ref f_end_count) = true)
    (a_f_piece_count : PySem.W.nsIn K mainGlobals "piece_count" = some (some (.ref f_piece_count)))
    (l_piece_count : K.lookup f_piece_count = some ⟨oc_piece_count, od_piece_count, .func (PySem.W.fnOf "piece_count" "piece_count" (defArgs spiece_count) (defBody spiece_count) (defScope spiece_count) .none kV_piece_count dc_piece_count pm_piece_count an_piece_count cd_piece_count ct_piece_count), sl_piece_count⟩)
    (c_piece_count : PySem.W.codeIn K cd_piece_count "piece_count" = true)
    (k_piece_count : PySem.W.keepIn K (.ref f_piece_count) = true)
    (a_f_first_piece : PySem.W.nsIn K mainGlobals "first_piece" = some (some (.ref f_first_piece)))
    (l_first_piece : K.lookup f_first_piece = some ⟨oc_first_piece, od_first_piece, .func (PySem.W.fnOf "first_piece" "first_piece" (defArgs sfirst_piece) (defBody sfirst_piece) (defScope sfirst_piece) .none kV_first_piece dc_first_piece pm_first_piece an_first_piece cd_first_piece ct_first_piece), sl_first_piece⟩)
    (c_first_piece : PySem.W.codeIn K cd_first_piece "first_piece" = true)
    (k_first_piece : PySem.W.keepIn K (.ref f_first_piece) = true)
    (a_f_whole_count : PySem.W.nsIn K mainGlobals "whole_count" = some (some (.ref f_whole_count)))
    (l_whole_count : K.lookup f_whole_count = some ⟨oc_whole_count, od_whole_count, .func (PySem.W.fnOf "whole_count" "whole_count" (defArgs swhole_count) (defBody swhole_count) (defScope swhole_count) .none kV_whole_count dc_whole_count pm_whole_count an_whole_count cd_whole_count ct_whole_count), sl_whole_count⟩)
    (c_whole_count : PySem.W.codeIn K cd_whole_count "whole_count" = true)
    (k_whole_count : PySem.W.keepIn K (.ref f_whole_count) = true)
    (a_f__law_taken : PySem.W.nsIn K mainGlobals "_law_taken" = some (some (.ref f__law_taken)))
    (l__law_taken : K.lookup f__law_taken = some ⟨oc__law_taken, od__law_taken, .func (PySem.W.fnOf "_law_taken" "_law_taken" (defArgs s_law_taken) (defBody s_law_taken) (defScope s_law_taken) .none kV__law_taken dc__law_taken pm__law_taken an__law_taken cd__law_taken ct__law_taken), sl__law_taken⟩)
    (c__law_taken : PySem.W.codeIn K cd__law_taken "_law_taken" = true)
    (k__law_taken : PySem.W.keepIn K (.ref f__law_taken) = true)
    (a_f__law_half : PySem.W.nsIn K mainGlobals "_law_half" = some (some (.ref f__law_half)))
    (l__law_half : K.lookup f__law_half = some ⟨oc__law_half, od__law_half, .func (PySem.W.fnOf "_law_half" "_law_half" (defArgs s_law_half) (defBody s_law_half) (defScope s_law_half) .none kV__law_half dc__law_half pm__law_half an__law_half cd__law_half ct__law_half), sl__law_half⟩)
    (c__law_half : PySem.W.codeIn K cd__law_half "_law_half" = true)
    (k__law_half : PySem.W.keepIn K (.ref f__law_half) = true)
    (b0 : zB K ["isinstance", "int", "bool", "max", "min", "len", "all", "range", "sorted", "set", "tuple"] = true)
    (a_law : PySem.W.nsIn K mainGlobals "law" = some (some (.ref f_law)))
    (l_law : K.lookup f_law = some ⟨oc_law, od_law, .func (PySem.W.fnOf "law" "law" (defArgs slaw) (defBody slaw) (defScope slaw) .none kV_law dc_law pm_law an_law cd_law ct_law), sl_law⟩)
    (c_law : PySem.W.codeIn K cd_law "law" = true) :
    LamX.LawAtS l w K (L2.CX l.prog w) 7 63 "_law_script" mg fa h := by
  have e := hfa.symm.trans (PySem.W.mg_of X G a_law)
  cases e
  have T : Txt ⟨K, clM [("InvalidHalf", C_InvalidHalf), ("InvalidCell", C_InvalidCell)], [], []⟩ mg := {
    z_isinstance := zB_ok X G b0 "isinstance" (by decide),
    z_int := zB_ok X G b0 "int" (by decide),
    z_bool := zB_ok X G b0 "bool" (by decide),
    F_is_number := ⟨⟨f_is_number, _, (fun_mk (st := sis_number) l_is_number c_is_number k_is_number), PySem.W.mg_of X G a_f_is_number, ((fun_mk (st := sis_number) l_is_number c_is_number k_is_number).binds (ps := ["value", "low", "high"]) fun _ _ _ _ _ _ us hl => match us, hl with | [_, _, _], _ => rfl)⟩⟩,
    c_GREATEST_HALF := ⟨⟨t_GREATEST_HALF, PySem.W.mg_of X G c_GREATEST_HALF⟩⟩,
    x_InvalidHalf := excFB_ok (PySem.W.mg_of X G a_InvalidHalf) b1,
    F_check_half := ⟨⟨f_check_half, _, (fun_mk (st := scheck_half) l_check_half c_check_half k_check_half), PySem.W.mg_of X G a_f_check_half, ((fun_mk (st := scheck_half) l_check_half c_check_half k_check_half).binds (ps := ["half"]) fun _ _ _ _ _ _ us hl => match us, hl with | [_], _ => rfl)⟩⟩,
    F_cell_number := ⟨⟨f_cell_number, _, (fun_mk (st := scell_number) l_cell_number c_cell_number k_cell_number), PySem.W.mg_of X G a_f_cell_number, ((fun_mk (st := scell_number) l_cell_number c_cell_number k_cell_number).binds (ps := ["coordinate", "half"]) fun _ _ _ _ _ _ us hl => match us, hl with | [_, _], _ => rfl)⟩⟩,
    z_max := zB_ok X G b0 "max" (by decide),
    c_GREATEST_COORDINATE := ⟨⟨t_GREATEST_COORDINATE, PySem.W.mg_of X G c_GREATEST_COORDINATE⟩⟩,
    z_min := zB_ok X G b0 "min" (by decide),
    F_ends_in := ⟨⟨f_ends_in, _, (fun_mk (st := sends_in) l_ends_in c_ends_in k_ends_in), PySem.W.mg_of X G a_f_ends_in, ((fun_mk (st := sends_in) l_ends_in c_ends_in k_ends_in).binds (ps := ["cell", "half"]) fun _ _ _ _ _ _ us hl => match us, hl with | [_, _], _ => rfl)⟩⟩,
    F_last_number := ⟨⟨f_last_number, _, (fun_mk (st := slast_number) l_last_number c_last_number k_last_number), PySem.W.mg_of X G a_f_last_number, ((fun_mk (st := slast_number) l_last_number c_last_number k_last_number).binds (ps := ["half"]) fun _ _ _ _ _ _ us hl => match us, hl with | [_], _ => rfl)⟩⟩,
    z_len := zB_ok X G b0 "len" (by decide),
    z_all := zB_ok X G b0 "all" (by decide),
    F_is_on_board := ⟨⟨f_is_on_board, _, (fun_mk (st := sis_on_board) l_is_on_board c_is_on_board k_is_on_board), PySem.W.mg_of X G a_f_is_on_board, ((fun_mk (st := sis_on_board) l_is_on_board c_is_on_board k_is_on_board).binds (ps := ["cell", "half"]) fun _ _ _ _ _ _ us hl => match us, hl with | [_, _], _ => rfl)⟩⟩,
    x_InvalidCell := excFB_ok (PySem.W.mg_of X G a_InvalidCell) b2,
    F_check_cell := ⟨⟨f_check_cell, _, (fun_mk (st := scheck_cell) l_check_cell c_check_cell k_check_cell), PySem.W.mg_of X G a_f_check_cell, ((fun_mk (st := scheck_cell) l_check_cell c_check_cell k_check_cell).binds (ps := ["cell", "half"]) fun _ _ _ _ _ _ us hl => match us, hl with | [_, _], _ => rfl)⟩⟩,
    F_end_count := ⟨⟨f_end_count, _, (fun_mk (st := send_count) l_end_count c_end_count k_end_count), PySem.W.mg_of X G a_f_end_count, ((fun_mk (st := send_count) l_end_count c_end_count k_end_count).binds (ps := ["cell", "half"]) fun _ _ _ _ _ _ us hl => match us, hl with | [_, _], _ => rfl)⟩⟩,
    F_piece_count := ⟨⟨f_piece_count, _, (fun_mk (st := spiece_count) l_piece_count c_piece_count k_piece_count), PySem.W.mg_of X G a_f_piece_count, ((fun_mk (st := spiece_count) l_piece_count c_piece_count k_piece_count).binds (ps := ["half", "one", "other"]) fun _ _ _ _ _ _ us hl => match us, hl with | [_, _, _], _ => rfl)⟩⟩,
    F_first_piece := ⟨⟨f_first_piece, _, (fun_mk (st := sfirst_piece) l_first_piece c_first_piece k_first_piece), PySem.W.mg_of X G a_f_first_piece, ((fun_mk (st := sfirst_piece) l_first_piece c_first_piece k_first_piece).binds (ps := ["half", "one", "other"]) fun _ _ _ _ _ _ us hl => match us, hl with | [_, _, _], _ => rfl)⟩⟩,
    F_whole_count := ⟨⟨f_whole_count, _, (fun_mk (st := swhole_count) l_whole_count c_whole_count k_whole_count), PySem.W.mg_of X G a_f_whole_count, ((fun_mk (st := swhole_count) l_whole_count c_whole_count k_whole_count).binds (ps := ["half", "cells"]) fun _ _ _ _ _ _ us hl => match us, hl with | [_, _], _ => rfl)⟩⟩,
    F__law_taken := ⟨⟨f__law_taken, _, (fun_mk (st := s_law_taken) l__law_taken c__law_taken k__law_taken), PySem.W.mg_of X G a_f__law_taken, ((fun_mk (st := s_law_taken) l__law_taken c__law_taken k__law_taken).binds (ps := ["_law_row", "_law_many"]) fun _ _ _ _ _ _ us hl => match us, hl with | [_, _], _ => rfl)⟩⟩,
    F__law_half := ⟨⟨f__law_half, _, (fun_mk (st := s_law_half) l__law_half c__law_half k__law_half), PySem.W.mg_of X G a_f__law_half, ((fun_mk (st := s_law_half) l__law_half c__law_half k__law_half).binds (ps := ["_law_row"]) fun _ _ _ _ _ _ us hl => match us, hl with | [_], _ => rfl)⟩⟩,
    z_range := zB_ok X G b0 "range" (by decide),
    z_sorted := zB_ok X G b0 "sorted" (by decide),
    z_set := zB_ok X G b0 "set" (by decide),
    z_tuple := zB_ok X G b0 "tuple" (by decide) }
  refine ⟨(PySem.W.fnOf "law" "law" (defArgs slaw) (defBody slaw) (defScope slaw) .none kV_law dc_law pm_law an_law cd_law ct_law), [], spD ⟨K, clM [("InvalidHalf", C_InvalidHalf), ("InvalidCell", C_InvalidCell)], [], []⟩ 1 glaw, (fun p hp => by simp at hp), (fun p hp => by simp at hp), (fun p hp => by simp at hp), fun s u => .of_eq rfl, fun H a ns hn _ hT hS => ?_, fun base _ _ hTB => ?_⟩
  · exact spD_start (Γ := ⟨K, clM [("InvalidHalf", C_InvalidHalf), ("InvalidCell", C_InvalidCell)], [], []⟩) hs hn (fun p hp => by simp at hp) hS
  · exact denlaw T l_law c_law
end K35
end
section
set_option maxRecDepth 100000
set_option maxHeartbeats 1000000
namespace K35
open PySem L2 MP
/-- the row of the draws: the script, two counters, the rest of a large number -/
structure RowOk (st : Sto) : Prop where
  ex : ∃ ro ns a b c, st[0]? = some (.lst ro (List.map D.int ns)) ∧ st[1]? = some (.lst false [.obj 0, .int a, .int b, .int c]) ∧ 0 ≤ a ∧ 0 ≤ b ∧ b < 2147483647 ∧ 0 ≤ c
/-- what draws leave as it was -/
structure Stp (st st' : Sto) : Prop where
  len : st.length ≤ st'.length
  old : ∀ i, i < st.length → i ≠ 1 → st'[i]? = st[i]?
  row : RowOk st'
theorem Stp.trans {a b c : Sto} (h : Stp a b) (k : Stp b c) : Stp a c := ⟨Nat.le_trans h.len k.len, fun i hi h1 => (k.old i (Nat.lt_of_lt_of_le hi h.len) h1).trans (h.old i hi h1), k.row⟩
theorem Stp.refl {a : Sto} (h : RowOk a) : Stp a a := ⟨Nat.le_refl _, fun _ _ _ => rfl, h⟩
theorem lt_of_get {α : Type} {l : List α} {n : Nat} {x : α} (h : l[n]? = some x) : n < l.length := (List.getElem?_eq_some_iff.mp h).1
theorem Stp.push {st : Sto} {c : Cell} (h : RowOk st) : Stp st (st ++ [c]) := by
  obtain ⟨ro, ns, a, b, d, h0, h1, h⟩ := h.ex
  refine ⟨by simp, fun i hi _ => List.getElem?_append_left hi, ⟨ro, ns, a, b, d, ?_, ?_, h⟩⟩
  · rw [List.getElem?_append_left (lt_of_get h0)]; exact h0
  · rw [List.getElem?_append_left (lt_of_get h1)]; exact h1
theorem mulOk_small {i j : Int} (h1 : -1000000000 ≤ i) (h2 : i ≤ 1000000000) : mulOk i j = true := by
  unfold mulOk
  have a : decide (-(2 ^ 64) < i) = true := decide_eq_true (by omega)
  have b : decide (i < 2 ^ 64) = true := decide_eq_true (by omega)
  rw [a, b]
  rfl
theorem mulOk_small' {i j : Int} (h1 : -1000000000 ≤ j) (h2 : j ≤ 1000000000) : mulOk i j = true := by
  unfold mulOk
  have a : decide (-(2 ^ 64) < j) = true := decide_eq_true (by omega)
  have b : decide (j < 2 ^ 64) = true := decide_eq_true (by omega)
  rw [a, b]
  simp
theorem taken_eq {st : Sto} {n : Int} (h : RowOk st) (h1 : 1 ≤ n) (h2 : n < 1073741824) : ∃ k st', g_law_taken [.obj 1, .int n] st = some (.ok (.int k), st') ∧ 0 ≤ k ∧ k < n ∧ Stp st st' ∧ st'.length = st.length := by
  obtain ⟨ro, ns, a, b, c, e0, e1, ha, hb, hb2, hc⟩ := h.ex
  have hl : 1 < st.length := lt_of_get e1
  have s0 : ∀ x, (st.set 1 x)[0]? = some (.lst ro (List.map D.int ns)) := fun x => by rw [List.getElem?_set_ne (by decide)]; exact e0
  have s1 : ∀ x, (st.set 1 x)[1]? = some x := fun x => List.getElem?_set_self hl
  have n1 : ¬ n ≤ 0 := by omega
  have n2 : 0 < n := by omega
  by_cases c0 : 0 < c
  · refine ⟨c % n, st.set 1 (.lst false [.obj 0, .int a, .int b, .int (c / n)]), ?_, Int.emod_nonneg _ (by omega), Int.emod_lt_of_pos _ (by omega), ⟨by simp, fun i hi h => List.getElem?_set_ne (Ne.symm h), ⟨ro, ns, a, b, c / n, s0 _, s1 _, ha, hb, hb2, Int.ediv_nonneg hc (by omega)⟩⟩, by simp⟩
    simp [g_law_taken, b_law_taken, runD, startL, dRet, dBin, dVar, dC, bindR, bindS, okD, fSub, fMul, fIx, L2.atI, L2.ixN, dApp, evA, dThen, dIfS, ifK, dAsg, asgK, asg, dSetIx, setK, fInt, fGt, fMod, fDiv, dNext, e1, c0, n2, h2]
  · have hc0 : c = 0 := by omega
    subst hc0
    by_cases hA : (ns.length : Int) < a + 1
    · refine ⟨(b * 48271 + 11) % 2147483647 / 7 % n, st.set 1 (.lst false [.obj 0, .int (a + 1), .int ((b * 48271 + 11) % 2147483647), .int 0]), ?_, Int.emod_nonneg _ (by omega), Int.emod_lt_of_pos _ (by omega), ?_, by simp⟩
      · have m1 : mulOk b 48271 = true := mulOk_small' (by omega) (by omega)
        simp [g_law_taken, b_law_taken, runD, startL, dRet, dBin, dVar, dC, bindR, bindS, okD, fAdd, fSub, fMul, fIx, L2.atI, L2.ixN, dApp, evA, dThen, dIfS, ifK, dAsg, asgK, asg, dSetIx, setK, fInt, fGt, fMod, fDiv, fLen, dNext, e0, e1, n2, h2, s0, s1, hA, m1, List.set_set]
      · refine ⟨by simp, fun i hi h => ?_, ⟨ro, ns, a + 1, (b * 48271 + 11) % 2147483647, 0, s0 _, s1 _, by omega, Int.emod_nonneg _ (by decide), Int.emod_lt_of_pos _ (by decide), by decide⟩⟩
        rw [List.getElem?_set_ne (Ne.symm h)]
    · have hk : a.toNat < ns.length := by omega
      obtain ⟨v, ek⟩ : ∃ v, ns[a.toNat]'hk = v := ⟨_, rfl⟩
      have m1 : mulOk b 48271 = true := mulOk_small' (by omega) (by omega)
      have ga : ¬ a < 0 := by omega
      have gb : a < (ns.length : Int) := by omega
      refine ⟨v % n, st.set 1 (.lst false [.obj 0, .int (a + 1), .int ((b * 48271 + v + 11) % 2147483647), .int (if 1000000000000000000 ≤ v then v / n else 0)]), ?_, Int.emod_nonneg _ (by omega), Int.emod_lt_of_pos _ (by omega), ?_, by simp⟩
      · by_cases hv : 1000000000000000000 ≤ v
        · simp [g_law_taken, b_law_taken, runD, startL, dRet, dBin, dVar, dC, bindR, bindS, okD, fAdd, fSub, fMul, fIx, L2.atI, L2.ixN, dApp, evA, dThen, dIfS, ifK, dAsg, asgK, asg, dSetIx, setK, fInt, fGt, fGe, fPow, fMod, fDiv, fLen, dNext, dIf, fIf, e0, e1, n2, h2, s0, s1, hA, m1, List.set_set, ha, gb, ek, hv]
        · simp [g_law_taken, b_law_taken, runD, startL, dRet, dBin, dVar, dC, bindR, bindS, okD, fAdd, fSub, fMul, fIx, L2.atI, L2.ixN, dApp, evA, dThen, dIfS, ifK, dAsg, asgK, asg, dSetIx, setK, fInt, fGt, fGe, fPow, fMod, fDiv, fLen, dNext, dIf, fIf, e0, e1, n2, h2, s0, s1, hA, m1, List.set_set, ha, gb, ek, hv]
      · refine ⟨by simp, fun i hi h => ?_, ⟨ro, ns, a + 1, (b * 48271 + v + 11) % 2147483647, if 1000000000000000000 ≤ v then v / n else 0, s0 _, s1 _, by omega, Int.emod_nonneg _ (by decide), Int.emod_lt_of_pos _ (by decide), ?_⟩⟩
        · rw [List.getElem?_set_ne (Ne.symm h)]
        · split
          · exact Int.ediv_nonneg (by omega) (by omega)
          · decide

theorem get_push {st : Sto} {c : Cell} : (st ++ [c])[st.length]? = some c := by simp
/-- four numbers of 0 to 60, no point -/
structure Pc (x y z w : Int) : Prop where
  x0 : 0 ≤ x
  x1 : x ≤ 60
  y0 : 0 ≤ y
  y1 : y ≤ 60
  z0 : 0 ≤ z
  z1 : z ≤ 60
  w0 : 0 ≤ w
  w1 : w ≤ 60
  ne : ¬(x = z ∧ y = w)
abbrev pcD (x y z w : Int) : D := .tup [.int x, .int y, .int z, .int w]
theorem eqD2 (st : Sto) (a b c d : Int) : eqD st (.tup [.int a, .int b]) (.tup [.int c, .int d]) = some (a == c && b == d) := by
  simp [eqD, toP, DEEP, mapO, PyData.eqv, PyData.eqvAll, SeqAt.shaped, PyData.canLay0, PyData.canLayAll0, PyData.depth, PyData.depthAll]
end K35
end
section
set_option maxRecDepth 100000
set_option maxHeartbeats 1000000
namespace K35
open PySem L2 MP
theorem kb1 : kitB "int" "int" = some true := by decide +kernel
theorem kb2 : kitB "int" "bool" = some false := by decide +kernel
theorem kb3 : kitB "bool" "int" = some true := by decide +kernel
theorem kb4 : kitB "bool" "bool" = some true := by decide +kernel
theorem isn_int (i lo hi : Int) (st : Sto) : gis_number [.int i, .int lo, .int hi] st = some (.ok (.bl (decide (lo ≤ i) && decide (i ≤ hi))), st) := by
  by_cases h : lo ≤ i <;> simp [gis_number, bis_number, runD, startL, dRet, dBin, dUn, dVar, dC, bindR, bindS, okD, dAnd, fAnd, fNot, fIsi, isiD, dChain, fCh, fLe, kb1, kb2, h]
theorem isn_bl (b : Bool) (lo hi : Int) (st : Sto) : gis_number [.bl b, .int lo, .int hi] st = some (.ok (.bl false), st) := by
  simp [gis_number, bis_number, runD, startL, dRet, dBin, dUn, dVar, dC, bindR, bindS, okD, dAnd, fAnd, fNot, fIsi, isiD, dChain, fCh, fLe, kb3, kb4]
theorem set_push {st : Sto} {c d : Cell} : (st ++ [c]).set st.length d = st ++ [d] := by simp
theorem eqD1 (st : Sto) (a b : Int) : eqD st (.int a) (.int b) = some (a == b) := by
  simp [eqD, toP, DEEP, PyData.eqv, SeqAt.shaped, PyData.canLay0, PyData.depth]
theorem cut_l (a b c d : D) : cutD [a, b, c, d] none (some 2) = [a, b] := rfl
theorem cut_r (a b c d : D) : cutD [a, b, c, d] (some 2) none = [c, d] := rfl
def odd : List D := [.tup [], .tup [.int 0, .int 0, .int 5], .tup [.int 0, .int 0, .int 5, .int 5, .int 5], .tup [.int 0, .int 0, .int 0, .int 0], .tup [.int 7, .int 9, .int 7, .int 9], .tup [.int (-1), .int 0, .int 5, .int 5], .tup [.int 0, .int 61, .int 5, .int 5], .tup [.bl true, .int 0, .int 5, .int 5]]
end K35
end
section
set_option maxRecDepth 100000
set_option maxHeartbeats 1000000
namespace K35
open PySem L2 MP
/-- a point before another, by its numbers -/
def lt2 (p q : Int × Int) : Bool := decide (p.1 < q.1 ∨ (p.1 = q.1 ∧ p.2 < q.2))
theorem lex2 (a b c d : Int) : HT.lexLt [a, b] [c, d] = lt2 (a, b) (c, d) := by
  rw [HT.lexLt_cons, HT.lexLt_cons, HT.lexLt_nil_nil]
  unfold lt2
  by_cases h : a = c
  · subst h
    by_cases h2 : b = d
    · subst h2
      simp
    · simp [h2]
  · simp [h]
def mx (p q : Int × Int) : Int × Int := if lt2 p q then q else p
def mn (p q : Int × Int) : Int × Int := if lt2 q p then q else p
abbrev ptD (p : Int × Int) : D := .tup [.int p.1, .int p.2]
theorem max2_eq (p q : Int × Int) (st : Sto) : fMax2D [ptD p, ptD q] st = some (.ok (ptD (mx p q)), st) := by
  obtain ⟨a, b⟩ := p
  obtain ⟨c, d⟩ := q
  simp only [fMax2D, intsOf, lex2, mx, okD, ptD]
  by_cases h : lt2 (a, b) (c, d) = true <;> simp [h]
theorem min2_eq (p q : Int × Int) (st : Sto) : fMin2D [ptD p, ptD q] st = some (.ok (ptD (mn p q)), st) := by
  obtain ⟨a, b⟩ := p
  obtain ⟨c, d⟩ := q
  simp only [fMin2D, intsOf, lex2, mn, okD, ptD]
  by_cases h : lt2 (c, d) (a, b) = true <;> simp [h]
def start (a b c d : Int × Int) : Int × Int := mx (mn a b) (mn c d)
def stop (a b c d : Int × Int) : Int × Int := mn (mx a b) (mx c d)
theorem lt_eq (p q : Int × Int) (st : Sto) : fLt (ptD p) (ptD q) st = some (.ok (.bl (lt2 p q)), st) := by
  obtain ⟨a, b⟩ := p
  obtain ⟨c, d⟩ := q
  simp [fLt, intsOf, lex2, okD]
/-- what the program says of two pieces -/
def along (a b c d : Int × Int) : Bool := decide ((b.1 - a.1) * (d.2 - c.2) - (b.2 - a.2) * (d.1 - c.1) = 0) && (decide ((b.1 - a.1) * (c.2 - a.2) - (b.2 - a.2) * (c.1 - a.1) = 0) && lt2 (start a b c d) (stop a b c d))
end K35
end
section
set_option maxRecDepth 100000
set_option maxHeartbeats 1000000
namespace K35
open PySem L2 MP
abbrev P4 := (Int × Int) × (Int × Int)
abbrev pd (p : P4) : D := pcD p.1.1 p.1.2 p.2.1 p.2.2
abbrev Pv (p : P4) : Prop := Pc p.1.1 p.1.2 p.2.1 p.2.2
abbrev alongP (p q : P4) : Bool := along p.1 p.2 q.1 q.2
/-- [f x for x in a tuple] where f only looks -/
theorem compD_map {i k : Nat} {de : De} {lsw : Ls} {α : Type} {toD : α → D} {f : α → D} : ∀ {xs : List α} {st : Sto} {acc : List D}, (∀ x ∈ xs, ∀ st, de (lsw.set i (some (toD x))) st = okD (f x) st) → st[k]? = some (.lst false acc) → acc.length + xs.length < LINE →
    compD .no (.nm i) dYes de k lsw (xs.map toD) st = okD (.obj k) (st.set k (.lst false (acc ++ xs.map f)))
  | [], st, acc, _, h, _ => by
    have e : st.set k (.lst false acc) = st := by
      apply List.ext_getElem?
      intro j
      by_cases hj : k = j
      · subst hj
        rw [List.getElem?_set_self (lt_of_get h), h]
      · rw [List.getElem?_set_ne hj]
    simp [compD, gdB, e]
  | x :: xs, st, acc, hf, h, hl => by
    have h1 := hf x (List.mem_cons_self ..) st
    have hl' : acc.length < LINE := by simp at hl; omega
    have ih := compD_map (st := st.set k (.lst false (acc ++ [f x]))) (acc := acc ++ [f x]) (i := i) (k := k) (de := de) (lsw := lsw) (toD := toD) (f := f) (xs := xs) (fun y hy => hf y (List.mem_cons_of_mem _ hy)) (List.getElem?_set_self (lt_of_get h)) (by simp at hl ⊢; omega)
    rw [List.map_cons, compD]
    simp only [gdB, if_true, asg, dYes, okD, bindO]
    rw [h1]
    simp only [okD]
    rw [h]
    simp only [hl', if_true]
    rw [ih, List.set_set]
    simp [okD, List.append_assoc]
def lo (a b : Int) : Int := if b < a then b else a
def hi (a b : Int) : Int := if a < b then b else a
theorem minI_eq (a b : Int) (st : Sto) : fMin2D [.int a, .int b] st = some (.ok (.int (lo a b)), st) := by
  unfold lo
  by_cases h : b < a <;> simp [fMin2D, okD, h]
theorem maxI_eq (a b : Int) (st : Sto) : fMax2D [.int a, .int b] st = some (.ok (.int (hi a b)), st) := by
  unfold hi
  by_cases h : a < b <;> simp [fMax2D, okD, h]
def btw (a b e : Int) : Bool := decide (lo a b ≤ e) && decide (e ≤ hi a b)
def onB (p : P4) (e : Int × Int) : Bool := btw p.1.1 p.2.1 e.1 && btw p.1.2 p.2.2 e.2
theorem chain_eq (a b e : Int) (st : Sto) (ls : Ls) (da db de : De) (ha : da ls st = okD (.int a) st) (hb : db ls st = okD (.int e) st) (hc : de ls st = okD (.int b) st) : dChain fLe fLe da db de ls st = okD (.bl (decide (a ≤ e) && decide (e ≤ b))) st := by
  by_cases h : a ≤ e <;> simp [dChain, ha, hb, hc, bindR, okD, fLe, fCh, h]
end K35
end
section
set_option maxRecDepth 100000
set_option maxHeartbeats 4000000
namespace K35
open PySem L2 MP
def row2 (e : Int × Int) : List Int := [e.1, e.2]
def shared (p q : P4) : List (Int × Int) := [p.1, p.2, q.1, q.2].filter fun e => onB p e && onB q e
def noCommon (p q : P4) : Bool := decide ((p.2.1 - p.1.1) * (q.2.2 - q.1.2) - (p.2.2 - p.1.2) * (q.2.1 - q.1.1) = 0) && (decide ((p.2.1 - p.1.1) * (q.1.2 - p.1.2) = (p.2.2 - p.1.2) * (q.1.1 - p.1.1)) && decide (2 ≤ (sortU ((shared p q).map row2)).length))
theorem rowsOf_pt : ∀ l : List (Int × Int), MP.rowsOf (l.map ptD) = some (l.map row2)
  | [] => rfl
  | e :: l => by
    rw [List.map_cons, MP.rowsOf, rowsOf_pt l]
    rfl
theorem sort_eq {l : List (Int × Int)} {st : Sto} {n : Nat} {ro : Bool} (hn : st[n]? = some (.lst ro (l.map ptD))) (h : ∀ e ∈ l, 0 ≤ e.1 ∧ 0 ≤ e.2) (hl : l.length < 64) : fSortSet (.obj n) st = okL ((sortU (l.map row2)).map tupI) st := by
  have ok : rowsOk (l.map row2) = true := by
    unfold rowsOk
    rw [Bool.and_eq_true]
    refine ⟨by simpa using hl, ?_⟩
    rw [List.all_eq_true]
    intro x hx
    obtain ⟨e, he, rfl⟩ := List.mem_map.mp hx
    cases l with
    | nil => cases he
    | cons e0 r => simp [row2, h e he]
  simp only [fSortSet, hn, rowsOf_pt, ok, if_true]
theorem dThen_next {d1 d2 : Ds} {ls ls1 : Ls} {st st1 : Sto} (h : d1 ls st = some (.next, ls1, st1)) : dThen d1 d2 ls st = d2 ls1 st1 := by
  unfold dThen
  rw [h]
theorem dThen_ret {d1 d2 : Ds} {ls ls1 : Ls} {st st1 : Sto} {d : D} (h : d1 ls st = some (.ret d, ls1, st1)) : dThen d1 d2 ls st = some (.ret d, ls1, st1) := by
  unfold dThen
  rw [h]
theorem dIf_true {dc : De} {d1 d2 : Ds} {ls : Ls} {st st1 : Sto} (h : dc ls st = okD (.bl true) st1) : dIfS dc d1 d2 ls st = d1 ls st1 := by
  unfold dIfS
  rw [h]
  rfl
theorem dIf_false {dc : De} {d1 d2 : Ds} {ls : Ls} {st st1 : Sto} (h : dc ls st = okD (.bl false) st1) : dIfS dc d1 d2 ls st = d2 ls st1 := by
  unfold dIfS
  rw [h]
  rfl
theorem run_ret {n : Nat} {db : Ds} {ds : List D} {ls : Ls} {st st1 : Sto} {d : D} (h : db (startL n ds) st = some (.ret d, ls, st1)) : runD n db ds st = some (.ok d, st1) := by
  unfold runD
  rw [h]
  rfl
theorem dAsg_next {da : De} {t : Tg} {ls ls1 : Ls} {st st1 : Sto} {d : D} (h : da ls st = okD d st1) (ha : asg t d ls = some ls1) : dAsg da t ls st = some (.next, ls1, st1) := by
  unfold dAsg
  rw [h]
  simp [bindS, okD, asgK, ha]
theorem dRet_ok {da : De} {ls : Ls} {st st1 : Sto} {d : D} (h : da ls st = okD d st1) : dRet da ls st = some (.ret d, ls, st1) := by
  unfold dRet
  rw [h]
  simp [bindS, okD]
/-- [f x for x in a tuple if c x], f and c only look -/
theorem compD_filter {i k : Nat} {dt de : De} {lsw : Ls} {α : Type} {toD : α → D} {c : α → Bool} {f : α → D} : ∀ {xs : List α} {st : Sto} {acc : List D}, (∀ x ∈ xs, ∀ st, dt (lsw.set i (some (toD x))) st = okD (.bl (c x)) st) → (∀ x ∈ xs, ∀ st, de (lsw.set i (some (toD x))) st = okD (f x) st) → st[k]? = some (.lst false acc) → acc.length + xs.length < LINE →
    compD .no (.nm i) dt de k lsw (xs.map toD) st = okD (.obj k) (st.set k (.lst false (acc ++ (xs.filter c).map f)))
  | [], st, acc, _, _, h, _ => by
    have e : st.set k (.lst false acc) = st := by
      apply List.ext_getElem?
      intro j
      by_cases hj : k = j
      · subst hj
        rw [List.getElem?_set_self (lt_of_get h), h]
      · rw [List.getElem?_set_ne hj]
    simp [compD, gdB, e]
  | x :: xs, st, acc, hc, hf, h, hl => by
    have h0 := hc x (List.mem_cons_self ..) st
    have h1 := hf x (List.mem_cons_self ..) st
    have hl' : acc.length < LINE := by simp at hl; omega
    rw [List.map_cons, compD]
    simp only [gdB, if_true, asg, bindO]
    rw [h0]
    simp only [okD]
    cases hb : c x with
    | true =>
      have ih := compD_filter (st := st.set k (.lst false (acc ++ [f x]))) (acc := acc ++ [f x]) (i := i) (k := k) (dt := dt) (de := de) (lsw := lsw) (toD := toD) (f := f) (c := c) (xs := xs) (fun y hy => hc y (List.mem_cons_of_mem _ hy)) (fun y hy => hf y (List.mem_cons_of_mem _ hy)) (List.getElem?_set_self (lt_of_get h)) (by simp at hl ⊢; omega)
      simp only []
      rw [h1]
      simp only [okD]
      rw [h]
      simp only [hl', if_true]
      rw [ih, List.set_set]
      simp [okD, List.append_assoc, hb]
    | false =>
      have ih := compD_filter (st := st) (acc := acc) (i := i) (k := k) (dt := dt) (de := de) (lsw := lsw) (toD := toD) (f := f) (c := c) (xs := xs) (fun y hy => hc y (List.mem_cons_of_mem _ hy)) (fun y hy => hf y (List.mem_cons_of_mem _ hy)) h (by simp at hl ⊢; omega)
      simp only []
      rw [ih]
      simp [okD, hb]
def rowP (r : List Int) : PyData := .tuple (r.map .int)
theorem toP_ints (st : Sto) (n : Nat) : ∀ r : List Int, mapO (toP st (n + 1)) (r.map D.int) = some (r.map PyData.int)
  | [] => rfl
  | i :: r => by
    rw [List.map_cons, mapO, toP_ints st n r]
    rfl
theorem toP_rows (st : Sto) (n : Nat) : ∀ rows : List (List Int), mapO (toP st (n + 2)) (rows.map tupI) = some (rows.map rowP)
  | [] => rfl
  | r :: rows => by
    have e : toP st (n + 2) (tupI r) = some (rowP r) := by
      simp only [tupI, toP, toP_ints]
      rfl
    rw [List.map_cons, mapO, e, toP_rows st n rows]
    rfl
theorem lay_ints : ∀ r : List Int, PyData.canLayAll0 (r.map .int) = true
  | [] => by simp [PyData.canLayAll0]
  | i :: r => by simp [PyData.canLayAll0, PyData.canLay0, lay_ints r]
theorem lay_rows : ∀ rows : List (List Int), PyData.canLayAll0 (rows.map rowP) = true
  | [] => by simp [PyData.canLayAll0]
  | r :: rows => by simp [PyData.canLayAll0, rowP, PyData.canLay0, lay_ints r, lay_rows rows]
theorem dep_ints : ∀ r : List Int, PyData.depthAll (r.map .int) = 0
  | [] => by simp [PyData.depthAll]
  | i :: r => by simp [PyData.depthAll, PyData.depth, dep_ints r]
theorem dep_rows : ∀ rows : List (List Int), PyData.depthAll (rows.map rowP) ≤ 1
  | [] => by simp [PyData.depthAll]
  | r :: rows => by
    have := dep_rows rows
    simp [PyData.depthAll, rowP, PyData.depth, dep_ints r]
    exact Nat.max_le.mpr ⟨Nat.le_refl _, this⟩
theorem eqD_nil {st : Sto} {n m : Nat} {ro ro' : Bool} {rows : List (List Int)} (h : st[n]? = some (.lst ro (rows.map tupI))) (h' : st[m]? = some (.lst ro' [])) : eqD st (.obj n) (.obj m) = some rows.isEmpty := by
  have e1 : toP st DEEP (.obj n) = some (.list (rows.map rowP)) := by
    show toP st 8 (.obj n) = _
    simp only [toP, h, toP_rows st 5 rows]
  have e2 : toP st DEEP (.obj m) = some (.list []) := by
    show toP st 8 (.obj m) = _
    simp only [toP, h', mapO]
  have s1 : SeqAt.shaped (.list (rows.map rowP)) = true := by
    have := dep_rows rows
    simp [SeqAt.shaped, PyData.canLay0, lay_rows, PyData.depth]
    omega
  have s2 : SeqAt.shaped (.list []) = true := by
    simp [SeqAt.shaped, PyData.canLay0, PyData.canLayAll0, PyData.depth, PyData.depthAll]
  simp only [eqD, e1, e2, s1, s2, Bool.and_self, if_true]
  cases rows with
  | nil => simp [PyData.eqv, PyData.eqvAll]
  | cons r t => simp [PyData.eqv, PyData.eqvAll]
theorem dOr_bl {da db : De} {ls : Ls} {st : Sto} {a b : Bool} (ha : da ls st = okD (.bl a) st) (hb : db ls st = okD (.bl b) st) : dOr da db ls st = okD (.bl (a || b)) st := by
  unfold dOr
  rw [ha]
  cases a with
  | true => rfl
  | false => exact hb
end K35
end
section
set_option maxRecDepth 100000
set_option maxHeartbeats 1000000
namespace K35
open PySem L2 MP
theorem par_side {a b c d e f : Int} (h1 : a * d = b * c) (h2 : a * f = b * e) (hn : ¬(a = 0 ∧ b = 0)) : c * f = d * e := by
  by_cases ha : a = 0
  · subst ha
    have hb : b ≠ 0 := fun z => hn ⟨rfl, z⟩
    have hc : c = 0 := by
      rcases Int.mul_eq_zero.mp (show b * c = 0 by omega) with h | h
      · exact absurd h hb
      · exact h
    have he : e = 0 := by
      rcases Int.mul_eq_zero.mp (show b * e = 0 by omega) with h | h
      · exact absurd h hb
      · exact h
    subst hc he
    simp
  · have : a * (c * f - d * e) = 0 := by grind
    rcases Int.mul_eq_zero.mp this with h | h
    · exact absurd h ha
    · omega
theorem slope {k m s t : Int} (hk : 0 < k) (h : k * t = m * s) (h0 : 0 ≤ s) (h1 : s ≤ k) : (0 ≤ m → 0 ≤ t ∧ t ≤ m) ∧ (m ≤ 0 → m ≤ t ∧ t ≤ 0) := by
  have up : ∀ {m t : Int}, k * t = m * s → 0 ≤ m → 0 ≤ t ∧ t ≤ m := fun {m t} h hm => by
    have a : 0 ≤ m * s := Int.mul_nonneg hm h0
    have b : m * s ≤ m * k := Int.mul_le_mul_of_nonneg_left h1 hm
    constructor
    · refine Int.not_lt.mp fun q => ?_
      have := Int.mul_neg_of_pos_of_neg hk q
      omega
    · refine Int.not_lt.mp fun q => ?_
      have := Int.mul_lt_mul_of_pos_left q hk
      have e : k * m = m * k := Int.mul_comm _ _
      omega
  refine ⟨up h, fun hm => ?_⟩
  have q := up (m := -m) (t := -t) (by grind) (by omega)
  omega
/-- on the line of two points, the box says what the order says: the first point before the second -/
theorem box_lt {x y z w u v : Int} (hl : (z - x) * (v - y) = (w - y) * (u - x)) (hx : x < z) : (btw x z u && btw y w v) = (!lt2 (u, v) (x, y) && !lt2 (z, w) (u, v)) := by
  have e1 : btw x z u = decide (x ≤ u ∧ u ≤ z) := by
    unfold btw lo hi
    rw [if_neg (by omega), if_pos hx]
    by_cases h1 : x ≤ u <;> simp [h1]
  have e2 : btw y w v = decide ((y ≤ v ∧ v ≤ w) ∨ (w ≤ v ∧ v ≤ y)) := by
    unfold btw lo hi
    by_cases h : w < y
    · rw [if_pos h, if_neg (by omega), ← Bool.decide_and, decide_eq_decide]
      omega
    · by_cases h' : y < w
      · rw [if_neg h, if_pos h', ← Bool.decide_and, decide_eq_decide]
        omega
      · rw [if_neg h, if_neg h', ← Bool.decide_and, decide_eq_decide]
        omega
  rw [e1, e2, ← Bool.decide_and]
  unfold lt2
  rw [← decide_not, ← decide_not, ← Bool.decide_and, decide_eq_decide]
  dsimp only
  constructor
  · rintro ⟨⟨h1, h2⟩, h3⟩
    obtain ⟨s1, s2⟩ := slope (k := z - x) (m := w - y) (s := u - x) (t := v - y) (by omega) hl (by omega) (by omega)
    refine ⟨fun q => ?_, fun q => ?_⟩
    · rcases q with q | ⟨q1, q2⟩
      · omega
      · subst q1
        have : (z - u) * (v - y) = 0 := by rw [hl]; simp
        rcases Int.mul_eq_zero.mp this with k | k <;> omega
    · rcases q with q | ⟨q1, q2⟩
      · omega
      · subst q1
        have : (z - x) * (v - w) = 0 := by grind
        rcases Int.mul_eq_zero.mp this with k | k <;> omega
  · rintro ⟨h1, h2⟩
    have a1 : x ≤ u := Int.not_lt.mp fun q => h1 (.inl q)
    have a2 : u ≤ z := Int.not_lt.mp fun q => h2 (.inl q)
    obtain ⟨s1, s2⟩ := slope (k := z - x) (m := w - y) (s := u - x) (t := v - y) (by omega) hl (by omega) (by omega)
    refine ⟨⟨a1, a2⟩, ?_⟩
    by_cases hm : y ≤ w
    · have := s1 (by omega); omega
    · have := s2 (by omega); omega
theorem box_up {x y w u v : Int} (hu : u = x) (hy : y < w) : (btw x x u && btw y w v) = (!lt2 (u, v) (x, y) && !lt2 (x, w) (u, v)) := by
  subst hu
  have e1 : btw u u u = true := by
    unfold btw lo hi
    simp
  have e2 : btw y w v = decide (y ≤ v ∧ v ≤ w) := by
    unfold btw lo hi
    rw [if_neg (by omega), if_pos hy, ← Bool.decide_and]
  rw [e1, e2, Bool.true_and]
  unfold lt2
  rw [← decide_not, ← decide_not, ← Bool.decide_and, decide_eq_decide]
  dsimp only
  omega
theorem btw_comm (a b e : Int) : btw a b e = btw b a e := by
  unfold btw lo hi
  by_cases h : a < b
  · rw [if_neg (by omega), if_pos h, if_pos h, if_neg (by omega)]
  · by_cases h' : b < a
    · rw [if_pos h', if_neg h, if_neg h, if_pos h']
    · have : a = b := by omega
      subst this
      rfl
theorem lt2_asym {p q : Int × Int} (h : lt2 p q = true) : lt2 q p = false := by
  unfold lt2 at h ⊢
  have := of_decide_eq_true h
  exact decide_eq_false (by omega)
theorem box_eq {p : P4} {e : Int × Int} (hl : (p.2.1 - p.1.1) * (e.2 - p.1.2) = (p.2.2 - p.1.2) * (e.1 - p.1.1)) (hn : ¬(p.1.1 = p.2.1 ∧ p.1.2 = p.2.2)) : onB p e = (!lt2 e (mn p.1 p.2) && !lt2 (mx p.1 p.2) e) := by
  obtain ⟨⟨x, y⟩, ⟨z, w⟩⟩ := p
  obtain ⟨u, v⟩ := e
  simp only at hl hn
  unfold onB
  simp only
  by_cases h1 : x < z
  · have a1 : lt2 (x, y) (z, w) = true := decide_eq_true (.inl h1)
    rw [box_lt hl h1, mn, mx, lt2_asym a1, a1]
    rfl
  · by_cases h2 : z < x
    · have a1 : lt2 (z, w) (x, y) = true := decide_eq_true (.inl h2)
      rw [btw_comm x z, btw_comm y w, box_lt (by grind) h2, mn, mx, lt2_asym a1, a1]
      rfl
    · have e0 : x = z := by omega
      subst e0
      have hw : w ≠ y := fun q => hn ⟨rfl, q.symm⟩
      have hu : u = x := by
        have : (w - y) * (u - x) = 0 := by rw [← hl]; simp
        rcases Int.mul_eq_zero.mp this with k | k <;> omega
      by_cases h3 : y < w
      · have a1 : lt2 (x, y) (x, w) = true := decide_eq_true (.inr ⟨rfl, h3⟩)
        rw [box_up hu h3, mn, mx, lt2_asym a1, a1]
        rfl
      · have h4 : w < y := by omega
        have a1 : lt2 (x, w) (x, y) = true := decide_eq_true (.inr ⟨rfl, h4⟩)
        rw [btw_comm y w, box_up hu h4, mn, mx, lt2_asym a1, a1]
        rfl
end K35
end
section
set_option maxRecDepth 100000
set_option maxHeartbeats 1000000
namespace K35
open PySem L2 MP
theorem lt2_iff {p q : Int × Int} : lt2 p q = true ↔ (p.1 < q.1 ∨ (p.1 = q.1 ∧ p.2 < q.2)) := by
  unfold lt2
  exact decide_eq_true_iff
theorem lt2_not {p q : Int × Int} : lt2 p q = false ↔ ¬(p.1 < q.1 ∨ (p.1 = q.1 ∧ p.2 < q.2)) := by
  unfold lt2
  exact decide_eq_false_iff_not
abbrev le2 (p q : Int × Int) : Prop := lt2 q p = false
theorem le2_mx {x y e : Int × Int} : le2 (mx x y) e ↔ le2 x e ∧ le2 y e := by
  unfold mx
  cases h : lt2 x y with
  | true =>
    simp only [if_true]
    rw [lt2_iff] at h
    simp only [le2, lt2_not]
    omega
  | false =>
    simp only [Bool.false_eq_true, if_false]
    rw [lt2_not] at h
    simp only [le2, lt2_not]
    omega
theorem le2_mn {x y e : Int × Int} : le2 e (mn x y) ↔ le2 e x ∧ le2 e y := by
  unfold mn
  cases h : lt2 y x with
  | true =>
    simp only [if_true]
    rw [lt2_iff] at h
    simp only [le2, lt2_not]
    omega
  | false =>
    simp only [Bool.false_eq_true, if_false]
    rw [lt2_not] at h
    simp only [le2, lt2_not]
    omega
theorem mx_or (x y : Int × Int) : mx x y = x ∨ mx x y = y := by
  unfold mx
  cases lt2 x y <;> simp
theorem mn_or (x y : Int × Int) : mn x y = x ∨ mn x y = y := by
  unfold mn
  cases lt2 y x <;> simp
theorem le2_antisym {x y : Int × Int} (h1 : le2 x y) (h2 : le2 y x) : x = y := by
  obtain ⟨a, b⟩ := x
  obtain ⟨c, d⟩ := y
  simp only [le2, lt2_not] at h1 h2
  rw [Prod.mk.injEq]
  omega
theorem le2_trans {x y z : Int × Int} (h1 : le2 x y) (h2 : le2 y z) : le2 x z := by
  simp only [le2, lt2_not] at h1 h2 ⊢
  omega
theorem le2_refl (x : Int × Int) : le2 x x := by
  simp only [le2, lt2_not]
  omega
theorem lt2_le {x y : Int × Int} (h : lt2 x y = true) : le2 x y := lt2_asym h
theorem two_of {l : List (Int × Int)} {a b : Int × Int} (ha : a ∈ l) (hb : b ∈ l) (h : a ≠ b) : 2 ≤ (sortU (l.map row2)).length := by
  have h1 : row2 a ∈ sortU (l.map row2) := sortU_mem.mpr (List.mem_map_of_mem ha)
  have h2 : row2 b ∈ sortU (l.map row2) := sortU_mem.mpr (List.mem_map_of_mem hb)
  have hne : row2 a ≠ row2 b := fun z => h (by
    unfold row2 at z
    simp at z
    exact Prod.ext z.1 z.2)
  rcases e : sortU (l.map row2) with _ | ⟨r, _ | ⟨r', t⟩⟩
  · rw [e] at h1; cases h1
  · rw [e] at h1 h2
    simp at h1 h2
    exact absurd (h1.trans h2.symm) hne
  · simp
theorem one_of {l : List (Int × Int)} {a : Int × Int} (h : ∀ b ∈ l, b = a) : (sortU (l.map row2)).length ≤ 1 := by
  have hm : ∀ r ∈ sortU (l.map row2), r = row2 a := fun r hr => by
    obtain ⟨b, hb, rfl⟩ := List.mem_map.mp (sortU_mem.mp hr)
    rw [h b hb]
  have hs := sortU_sorted (l.map row2)
  rcases e : sortU (l.map row2) with _ | ⟨r, _ | ⟨r', t⟩⟩
  · simp
  · simp
  · rw [e] at hs hm
    have a1 := hm r (by simp)
    have a2 := hm r' (by simp)
    have := (List.pairwise_cons.mp hs).1 r' (by simp)
    rw [a1, a2, LtL, lex_irr] at this
    cases this
theorem geo {p q : P4} (hp : Pv p) (hq : Pv q) : noCommon q p = alongP p q := by
  have np : ¬(p.1.1 = p.2.1 ∧ p.1.2 = p.2.2) := hp.ne
  have nq : ¬(q.1.1 = q.2.1 ∧ q.1.2 = q.2.2) := hq.ne
  unfold noCommon alongP along
  by_cases hT : (p.2.1 - p.1.1) * (q.2.2 - q.1.2) - (p.2.2 - p.1.2) * (q.2.1 - q.1.1) = 0
  · have hT' : (q.2.1 - q.1.1) * (p.2.2 - p.1.2) - (q.2.2 - q.1.2) * (p.2.1 - p.1.1) = 0 := by grind
    by_cases hS : (p.2.1 - p.1.1) * (q.1.2 - p.1.2) - (p.2.2 - p.1.2) * (q.1.1 - p.1.1) = 0
    · have hS1 : (q.2.1 - q.1.1) * (q.1.2 - p.1.2) = (q.2.2 - q.1.2) * (q.1.1 - p.1.1) := par_side (a := p.2.1 - p.1.1) (b := p.2.2 - p.1.2) (by omega) (by omega) (by omega)
      have hS' : (q.2.1 - q.1.1) * (p.1.2 - q.1.2) = (q.2.2 - q.1.2) * (p.1.1 - q.1.1) := by grind
      -- all four points are on both lines
      have onp : ∀ e ∈ [q.1, q.2, p.1, p.2], (p.2.1 - p.1.1) * (e.2 - p.1.2) = (p.2.2 - p.1.2) * (e.1 - p.1.1) := fun e he => by
        simp only [List.mem_cons, List.not_mem_nil, or_false] at he
        rcases he with rfl | rfl | rfl | rfl
        · omega
        · grind
        · simp
        · grind
      have onq : ∀ e ∈ [q.1, q.2, p.1, p.2], (q.2.1 - q.1.1) * (e.2 - q.1.2) = (q.2.2 - q.1.2) * (e.1 - q.1.1) := fun e he => by
        simp only [List.mem_cons, List.not_mem_nil, or_false] at he
        rcases he with rfl | rfl | rfl | rfl
        · simp
        · grind
        · exact hS'
        · grind
      have sh : ∀ e, e ∈ shared q p ↔ e ∈ [q.1, q.2, p.1, p.2] ∧ le2 (start p.1 p.2 q.1 q.2) e ∧ le2 e (stop p.1 p.2 q.1 q.2) := fun e => by
        unfold shared start stop
        rw [List.mem_filter]
        constructor
        · rintro ⟨h1, h2⟩
          refine ⟨h1, ?_⟩
          rw [box_eq (onp e h1) np, box_eq (onq e h1) nq] at h2
          simp only [Bool.and_eq_true, Bool.not_eq_true'] at h2
          rw [le2_mx, le2_mn]
          exact ⟨⟨h2.2.1, h2.1.1⟩, h2.2.2, h2.1.2⟩
        · rintro ⟨h1, h2, h3⟩
          refine ⟨h1, ?_⟩
          rw [le2_mx] at h2
          rw [le2_mn] at h3
          rw [box_eq (onp e h1) np, box_eq (onq e h1) nq]
          simp only [Bool.and_eq_true, Bool.not_eq_true']
          exact ⟨⟨h2.2, h3.2⟩, h2.1, h3.1⟩
      have st4 : start p.1 p.2 q.1 q.2 ∈ [q.1, q.2, p.1, p.2] := by
        unfold start
        rcases mx_or (mn p.1 p.2) (mn q.1 q.2) with h | h <;> rw [h]
        · rcases mn_or p.1 p.2 with h | h <;> rw [h] <;> simp
        · rcases mn_or q.1 q.2 with h | h <;> rw [h] <;> simp
      have sp4 : stop p.1 p.2 q.1 q.2 ∈ [q.1, q.2, p.1, p.2] := by
        unfold stop
        rcases mn_or (mx p.1 p.2) (mx q.1 q.2) with h | h <;> rw [h]
        · rcases mx_or p.1 p.2 with h | h <;> rw [h] <;> simp
        · rcases mx_or q.1 q.2 with h | h <;> rw [h] <;> simp
      have fin : decide (2 ≤ (sortU ((shared q p).map row2)).length) = lt2 (start p.1 p.2 q.1 q.2) (stop p.1 p.2 q.1 q.2) := by
        cases h : lt2 (start p.1 p.2 q.1 q.2) (stop p.1 p.2 q.1 q.2) with
        | true =>
          refine decide_eq_true (two_of ((sh _).mpr ⟨st4, le2_refl _, lt2_le h⟩) ((sh _).mpr ⟨sp4, lt2_le h, le2_refl _⟩) fun z => ?_)
          rw [z] at h
          have := lt2_asym h
          rw [h] at this
          cases this
        | false =>
          refine decide_eq_false (Nat.not_le.mpr (Nat.lt_succ_of_le (one_of (a := start p.1 p.2 q.1 q.2) fun b hb => ?_)))
          obtain ⟨_, h1, h2⟩ := (sh b).mp hb
          exact le2_antisym (le2_trans h2 h) h1
      rw [decide_eq_true hT, decide_eq_true hT', decide_eq_true hS, decide_eq_true hS', fin]
    · have hS' : ¬ (q.2.1 - q.1.1) * (p.1.2 - q.1.2) = (q.2.2 - q.1.2) * (p.1.1 - q.1.1) := fun z => hS (by
        have := par_side (a := q.2.1 - q.1.1) (b := q.2.2 - q.1.2) (c := p.2.1 - p.1.1) (d := p.2.2 - p.1.2) (e := p.1.1 - q.1.1) (f := p.1.2 - q.1.2) (by omega) z (by omega)
        grind)
      rw [decide_eq_false hS, decide_eq_false hS']
      simp
  · have hT' : ¬ (q.2.1 - q.1.1) * (p.2.2 - p.1.2) - (q.2.2 - q.1.2) * (p.2.1 - p.1.1) = 0 := fun z => hT (by grind)
    rw [decide_eq_false hT, decide_eq_false hT']
    simp
end K35
end
section
set_option maxRecDepth 100000
set_option maxHeartbeats 1000000
namespace K35
open PySem L2 MP
theorem row_ne {st : Sto} (h : RowOk st) : st.length ≠ 1 := by
  obtain ⟨ro, ns, a, b, c, e0, e1, _⟩ := h.ex
  have := lt_of_get e1
  omega
theorem mkPv {x y z w : Int} (x0 : 0 ≤ x) (x1 : x ≤ 60) (y0 : 0 ≤ y) (y1 : y ≤ 60) (z0 : 0 ≤ z) (z1 : z ≤ 60) (w0 : 0 ≤ w) (w1 : w ≤ 60) (ne : ¬(x = z ∧ y = w)) : Pv ((x, y), (z, w)) := ⟨x0, x1, y0, y1, z0, z1, w0, w1, ne⟩
/-- pieces that make a drawing -/
structure Good (gs : List P4) : Prop where
  pv : ∀ p ∈ gs, Pv p
  len : gs.length ≤ 6
  apart : ∀ i p, gs[i]? = some p → (gs.take i).any (alongP p) = false
/-- what a turn leaves: all but the row and the list at n -/
structure StN (n : Nat) (st st' : Sto) : Prop where
  len : st.length ≤ st'.length
  old : ∀ i, i < st.length → i ≠ 1 → i ≠ n → st'[i]? = st[i]?
  row : RowOk st'
theorem Stp.n {st st' : Sto} (s : Stp st st') (n : Nat) : StN n st st' := ⟨s.len, fun i h h1 _ => s.old i h h1, s.row⟩
theorem StN.trans {n : Nat} {a b c : Sto} (h : StN n a b) (k : StN n b c) : StN n a c := ⟨Nat.le_trans h.len k.len, fun i hi h1 hn => (k.old i (Nat.lt_of_lt_of_le hi h.len) h1 hn).trans (h.old i hi h1 hn), k.row⟩
theorem RowOk.set {st : Sto} {k : Nat} {c : Cell} (h : RowOk st) (hk : 2 ≤ k) : RowOk (st.set k c) := by
  obtain ⟨ro, ns, a, b, d, e0, e1, r⟩ := h.ex
  exact ⟨ro, ns, a, b, d, by rw [List.getElem?_set_ne (by omega)]; exact e0, by rw [List.getElem?_set_ne (by omega)]; exact e1, r⟩
theorem row_ge {st : Sto} (h : RowOk st) : 2 ≤ st.length := by
  obtain ⟨ro, ns, a, b, c, e0, e1, _⟩ := h.ex
  exact lt_of_get e1
theorem StN.set {n : Nat} {st : Sto} {c : Cell} (h : RowOk st) (hn : 2 ≤ n) : StN n st (st.set n c) := ⟨by rw [List.length_set]; exact Nat.le_refl _, fun i _ _ hi => List.getElem?_set_ne (Ne.symm hi), h.set hn⟩
abbrev row4 (p : P4) : List Int := [p.1.1, p.1.2, p.2.1, p.2.2]
theorem map_row4 (gs : List P4) : gs.map pd = (gs.map row4).map tupI := by rw [List.map_map]; rfl
end K35
end
section
set_option maxRecDepth 100000
set_option maxHeartbeats 1000000
namespace K35
open PySem L2 MP
/-- a piece that may be a point -/
structure Pw (p : P4) : Prop where
  x0 : 0 ≤ p.1.1
  x1 : p.1.1 ≤ 60
  y0 : 0 ≤ p.1.2
  y1 : p.1.2 ≤ 60
  z0 : 0 ≤ p.2.1
  z1 : p.2.1 ≤ 60
  w0 : 0 ≤ p.2.2
  w1 : p.2.2 ≤ 60
theorem Pw.pv {p : P4} (h : Pw p) (ne : ¬(p.1.1 = p.2.1 ∧ p.1.2 = p.2.2)) : Pv p := ⟨h.x0, h.x1, h.y0, h.y1, h.z0, h.z1, h.w0, h.w1, ne⟩
theorem pv_pw {p : P4} (h : Pv p) : Pw p := ⟨h.x0, h.x1, h.y0, h.y1, h.z0, h.z1, h.w0, h.w1⟩
theorem ne_nil {gs : List P4} {n : Nat} {o0 o1 o2 o4 o5 o6 : Option D} {st : Sto} (h : RowOk st) (h3 : st[n]? = some (.lst false (gs.map pd))) :
    dBin fNe (dVar 3) (dApp fLst []) [o0, o1, o2, some (.obj n), o4, o5, o6] st = okD (.bl (!gs.isEmpty)) (st ++ [.lst false []]) := by
  have e := eqD_nil (st := st ++ [.lst false []]) (n := n) (m := st.length) (rows := gs.map row4) (by rw [List.getElem?_append_left (lt_of_get h3), ← map_row4]; exact h3) get_push
  have ie : (gs.map row4).isEmpty = gs.isEmpty := by cases gs <;> rfl
  rw [ie] at e
  simp [dBin, dApp, evA, dVar, okD, okL, bindR, fLst, small, LINE, fNe, e]
abbrev tCut : De := dAnd (dBin fNe (dVar 3) (dApp fLst [])) (dBin fEq (dApp g_law_taken [(dVar 0), (dC (.int 4))]) (dC (.int 0)))
end K35
end
section
set_option maxRecDepth 100000
set_option maxHeartbeats 1000000
namespace K35
open PySem L2 MP
theorem cut_take {l : List D} {i : Nat} (h : i ≤ l.length) : cutD l none (some (i : Int)) = l.take i := by
  unfold cutD HT.sIx
  have e : ¬ ((i : Nat) : Int) < 0 := by omega
  simp [e]
theorem enum_drop {l : List D} {i : Nat} {d : D} (h : l[i]? = some d) : (enumL l).drop i = .tup [.int (i : Nat), d] :: (enumL l).drop (i + 1) := by
  have hi : i < (enumL l).length := by rw [enumL_len]; exact lt_of_get h
  rw [List.drop_eq_getElem_cons hi]
  have e := enumL_get h
  rw [List.getElem?_eq_getElem hi] at e
  rw [Option.some.inj e]
end K35
end
section
set_option maxRecDepth 100000
set_option maxHeartbeats 1000000
namespace K35
open PySem L2 MP
/-- the store only grew, but for the thing at k -/
structure GrN (k : Nat) (st st' : Sto) : Prop where
  len : st.length ≤ st'.length
  old : ∀ i, i < st.length → i ≠ k → st'[i]? = st[i]?
theorem GrN.refl {k : Nat} (st : Sto) : GrN k st st := ⟨Nat.le_refl _, fun _ _ _ => rfl⟩
theorem GrN.trans {k : Nat} {a b c : Sto} (h : GrN k a b) (g : GrN k b c) : GrN k a c := ⟨Nat.le_trans h.len g.len, fun i hi hk => (g.old i (Nat.lt_of_lt_of_le hi h.len) hk).trans (h.old i hi hk)⟩
theorem GrN.set {k : Nat} {st : Sto} {c : Cell} : GrN k st (st.set k c) := ⟨by rw [List.length_set]; exact Nat.le_refl _, fun i _ hi => List.getElem?_set_ne (Ne.symm hi)⟩
/-- the store only grew -/
structure Gr (st st' : Sto) : Prop where
  len : st.length ≤ st'.length
  old : ∀ i, i < st.length → st'[i]? = st[i]?
theorem Gr.refl (st : Sto) : Gr st st := ⟨Nat.le_refl _, fun _ _ => rfl⟩
theorem Gr.trans {a b c : Sto} (h : Gr a b) (g : Gr b c) : Gr a c := ⟨Nat.le_trans h.len g.len, fun i hi => (g.old i (Nat.lt_of_lt_of_le hi h.len)).trans (h.old i hi)⟩
theorem Gr.push {st : Sto} {c : Cell} : Gr st (st ++ [c]) := ⟨by simp, fun i hi => List.getElem?_append_left hi⟩
theorem Gr.n {st st' : Sto} (h : Gr st st') (k : Nat) : GrN k st st' := ⟨h.len, fun i hi _ => h.old i hi⟩
theorem GrN.gr {st st' : Sto} {k : Nat} (h : GrN k st st') (hk : st.length ≤ k) : Gr st st' := ⟨h.len, fun i hi => h.old i hi (by omega)⟩
theorem Gr.stp {st st' : Sto} (h : Gr st st') (r : RowOk st) : Stp st st' := by
  refine ⟨h.len, fun i hi _ => h.old i hi, ?_⟩
  obtain ⟨ro, ns, a, b, d, e0, e1, q⟩ := r.ex
  exact ⟨ro, ns, a, b, d, (h.old 0 (lt_of_get e0)).trans e0, (h.old 1 (lt_of_get e1)).trans e1, q⟩
abbrev cD (c : MG.C) : D := .tup [.int c.1, .int c.2]
/-! ### the moments of the borders -/
def absI (i : Int) : Int := if i < 0 then -i else i
theorem absI_pos {i : Int} (h : i ≠ 0) : 0 < absI i := by unfold absI; split <;> omega
theorem absI_le {i k : Int} (h1 : -k ≤ i) (h2 : i ≤ k) : absI i ≤ k := by unfold absI; split <;> omega
theorem absI_nn (i : Int) : 0 ≤ absI i := by unfold absI; split <;> omega
def rgI (a b : Int) : List Int := (List.range (b - a).toNat).map fun i => a + (i : Nat)
theorem rgD_map (a b : Int) : rgD a (b - a).toNat = (rgI a b).map .int := by
  unfold rgD rgI
  rw [List.map_map]
  rfl
theorem rgI_mem {a b e : Int} : e ∈ rgI a b ↔ a ≤ e ∧ e < b := by
  unfold rgI
  simp only [List.mem_map, List.mem_range]
  constructor
  · rintro ⟨i, hi, rfl⟩
    omega
  · rintro ⟨h1, h2⟩
    exact ⟨(e - a).toNat, by omega, by omega⟩
def bmL (a b h N : Int) : List Int := if a = b then [] else ((rgI (lo a b) (hi a b + 1)).filter fun at_ => decide ((at_ + h) % (2 * h) = 0)).map fun at_ => absI (at_ - a) * (N / absI (b - a))
end K35
end
section
set_option maxRecDepth 100000
set_option maxHeartbeats 1000000
namespace K35
open PySem L2 MP
open MG (mom dedA cN)
abbrev bodyZ : Ds := dExpr (dMeth "list" fExtend (dVar 8) [(dApp fLst [(dBin fDiv (dBin fAdd (dVar 9) (dVar 10)) (dC (.int 2))), (dVar 10)])])
theorem zip_loop {n m k : Nat} (hn : n ≠ k) (hm : m ≠ k) {Lf Rf : List D} {x0 x1 x2 x3 x4 x5 x6 x7 x11 x12 x13 : Option D} : ∀ (l acc : List Int) (o9 o10 : Option D) (st : Sto), st[n]? = some (.lst false Lf) → st[m]? = some (.lst false Rf) → st[k]? = some (.lst false (acc.map .int)) → acc.length + 2 * l.length ≤ LINE →
    ∃ p9 p10 st', forD (.two n Lf m Rf) (.tp [.nm 9, .nm 10]) bodyZ (zipL (l.map .int) (l.tail.map .int)) [x0, x1, x2, x3, x4, x5, x6, x7, some (.obj k), o9, o10, x11, x12, x13] st = some (.next, [x0, x1, x2, x3, x4, x5, x6, x7, some (.obj k), p9, p10, x11, x12, x13], st') ∧
      st'[k]? = some (.lst false ((acc ++ mom l).map .int)) ∧ GrN k st st'
  | [], acc, o9, o10, st, h1, h2, h3, _ => ⟨o9, o10, st, by simp [zipL, forD, gdB, lstB_of h1, lstB_of h2], by simpa [mom] using h3, .refl _⟩
  | [a], acc, o9, o10, st, h1, h2, h3, _ => ⟨o9, o10, st, by simp [zipL, forD, gdB, lstB_of h1, lstB_of h2], by simpa [mom] using h3, .refl _⟩
  | a :: b :: r, acc, o9, o10, st, h1, h2, h3, hl => by
    simp at hl
    have hk := lt_of_get h3
    have sm : small (acc.length + 2) = true := by unfold small; exact decide_eq_true (by omega)
    have e1 : bodyZ [x0, x1, x2, x3, x4, x5, x6, x7, some (.obj k), some (.int a), some (.int b), x11, x12, x13] st =
        some (.next, [x0, x1, x2, x3, x4, x5, x6, x7, some (.obj k), some (.int a), some (.int b), x11, x12, x13], (st ++ [Cell.lst false [.int ((a + b) / 2), .int b]]).set k (.lst false ((acc ++ [(a + b) / 2, b]).map .int))) := by
      have g3 : (st ++ [Cell.lst false [D.int ((a + b) / 2), D.int b]])[k]? = some (.lst false (acc.map .int)) := by rw [List.getElem?_append_left hk]; exact h3
      simp [bodyZ, dExpr, dMeth, isTy, dVar, okD, bindR, bindS, dApp, evA, dBin, dC, fAdd, fDiv, fLst, LINE, okL, h3, g3, fExtend, get_push, small]
      have sm' : acc.length ≤ 999998 := by unfold LINE at hl; omega
      simp [sm']
    have s1 : GrN k st ((st ++ [Cell.lst false [.int ((a + b) / 2), .int b]]).set k (.lst false ((acc ++ [(a + b) / 2, b]).map .int))) := (Gr.push.n k).trans .set
    obtain ⟨p9, p10, st2, e2, k2, s2⟩ := zip_loop hn hm (b :: r) (acc ++ [(a + b) / 2, b]) (some (.int a)) (some (.int b)) _ ((s1.old n (lt_of_get h1) hn).trans h1) ((s1.old m (lt_of_get h2) hm).trans h2) (List.getElem?_set_self (by simp; omega)) (by simp; omega)
    refine ⟨p9, p10, st2, ?_, ?_, s1.trans s2⟩
    · rw [List.map_cons, List.tail_cons, List.map_cons, zipL, forD]
      simp only [gdB, lstB_of h1, lstB_of h2, Bool.and_self, if_true, asg, asgs, List.set_cons_succ, List.set_cons_zero]
      rw [e1]
      exact e2
    · rw [k2, MG.mom_cons2]
      simp
theorem cut_last (l : List D) : cutD l (some (-1)) none = l.getLast?.toList := by
  unfold cutD HT.sIx
  rcases List.eq_nil_or_concat l with h | ⟨r, a, h⟩
  · subst h
    rfl
  · rw [List.concat_eq_append] at h
    subst h
    rw [List.getLast?_append]
    have e : ((-1 : Int) + ((r ++ [a]).length : Int)).toNat = r.length := by simp; omega
    simp only [show ((-1 : Int) < 0) from by decide, if_true, e]
    simp
theorem eqD_last {st : Sto} {n m : Nat} {o : Option MG.C} {c : MG.C} (h1 : st[n]? = some (.lst false (o.toList.map cD))) (h2 : st[m]? = some (.lst false [cD c])) : eqD st (.obj n) (.obj m) = some (decide (o = some c)) := by
  cases o with
  | none => simp [eqD, toP, DEEP, mapO, h1, h2, PyData.eqv, PyData.eqvAll, SeqAt.shaped, PyData.canLay0, PyData.canLayAll0, PyData.depth, PyData.depthAll]
  | some d =>
    obtain ⟨i, j⟩ := c
    obtain ⟨i', j'⟩ := d
    simp [eqD, toP, DEEP, mapO, h1, h2, PyData.eqv, PyData.eqvAll, SeqAt.shaped, PyData.canLay0, PyData.canLayAll0, PyData.depth, PyData.depthAll]
    rw [Bool.eq_iff_iff]
    simp
/-- the cell at a moment -/
abbrev cellAt (x y x2 y2 h N m : Int) : MG.C := (cN x (x2 - x) h N m, cN y (y2 - y) h N m)
end K35
end
section
set_option maxRecDepth 100000
set_option maxHeartbeats 1000000
namespace K35
open PySem L2 MP
open MG (mom dedA cN)
theorem insI_len (x : Int) : ∀ l : List Int, (insI x l).length ≤ l.length + 1
  | [] => by simp [insI]
  | y :: r => by
    unfold insI
    split
    · simp
    · split
      · simp
      · have := insI_len x r
        simp
        exact this
theorem sortI_len : ∀ l : List Int, (sortI l).length ≤ l.length
  | [] => Nat.le_refl _
  | x :: r => by
    rw [sortI]
    have := insI_len x (sortI r)
    have := sortI_len r
    simp
    omega
theorem gap_len : ∀ {l : List Int} {a : Int}, (a :: l).Pairwise (fun u v => u + 2 ≤ v) → (∀ e ∈ a :: l, e ≤ 60) → 2 * (((a :: l).length : Nat) : Int) ≤ 62 - a
  | [], a, _, h => by
    have := h a List.mem_cons_self
    simp
    omega
  | b :: l, a, h, h2 => by
    obtain ⟨p1, p2⟩ := List.pairwise_cons.mp h
    have h1 := p1 b List.mem_cons_self
    have ih := gap_len p2 fun e he => h2 e (List.mem_cons_of_mem _ he)
    simp at ih ⊢
    omega
theorem rgI_sorted (a b : Int) : (rgI a b).Pairwise (· < ·) := by
  unfold rgI
  rw [List.pairwise_map]
  exact List.pairwise_lt_range.imp fun {x y} h => by omega
theorem bmL_len {a b h N : Int} (a0 : 0 ≤ a) (a1 : a ≤ 60) (b0 : 0 ≤ b) (b1 : b ≤ 60) (h0 : 0 < h) : (bmL a b h N).length ≤ 30 := by
  unfold bmL
  split
  · simp
  · rw [List.length_map]
    have l0 : 0 ≤ lo a b := by unfold lo; split <;> omega
    have l1 : hi a b ≤ 60 := by unfold hi; split <;> omega
    have pw : ((rgI (lo a b) (hi a b + 1)).filter fun at_ => decide ((at_ + h) % (2 * h) = 0)).Pairwise (fun u v => u + 2 ≤ v) := by
      refine List.Pairwise.imp_of_mem (fun {u v} hu hv huv => ?_) ((rgI_sorted (lo a b) (hi a b + 1)).filter _)
      have e1 := of_decide_eq_true (List.mem_filter.mp hu).2
      have e2 := of_decide_eq_true (List.mem_filter.mp hv).2
      have d : (2 * h) ∣ (v + h) - (u + h) := Int.dvd_sub (Int.dvd_of_emod_eq_zero e2) (Int.dvd_of_emod_eq_zero e1)
      have := Int.le_of_dvd (by omega) d
      omega
    have mem : ∀ e ∈ (rgI (lo a b) (hi a b + 1)).filter (fun at_ => decide ((at_ + h) % (2 * h) = 0)), 1 ≤ e ∧ e ≤ 60 := fun e he => by
      obtain ⟨m1, m2⟩ := List.mem_filter.mp he
      have m2 := of_decide_eq_true m2
      obtain ⟨r1, r2⟩ := rgI_mem.mp m1
      refine ⟨?_, by omega⟩
      by_cases c : e = 0
      · subst c
        rw [Int.zero_add, Int.emod_eq_of_lt (by omega) (by omega)] at m2
        omega
      · omega
    generalize hF : (rgI (lo a b) (hi a b + 1)).filter (fun at_ => decide ((at_ + h) % (2 * h) = 0)) = F at pw mem
    cases F with
    | nil => simp
    | cons x F =>
      have := gap_len pw fun e he => (mem e he).2
      have := (mem x List.mem_cons_self).1
      omega
theorem addl_eq {i j : Nat} {a b : List D} {st : Sto} (h1 : st[i]? = some (.lst false a)) (h2 : st[j]? = some (.lst false b)) (h : a.length + b.length ≤ 1000000) : fAdd (.obj i) (.obj j) st = okD (.obj st.length) (st ++ [.lst false (a ++ b)]) := by
  unfold fAdd
  simp only [h1, h2]
  rw [if_pos (show small (a.length + b.length) = true from decide_eq_true h)]
  rfl
theorem bin_eq {f : D → D → Sto → Rt} {da db : De} {ls : Ls} {st st1 st2 : Sto} {x y : D} (ha : da ls st = okD x st1) (hb : db ls st1 = okD y st2) : dBin f da db ls st = f x y st2 := by
  unfold dBin
  rw [ha]
  simp only [bindR, okD]
  rw [hb]
  rfl
theorem lst1_eq {da : De} {ls : Ls} {st : Sto} {x : D} (ha : da ls st = okD x st) : dApp fLst [da] ls st = okD (.obj st.length) (st ++ [.lst false [x]]) := by
  unfold dApp
  simp only [evA, bindR]
  rw [ha]
  rfl
theorem lst0_eq {ls : Ls} {st : Sto} : dApp fLst [] ls st = okD (.obj st.length) (st ++ [.lst false []]) := rfl
theorem lst2_eq {da db : De} {ls : Ls} {st : Sto} {x y : D} (ha : da ls st = okD x st) (hb : db ls st = okD y st) : dApp fLst [da, db] ls st = okD (.obj st.length) (st ++ [.lst false [x, y]]) := by
  unfold dApp
  simp only [evA, bindR]
  rw [ha]
  simp only [okD, bindR]
  rw [hb]
  rfl
theorem app4_eq {f : List D → Sto → Rt} {da db dc dd : De} {ls : Ls} {st : Sto} {x y z u : D} (ha : da ls st = okD x st) (hb : db ls st = okD y st) (hc : dc ls st = okD z st) (hd : dd ls st = okD u st) : dApp f [da, db, dc, dd] ls st = f [x, y, z, u] st := by
  unfold dApp
  simp only [evA, bindR]
  rw [ha]
  simp only [okD, bindR]
  rw [hb]
  simp only [okD, bindR]
  rw [hc]
  simp only [okD, bindR]
  rw [hd]
  rfl
theorem cut_tail (S : List Int) (h : S.length < 64) : cutD (S.map D.int) (some 1) none = S.tail.map D.int := by
  cases S with
  | nil => rfl
  | cons a r =>
    simp at h
    unfold cutD HT.sIx
    simp
    exact List.take_of_length_le (by simp)
/-- parts of a whole -/
def Np (p : P4) : Int := 2 * hi 1 (absI (p.2.1 - p.1.1)) * hi 1 (absI (p.2.2 - p.1.2))
def stopsP (p : P4) (h : Int) : List Int := sortI ([0, Np p] ++ bmL p.1.1 p.2.1 h (Np p) ++ bmL p.1.2 p.2.2 h (Np p))
def cellsP (p : P4) (h : Int) : List MG.C := dedA [] ((0 :: mom (stopsP p h)).map (cellAt p.1.1 p.1.2 p.2.1 p.2.2 h (Np p)))
theorem Np_bd {p : P4} (v : Pv p) : 2 ≤ Np p ∧ Np p ≤ 7200 := by
  unfold Np
  have a1 := absI_nn (p.2.1 - p.1.1)
  have a2 := absI_nn (p.2.2 - p.1.2)
  have b1 := absI_le (i := p.2.1 - p.1.1) (k := 60) (by have := v.x1; have := v.z0; omega) (by have := v.x0; have := v.z1; omega)
  have b2 := absI_le (i := p.2.2 - p.1.2) (k := 60) (by have := v.y1; have := v.w0; omega) (by have := v.y0; have := v.w1; omega)
  have c1 : 1 ≤ hi 1 (absI (p.2.1 - p.1.1)) ∧ hi 1 (absI (p.2.1 - p.1.1)) ≤ 60 := by unfold hi; split <;> omega
  have c2 : 1 ≤ hi 1 (absI (p.2.2 - p.1.2)) ∧ hi 1 (absI (p.2.2 - p.1.2)) ≤ 60 := by unfold hi; split <;> omega
  generalize hi 1 (absI (p.2.1 - p.1.1)) = u at c1 ⊢
  generalize hi 1 (absI (p.2.2 - p.1.2)) = w at c2 ⊢
  have m1 := Int.mul_le_mul (a := u) (b := w) (c := 60) (d := 60) c1.2 c2.2 (by omega) (by omega)
  have m2 := Int.mul_le_mul (a := 1) (b := 1) (c := u) (d := w) c1.1 c2.1 (by omega) (by omega)
  have e : 2 * u * w = 2 * (u * w) := Int.mul_assoc ..
  omega
theorem stops_len {p : P4} {h : Int} (v : Pv p) (h0 : 0 < h) : ([0, Np p] ++ bmL p.1.1 p.2.1 h (Np p) ++ bmL p.1.2 p.2.2 h (Np p)).length ≤ 62 := by
  have l1 := bmL_len (N := Np p) v.x0 v.x1 v.z0 v.z1 h0
  have l2 := bmL_len (N := Np p) v.y0 v.y1 v.w0 v.w1 h0
  simp
  omega
theorem intsOf_map : ∀ ns : List Int, intsOf (ns.map D.int) = some ns
  | [] => rfl
  | n :: r => by rw [List.map_cons, intsOf, intsOf_map r]
theorem mom_len : ∀ l : List Int, (mom l).length ≤ 2 * l.length
  | [] => by simp [mom]
  | [a] => by simp [mom]
  | a :: b :: r => by
    have := mom_len (b :: r)
    rw [MG.mom_cons2]
    simp at this ⊢
    omega
end K35
end
section
set_option maxRecDepth 100000
set_option maxHeartbeats 1000000
namespace K35
open PySem L2 MP
theorem comp_gen {α : Type} {gd : Gd} {t : Tg} {dt de : De} {k : Nat} {lsw : Ls} {f : α → D} {P : α → Bool} {g : α → D} {B : Sto} (hk : k < B.length)
    (hg : ∀ st, GrN k B st → gdB gd st = true) :
    ∀ (xs : List α) (st : Sto) (acc : List D), GrN k B st → st[k]? = some (.lst false acc) → acc.length + xs.length ≤ LINE →
    (∀ x ∈ xs, ∀ st, GrN k B st → ∃ ls1 st1, asg t (f x) lsw = some ls1 ∧ dt ls1 st = okD (.bl (P x)) st1 ∧ Gr st st1 ∧ (P x = true → ∃ st2, de ls1 st1 = okD (g x) st2 ∧ Gr st1 st2)) →
    ∃ st', compD gd t dt de k lsw (xs.map f) st = okD (.obj k) st' ∧ st'[k]? = some (.lst false (acc ++ (xs.filter P).map g)) ∧ GrN k st st' := by
  intro xs
  induction xs with
  | nil =>
    intro st acc s h3 _ _
    exact ⟨st, by simp [compD, hg st s], by simpa using h3, .refl st⟩
  | cons x xs ih =>
    intro st acc s h3 hl hx
    obtain ⟨ls1, st1, a1, t1, r1, d1⟩ := hx x List.mem_cons_self st s
    have s1 := s.trans (r1.n k)
    have h3' : st1[k]? = some (.lst false acc) := (r1.old k (lt_of_get h3)).trans h3
    have hx' := fun y hy => hx y (List.mem_cons_of_mem _ hy)
    rw [List.map_cons, compD, if_pos (hg st s), a1]
    simp only
    rw [t1]
    cases hc : P x with
    | false =>
      obtain ⟨st2, e2, k2, s2⟩ := ih st1 acc s1 h3' (by simp at hl; omega) hx'
      refine ⟨st2, ?_, ?_, (r1.n k).trans s2⟩
      · simp only [okD, bindO]
        exact e2
      · rw [k2, List.filter_cons, hc]
        simp
    | true =>
      obtain ⟨st2, e2, r2⟩ := d1 hc
      have h3'' : st2[k]? = some (.lst false acc) := (r2.old k (lt_of_get h3')).trans h3'
      have s2 := s1.trans (r2.n k)
      obtain ⟨st3, e3, k3, s3⟩ := ih (st2.set k (.lst false (acc ++ [g x]))) (acc ++ [g x]) (s2.trans .set) (List.getElem?_set_self (lt_of_get h3'')) (by simp at hl ⊢; omega) hx'
      have hl' : acc.length < LINE := by simp at hl; omega
      refine ⟨st3, ?_, ?_, (r1.n k).trans ((r2.n k).trans (GrN.set.trans s3))⟩
      · simp only [okD, bindO]
        rw [e2]
        simp only [okD, bindO, h3'', if_pos hl']
        exact e3
      · rw [k3, List.filter_cons, hc]
        simp
theorem lc_gen {α : Type} {di : Di} {gd : Gd} {t : Tg} {dt de : De} {vs : List Nat} {ls : Ls} {st B : Sto} {f : α → D} {P : α → Bool} {g : α → D} {xs : List α}
    (hi : di ls st = some (.it (xs.map f) gd, B)) (hg : ∀ st, Gr B st → gdB gd st = true) (hl : xs.length ≤ LINE)
    (hx : ∀ x ∈ xs, ∀ st, Gr B st → ∃ ls1 st1, asg t (f x) (wipeL ls vs) = some ls1 ∧ dt ls1 st = okD (.bl (P x)) st1 ∧ Gr st st1 ∧ (P x = true → ∃ st2, de ls1 st1 = okD (g x) st2 ∧ Gr st1 st2)) :
    ∃ st', dLc di t dt de vs ls st = okD (.obj B.length) st' ∧ st'[B.length]? = some (.lst false ((xs.filter P).map g)) ∧ Gr B st' := by
  have up : ∀ st, GrN B.length (B ++ [Cell.lst false []]) st → Gr B st := fun st s => (Gr.push.n B.length |>.trans s).gr (Nat.le_refl _)
  obtain ⟨st', e, k, s⟩ := comp_gen (B := B ++ [Cell.lst false []]) (k := B.length) (by simp) (fun st s => hg st (up st s)) xs (B ++ [.lst false []]) [] (.refl _) get_push (by simpa using hl) (fun x h st s => hx x h st (up st s))
  refine ⟨st', ?_, by simpa using k, up st' s⟩
  unfold dLc
  rw [hi]
  exact e
theorem cD_inj {a b : MG.C} (h : cD a = cD b) : a = b := by
  obtain ⟨i, j⟩ := a
  obtain ⟨k, l⟩ := b
  simp [cD] at h
  simp [h.1, h.2]
theorem beq_cD (a b : MG.C) : beqD (cD a) (cD b) = decide (a = b) := by
  by_cases h : a = b
  · subst h
    rw [beqD_refl]
    simp
  · cases e : beqD (cD a) (cD b) with
    | true => exact absurd (cD_inj (beqD_eq e)) h
    | false => simp [h]
theorem ok_cD (c : MG.C) : okTop (cD c) = true := rfl
theorem look_cD : ∀ (ps : List (D × D)) (K : List MG.C) (c : MG.C), ps.map (·.1) = K.map cD → (lookD ps (cD c)).isSome = decide (c ∈ K)
  | [], [], c, _ => by simp [lookD]
  | [], _ :: _, c, h => by simp at h
  | _ :: _, [], c, h => by simp at h
  | (a, v) :: r, k :: K, c, h => by
    simp at h
    obtain ⟨rfl, h⟩ := h
    unfold lookD
    rw [beq_cD]
    have ih := look_cD r K c (by simpa using h)
    by_cases e : k = c
    · subst e
      simp
    · simp [e, ih, Ne.symm e]
theorem dedA_len : ∀ (l acc : List MG.C), (MG.dedA acc l).length ≤ acc.length + l.length
  | [], acc => by simp [MG.dedA]
  | c :: r, acc => by
    rw [MG.dedA]
    split
    · have := dedA_len r acc
      simp
      omega
    · have := dedA_len r (acc ++ [c])
      simp at this ⊢
      omega
theorem app1_eq {f : List D → Sto → Rt} {da : De} {ls : Ls} {st st1 : Sto} {x : D} (ha : da ls st = okD x st1) : dApp f [da] ls st = f [x] st1 := by
  unfold dApp
  simp only [evA]
  rw [ha]
  rfl
/-- a row of cells as a tuple -/
abbrev csD (l : List MG.C) : D := .tup (l.map cD)
abbrev hotP (p : P4) (h : Int) (K : List MG.C) : List MG.C := (cellsP p h).filter fun c => decide (c ∈ K)
theorem cellsP_len {p : P4} {h : Int} (v : Pv p) (h0 : 0 < h) : (cellsP p h).length ≤ 125 := by
  have := dedA_len ((0 :: MG.mom (stopsP p h)).map (cellAt p.1.1 p.1.2 p.2.1 p.2.2 h (Np p))) []
  have h2 := sortI_len ([0, Np p] ++ bmL p.1.1 p.2.1 h (Np p) ++ bmL p.1.2 p.2.2 h (Np p))
  have h3 := stops_len v h0
  have h4 := mom_len (stopsP p h)
  unfold cellsP
  unfold stopsP at *
  simp at this h4 ⊢
  simp at h2 h3
  omega
end K35
end
section
set_option maxRecDepth 100000
set_option maxHeartbeats 1000000
namespace K35
open PySem L2 MP
abbrev Tri := Int × Int × Int
abbrev triD (t : Tri) : D := .tup [.int t.1, .int t.2.1, .int t.2.2]
def triL : List Int → Tri
  | [a, b] => (a, b, 1)
  | _ => (0, 0, 1)
/-- where two lines that are not beside one another meet -/
def crossP (x y a b c d e f T : Int) : List Tri :=
  let A := if T < 0 then -T else T
  let t := (e * d - f * c) * (if 0 < T then 1 else -1)
  let u := (e * b - f * a) * (if 0 < T then 1 else -1)
  if (decide (t < 0) || (decide (A < t) || (decide (u < 0) || decide (A < u)))) then [] else [(x * A + a * t, y * A + b * t, A)]
/-- the points that two pieces have in common, if these aren't more than one -/
def comP (p q : P4) : List Tri :=
  let T := (p.2.1 - p.1.1) * (q.2.2 - q.1.2) - (p.2.2 - p.1.2) * (q.2.1 - q.1.1)
  if T = 0 then if (p.2.1 - p.1.1) * (q.1.2 - p.1.2) = (p.2.2 - p.1.2) * (q.1.1 - p.1.1) then (sortU ((shared p q).map row2)).map triL else []
  else crossP p.1.1 p.1.2 (p.2.1 - p.1.1) (p.2.2 - p.1.2) (q.2.1 - q.1.1) (q.2.2 - q.1.2) (q.1.1 - p.1.1) (q.1.2 - p.1.2) T
end K35
end
section
set_option maxRecDepth 100000
set_option maxHeartbeats 1000000
namespace K35
open PySem L2 MP
theorem shared_mem {p q : P4} (hp : Pv p) (hq : Pv q) (hT : (p.2.1 - p.1.1) * (q.2.2 - q.1.2) - (p.2.2 - p.1.2) * (q.2.1 - q.1.1) = 0) (hS : (p.2.1 - p.1.1) * (q.1.2 - p.1.2) = (p.2.2 - p.1.2) * (q.1.1 - p.1.1)) :
    ∀ e, e ∈ shared p q ↔ e ∈ [p.1, p.2, q.1, q.2] ∧ le2 (start p.1 p.2 q.1 q.2) e ∧ le2 e (stop p.1 p.2 q.1 q.2) := by
  have np : ¬(p.1.1 = p.2.1 ∧ p.1.2 = p.2.2) := hp.ne
  have nq : ¬(q.1.1 = q.2.1 ∧ q.1.2 = q.2.2) := hq.ne
  have hS1 : (q.2.1 - q.1.1) * (q.1.2 - p.1.2) = (q.2.2 - q.1.2) * (q.1.1 - p.1.1) := par_side (a := p.2.1 - p.1.1) (b := p.2.2 - p.1.2) (by omega) (by omega) (by omega)
  have hS' : (q.2.1 - q.1.1) * (p.1.2 - q.1.2) = (q.2.2 - q.1.2) * (p.1.1 - q.1.1) := by grind
  have onp : ∀ e ∈ [p.1, p.2, q.1, q.2], (p.2.1 - p.1.1) * (e.2 - p.1.2) = (p.2.2 - p.1.2) * (e.1 - p.1.1) := fun e he => by
    simp only [List.mem_cons, List.not_mem_nil, or_false] at he
    rcases he with rfl | rfl | rfl | rfl
    · simp
    · grind
    · omega
    · grind
  have onq : ∀ e ∈ [p.1, p.2, q.1, q.2], (q.2.1 - q.1.1) * (e.2 - q.1.2) = (q.2.2 - q.1.2) * (e.1 - q.1.1) := fun e he => by
    simp only [List.mem_cons, List.not_mem_nil, or_false] at he
    rcases he with rfl | rfl | rfl | rfl
    · exact hS'
    · grind
    · simp
    · grind
  intro e
  unfold shared start stop
  rw [List.mem_filter]
  constructor
  · rintro ⟨h1, h2⟩
    refine ⟨h1, ?_⟩
    rw [box_eq (onp e h1) np, box_eq (onq e h1) nq] at h2
    simp only [Bool.and_eq_true, Bool.not_eq_true'] at h2
    rw [le2_mx, le2_mn]
    exact ⟨⟨h2.1.1, h2.2.1⟩, h2.1.2, h2.2.2⟩
  · rintro ⟨h1, h2, h3⟩
    refine ⟨h1, ?_⟩
    rw [le2_mx] at h2
    rw [le2_mn] at h3
    rw [box_eq (onp e h1) np, box_eq (onq e h1) nq]
    simp only [Bool.and_eq_true, Bool.not_eq_true']
    exact ⟨⟨h2.1, h3.1⟩, h2.2, h3.2⟩
theorem start_mem (p q : P4) : start p.1 p.2 q.1 q.2 ∈ [p.1, p.2, q.1, q.2] := by
  unfold start
  rcases mx_or (mn p.1 p.2) (mn q.1 q.2) with h | h <;> rw [h]
  · rcases mn_or p.1 p.2 with h | h <;> rw [h] <;> simp
  · rcases mn_or q.1 q.2 with h | h <;> rw [h] <;> simp
theorem stop_mem (p q : P4) : stop p.1 p.2 q.1 q.2 ∈ [p.1, p.2, q.1, q.2] := by
  unfold stop
  rcases mn_or (mx p.1 p.2) (mx q.1 q.2) with h | h <;> rw [h]
  · rcases mx_or p.1 p.2 with h | h <;> rw [h] <;> simp
  · rcases mx_or q.1 q.2 with h | h <;> rw [h] <;> simp
theorem mn_mx {a b : Int × Int} (h : mn a b = mx a b) : a = b := by
  unfold mn mx at h
  cases h1 : lt2 b a with
  | true =>
    have h2 := lt2_asym h1
    rw [h1, h2] at h
    exact h.symm
  | false =>
    cases h2 : lt2 a b with
    | true => simp [h1, h2] at h; exact h
    | false => exact le2_antisym h1 h2
theorem ends_meet {p q : P4} (hp : Pv p) (hq : Pv q) (h : start p.1 p.2 q.1 q.2 = stop p.1 p.2 q.1 q.2) : ∃ u, u ∈ [p.1, p.2] ∧ u ∈ [q.1, q.2] := by
  have np : p.1 ≠ p.2 := fun z => hp.ne ⟨by rw [z], by rw [z]⟩
  have nq : q.1 ≠ q.2 := fun z => hq.ne ⟨by rw [z], by rw [z]⟩
  have m1 : mn p.1 p.2 ∈ [p.1, p.2] := by rcases mn_or p.1 p.2 with h | h <;> rw [h] <;> simp
  have m2 : mn q.1 q.2 ∈ [q.1, q.2] := by rcases mn_or q.1 q.2 with h | h <;> rw [h] <;> simp
  have m3 : mx p.1 p.2 ∈ [p.1, p.2] := by rcases mx_or p.1 p.2 with h | h <;> rw [h] <;> simp
  have m4 : mx q.1 q.2 ∈ [q.1, q.2] := by rcases mx_or q.1 q.2 with h | h <;> rw [h] <;> simp
  unfold start stop at h
  rcases mx_or (mn p.1 p.2) (mn q.1 q.2) with h1 | h1 <;> rcases mn_or (mx p.1 p.2) (mx q.1 q.2) with h2 | h2 <;> rw [h1, h2] at h
  · exact absurd (mn_mx h) np
  · exact ⟨_, m1, h ▸ m4⟩
  · exact ⟨_, m3, h ▸ m2⟩
  · exact absurd (mn_mx h) nq
theorem meet_line {p q : P4} (hT : (p.2.1 - p.1.1) * (q.2.2 - q.1.2) - (p.2.2 - p.1.2) * (q.2.1 - q.1.1) = 0) {u : Int × Int} (h1 : u ∈ [p.1, p.2]) (h2 : u ∈ [q.1, q.2]) : (p.2.1 - p.1.1) * (q.1.2 - p.1.2) = (p.2.2 - p.1.2) * (q.1.1 - p.1.1) := by
  obtain ⟨⟨x, y⟩, ⟨z, w⟩⟩ := p
  obtain ⟨⟨x', y'⟩, ⟨z', w'⟩⟩ := q
  simp only [List.mem_cons, List.not_mem_nil, or_false] at h1 h2 hT ⊢
  rcases h1 with rfl | rfl <;> rcases h2 with h | h <;> cases h <;> grind
/-- what the program says where the lines are beside one another -/
theorem par_com {p q : P4} (hp : Pv p) (hq : Pv q) (nc : noCommon p q = false) (hT : (p.2.1 - p.1.1) * (q.2.2 - q.1.2) - (p.2.2 - p.1.2) * (q.2.1 - q.1.1) = 0) :
    comP p q = if start p.1 p.2 q.1 q.2 = stop p.1 p.2 q.1 q.2 then [((start p.1 p.2 q.1 q.2).1, (start p.1 p.2 q.1 q.2).2, 1)] else [] := by
  by_cases hS : (p.2.1 - p.1.1) * (q.1.2 - p.1.2) = (p.2.2 - p.1.2) * (q.1.1 - p.1.1)
  · have hm := shared_mem hp hq hT hS
    have hn : ¬ 2 ≤ (sortU ((shared p q).map row2)).length := by
      unfold noCommon at nc
      simpa [hT, hS] using nc
    have hc : comP p q = (sortU ((shared p q).map row2)).map triL := by
      unfold comP
      simp [hT, hS]
    rw [hc]
    by_cases he : start p.1 p.2 q.1 q.2 = stop p.1 p.2 q.1 q.2
    · rw [if_pos he]
      have h1 := (hm _).mpr ⟨start_mem p q, le2_refl _, he ▸ le2_refl _⟩
      have hall : ∀ r ∈ sortU ((shared p q).map row2), r = row2 (start p.1 p.2 q.1 q.2) := fun r hr => by
        obtain ⟨b, hb, rfl⟩ := List.mem_map.mp (sortU_mem.mp hr)
        obtain ⟨_, a1, a2⟩ := (hm b).mp hb
        rw [← he] at a2
        rw [le2_antisym a2 a1]
      have hin : row2 (start p.1 p.2 q.1 q.2) ∈ sortU ((shared p q).map row2) := sortU_mem.mpr (List.mem_map_of_mem h1)
      rcases e : sortU ((shared p q).map row2) with _ | ⟨r, _ | ⟨r', t⟩⟩
      · rw [e] at hin; cases hin
      · rw [hall r (by rw [e]; simp)]
        rfl
      · rw [e] at hn
        simp at hn
    · rw [if_neg he]
      have h0 : shared p q = [] := by
        rw [List.eq_nil_iff_forall_not_mem]
        intro b hb
        obtain ⟨_, a1, a2⟩ := (hm b).mp hb
        have a3 := le2_trans a1 a2
        cases hl : lt2 (start p.1 p.2 q.1 q.2) (stop p.1 p.2 q.1 q.2) with
        | false => exact he (le2_antisym a3 hl)
        | true =>
          exact hn (two_of ((hm _).mpr ⟨start_mem p q, le2_refl _, a3⟩) ((hm _).mpr ⟨stop_mem p q, a3, le2_refl _⟩) he)
      rw [h0]
      rfl
  · have hc : comP p q = [] := by
      unfold comP
      simp [hT, hS]
    rw [hc, if_neg]
    intro he
    obtain ⟨u, h1, h2⟩ := ends_meet hp hq he
    exact hS (meet_line hT h1 h2)
/-! ### the program's point -/
theorem gcd_cell {n A g h : Int} (hA : 0 < A) (h0 : 0 < h) (hg : g = ((Nat.gcd n.natAbs A.natAbs : Nat) : Int)) : 0 < A / g ∧ A / g ≤ A ∧ (n / g + h * (A / g)) / (2 * h * (A / g)) = (n + h * A) / (2 * h * A) ∧ 0 < g ∧ g ≤ A := by
  have d1 : g ∣ n := hg ▸ Int.ofNat_dvd_left.mpr (Nat.gcd_dvd_left _ _)
  have d2 : g ∣ A := hg ▸ Int.ofNat_dvd_left.mpr (Nat.gcd_dvd_right _ _)
  have g0 : 0 < g := by
    have : 0 < Nat.gcd n.natAbs A.natAbs := Nat.gcd_pos_of_pos_right _ (by omega)
    omega
  have gA : g ≤ A := Int.le_of_dvd hA d2
  obtain ⟨n', rfl⟩ := d1
  obtain ⟨A', rfl⟩ := d2
  have A0 : 0 < A' := Int.pos_of_mul_pos_right hA (by omega) |> fun z => z
  rw [Int.mul_ediv_cancel_left _ (by omega), Int.mul_ediv_cancel_left _ (by omega)]
  refine ⟨A0, ?_, ?_, g0, gA⟩
  · have := Int.mul_le_mul_of_nonneg_right (show 1 ≤ g by omega) (show 0 ≤ A' by omega)
    omega
  · have e1 : g * n' + h * (g * A') = g * (n' + h * A') := by grind
    have e2 : 2 * h * (g * A') = g * (2 * h * A') := by grind
    rw [e1, e2, Int.mul_ediv_mul_of_pos _ _ g0]
theorem eq2 (st : Sto) (u v : Int × Int) : fNe (ptD u) (ptD v) st = okD (.bl (!decide (u = v))) st := by
  obtain ⟨a, b⟩ := u
  obtain ⟨c, d⟩ := v
  unfold fNe
  simp only [eqD2]
  have : (a == c && b == d) = decide ((a, b) = (c, d)) := by
    by_cases h1 : a = c <;> by_cases h2 : b = d <;> simp [h1, h2]
  rw [this]
/-- what the program tells of two pieces' point: none, or the law's in its lowest terms -/
inductive Pt : List Tri → D → Prop
  | no : Pt [] .non
  | one {X Y A n d n' d' : Int} : 0 < A → A ≤ 7200 → 0 < d → d ≤ 100000 → 0 < d' → d' ≤ 100000 →
      (∀ h, 0 < h → (n + h * d) / (2 * h * d) = (X + h * A) / (2 * h * A)) → (∀ h, 0 < h → (n' + h * d') / (2 * h * d') = (Y + h * A) / (2 * h * A)) →
      Pt [(X, Y, A)] (.tup [.tup [.int n, .int d], .tup [.int n', .int d']])
theorem mul60 {a b : Int} (a0 : -60 ≤ a) (a1 : a ≤ 60) (b0 : -60 ≤ b) (b1 : b ≤ 60) : -3600 ≤ a * b ∧ a * b ≤ 3600 := by
  have q1 := Int.mul_nonneg (show 0 ≤ 60 - a by omega) (show 0 ≤ 60 - b by omega)
  have q2 := Int.mul_nonneg (show 0 ≤ 60 + a by omega) (show 0 ≤ 60 + b by omega)
  have q3 := Int.mul_nonneg (show 0 ≤ 60 - a by omega) (show 0 ≤ 60 + b by omega)
  have q4 := Int.mul_nonneg (show 0 ≤ 60 + a by omega) (show 0 ≤ 60 - b by omega)
  have e1 : (60 - a) * (60 - b) = 3600 - 60 * a - 60 * b + a * b := by grind
  have e2 : (60 + a) * (60 + b) = 3600 + 60 * a + 60 * b + a * b := by grind
  have e3 : (60 - a) * (60 + b) = 3600 - 60 * a + 60 * b - a * b := by grind
  have e4 : (60 + a) * (60 - b) = 3600 + 60 * a - 60 * b - a * b := by grind
  omega
end K35
end
section
set_option maxRecDepth 100000
set_option maxHeartbeats 1000000
namespace K35
open PySem L2 MP
/-! ### a drawing that is asked -/
abbrev DrawAt (st : Sto) (d : Nat) (gs : List P4) : Prop := st[d]? = some (.ins "Drawing" [("pieces", .tup (gs.map pd))])
theorem Gr.at {st st' : Sto} {n : Nat} {c : Cell} (h : Gr st st') (e : st[n]? = some c) : st'[n]? = some c := (h.old n (lt_of_get e)).trans e
theorem GrN.at {k : Nat} {st st' : Sto} {n : Nat} {c : Cell} (h : GrN k st st') (e : st[n]? = some c) (hn : n ≠ k) : st'[n]? = some c := (h.old n (lt_of_get e) hn).trans e
theorem fsp (d : D) : ([("pieces", d)] : List (Str × D)).lookup ("pieces" : Str) = some d := by
  have e : (("pieces" : Str) == ("pieces" : Str)) = true := by decide +kernel
  rw [List.lookup_cons, e]
theorem dwd : (("Drawing" : Str) == ("Drawing" : Str)) = true := by decide +kernel
theorem ix_eq {gs : List P4} {i : Int} {n : Nat} {p : P4} (hi : i = n) (h : gs[n]? = some p) (st : Sto) : fIx (.tup (gs.map pd)) (.int i) st = okD (pd p) st := by
  have hl := lt_of_get h
  have e : L2.atI (gs.map pd) i = some (pd p) := by
    unfold L2.atI L2.ixN
    rw [hi, List.length_map]
    have a : ¬ ((n : Int) < 0) := by omega
    have hg : gs[n] = p := by
      rw [List.getElem?_eq_getElem hl] at h
      exact Option.some.inj h
    simp [a, hl, hg]
  unfold fIx
  simp only [e]
/-! ### all pairs -/
abbrev ijD (x : Int × Int) : D := .tup [.int x.1, .int x.2]
def pairs (n : Int) : List (Int × Int) := (rgI 0 n).flatMap fun i => (rgI (i + 1) n).map fun j => (i, j)
theorem pin {k : Nat} {i : Int} {l0 l2 : Option D} : ∀ (js : List Int) (st : Sto) (acc : List D), st[k]? = some (.lst false acc) → acc.length + js.length ≤ LINE →
    ∃ st', loopD .no (.nm 2) (ifD dYes (endD (dApp fTup [dVar 1, dVar 2]) k)) [l0, some (.int i), l2] (js.map .int) st = okD .non st' ∧ st'[k]? = some (.lst false (acc ++ (js.map fun j => (i, j)).map ijD)) ∧ GrN k st st'
  | [], st, acc, h, _ => ⟨st, rfl, by simpa using h, .refl st⟩
  | j :: js, st, acc, h, hl => by
    have hl' : acc.length < LINE := by simp at hl; omega
    obtain ⟨st', e, g, s⟩ := pin js (st.set k (.lst false (acc ++ [ijD (i, j)]))) (acc ++ [ijD (i, j)]) (List.getElem?_set_self (lt_of_get h)) (by simp at hl ⊢; omega) (i := i) (l0 := l0) (l2 := l2)
    refine ⟨st', ?_, by rw [g]; simp, GrN.set.trans s⟩
    rw [List.map_cons, loopD_cons rfl rfl]
    have eb : ifD dYes (endD (dApp fTup [dVar 1, dVar 2]) k) [l0, some (.int i), some (.int j)] st = okD .non (st.set k (.lst false (acc ++ [ijD (i, j)]))) := by
      have hs : small 2 = true := rfl
      simp [ifD, dYes, okD, bindO, ifJ, endD, dApp, evA, dVar, bindR, fTup, hs, appD, h, hl']
    have : ([l0, some (.int i), l2] : Ls).set 2 (some (.int j)) = [l0, some (.int i), some (.int j)] := rfl
    rw [this, eb]
    exact e
theorem pout {k : Nat} {n : Int} (n0 : 0 ≤ n) (n1 : n ≤ 6) : ∀ (is : List Int) (st : Sto) (acc : List (Int × Int)), st[k]? = some (.lst false (acc.map ijD)) → acc.length + 6 * is.length ≤ 1000 → (∀ i ∈ is, 0 ≤ i ∧ i < 6) →
    ∃ st', loopD .no (.nm 1) (bodyD dYes (dAppI fRange [(dBin fAdd (dVar 1) (dC (.int 1))), (dVar 0)]) (.nm 2) dYes (dApp fTup [dVar 1, dVar 2]) [2] k) [some (.int n), none, none] (is.map .int) st = okD .non st' ∧ st'[k]? = some (.lst false ((acc ++ is.flatMap fun i => (rgI (i + 1) n).map fun j => (i, j)).map ijD)) ∧ GrN k st st'
  | [], st, acc, h, _, _ => ⟨st, rfl, by simpa using h, .refl st⟩
  | i :: is, st, acc, h, hl, hi => by
    have hi0 := hi i List.mem_cons_self
    have hj : (rgI (i + 1) n).length ≤ 6 := by unfold rgI; rw [List.length_map, List.length_range]; omega
    obtain ⟨st1, e1, g1, s1⟩ := pin (k := k) (i := i) (l0 := some (.int n)) (l2 := none) (rgI (i + 1) n) st (acc.map ijD) h (by simp [LINE] at hl ⊢; omega)
    rw [← List.map_append] at g1
    obtain ⟨st', e, g, s⟩ := pout n0 n1 is st1 (acc ++ (rgI (i + 1) n).map fun j => (i, j)) g1 (by simp at hl ⊢; omega) (fun j hj => hi j (List.mem_cons_of_mem _ hj))
    refine ⟨st', ?_, by rw [g]; simp, s1.trans s⟩
    rw [List.map_cons, loopD_cons rfl rfl]
    have eb : bodyD dYes (dAppI fRange [(dBin fAdd (dVar 1) (dC (.int 1))), (dVar 0)]) (.nm 2) dYes (dApp fTup [dVar 1, dVar 2]) [2] k [some (.int n), some (.int i), none] st = okD .non st1 := by
      have r1 : rangeOk (i + 1) = true := by simp [rangeOk]; omega
      have r2 : rangeOk n = true := by simp [rangeOk]; omega
      rw [← e1, ← rgD_map]
      simp [bodyD, ifD, dYes, okD, bindO, ifJ, inD, dAppI, evA, dBin, dVar, dC, bindR, fAdd, fRange, r1, r2, wipeL]
    have : ([some (.int n), none, none] : Ls).set 1 (some (.int i)) = [some (.int n), some (.int i), none] := rfl
    rw [this, eb]
    exact e
theorem pairs_mem {n i j : Int} : (i, j) ∈ pairs n ↔ 0 ≤ i ∧ i < j ∧ j < n := by
  unfold pairs
  simp only [List.mem_flatMap, List.mem_map, rgI_mem, Prod.mk.injEq]
  constructor
  · rintro ⟨a, ⟨a1, a2⟩, b, ⟨b1, b2⟩, rfl, rfl⟩
    omega
  · rintro ⟨h1, h2, h3⟩
    exact ⟨i, by omega, j, by omega, rfl, rfl⟩
end K35
end
section
set_option maxRecDepth 100000
set_option maxHeartbeats 1000000
namespace K35
open PySem L2 MP
theorem app_eq {i k : Nat} {da : De} {ls : Ls} {st st1 : Sto} {acc0 acc : List D} {y : D} (hv : ls[i]? = some (some (.obj k))) (h0 : st[k]? = some (.lst false acc0)) (ha : da ls st = okD y st1) (h1 : st1[k]? = some (.lst false acc)) (hl : acc.length < LINE) :
    dExpr (dMeth "list" fAppend (dVar i) [da]) ls st = some (.next, ls, st1.set k (.lst false (acc ++ [y]))) := by
  have ty : isTy "list" (.obj k) st = true := by
    simp [isTy, h0]
  have ev : dApp (fAppend (.obj k)) [da] ls st = some (.ok .non, st1.set k (.lst false (acc ++ [y]))) := by
    rw [app1_eq ha]
    simp only [fAppend, h1, if_pos hl]
  unfold dExpr dMeth dVar
  simp only [hv, okD, bindR, ty, if_true, ev, bindS]
abbrev cellT (h : Int) (t : Tri) : MG.C := ((t.1 + h * t.2.2) / (2 * h * t.2.2), (t.2.1 + h * t.2.2) / (2 * h * t.2.2))
abbrev Mk := MG.C × List Int
abbrev mkD (m : Mk) : D := .tup [cD m.1, tupI m.2]
def marks1 (h : Int) (ips : List (Int × P4)) : List Mk := ips.flatMap fun x => [(cellT h (x.2.1.1, x.2.1.2, 1), [x.1, 0]), (cellT h (x.2.2.1, x.2.2.2, 1), [x.1, 1])]
/-! ### the points of two pieces -/
def marks2 (h : Int) (gs : List P4) (ijs : List (Int × Int)) : List Mk := ijs.flatMap fun x => match gs[x.1.toNat]?, gs[x.2.toNat]? with
  | some p, some q => (comP p q).map fun t => (cellT h t, [x.1, x.2, 2])
  | _, _ => []
theorem Good.nc {gs : List P4} (g : Good gs) {i j : Nat} {p q : P4} (hp : gs[i]? = some p) (hq : gs[j]? = some q) (hij : i < j) : noCommon p q = false := by
  rw [geo (g.pv q (List.mem_of_getElem? hq)) (g.pv p (List.mem_of_getElem? hp))]
  have := g.apart j q hq
  rw [List.any_eq_false] at this
  have hm : p ∈ gs.take j := by
    rw [List.mem_iff_getElem?]
    exact ⟨i, by rw [List.getElem?_take_of_lt hij]; exact hp⟩
  simpa using this p hm
def enP (gs : List P4) : List (Int × P4) := (List.range gs.length).map fun (i : Nat) => ((i : Int), gs.getD i ((0, 0), (0, 0)))
theorem enP_D (gs : List P4) : enumL (gs.map pd) = (enP gs).map fun x => .tup [.int x.1, pd x.2] := by
  unfold enumL enP
  rw [List.length_map, List.map_map]
  refine List.map_congr_left fun i hi => ?_
  have hi := List.mem_range.mp hi
  simp [List.getD_eq_getElem?_getD, hi]
theorem enP_mem {gs : List P4} {i : Int} {p : P4} : (i, p) ∈ enP gs ↔ ∃ n : Nat, i = n ∧ gs[n]? = some p := by
  unfold enP
  simp only [List.mem_map, List.mem_range, Prod.mk.injEq]
  constructor
  · rintro ⟨n, hn, rfl, rfl⟩
    exact ⟨n, rfl, by simp [List.getD_eq_getElem?_getD, hn]⟩
  · rintro ⟨n, rfl, h⟩
    exact ⟨n, lt_of_get h, rfl, by simp [List.getD_eq_getElem?_getD, h]⟩
def marksL (h : Int) (gs : List P4) : List Mk := marks1 h (enP gs) ++ marks2 h gs (pairs gs.length)
theorem pairs_len {n : Int} (n1 : n ≤ 6) : (pairs n).length ≤ 36 := by
  unfold pairs
  have hl : (rgI 0 n).length ≤ 6 := by unfold rgI; rw [List.length_map, List.length_range]; omega
  have hi : ∀ i ∈ rgI 0 n, ((rgI (i + 1) n).map fun j => (i, j)).length ≤ 6 := fun i hi => by
    have := rgI_mem.mp hi
    unfold rgI
    rw [List.length_map, List.length_map, List.length_range]
    omega
  have go : ∀ l : List Int, (∀ i ∈ l, ((rgI (i + 1) n).map fun j => (i, j)).length ≤ 6) → (l.flatMap fun i => (rgI (i + 1) n).map fun j => (i, j)).length ≤ 6 * l.length := fun l => by
    induction l with
    | nil => simp
    | cons a l ih =>
      intro h
      have h1 := h a List.mem_cons_self
      have h2 := ih fun i hi => h i (List.mem_cons_of_mem _ hi)
      rw [List.flatMap_cons, List.length_append, List.length_cons]
      omega
  have := go _ hi
  omega
theorem marks1_len (h : Int) : ∀ l : List (Int × P4), (marks1 h l).length = 2 * l.length
  | [] => rfl
  | x :: l => by
    have := marks1_len h l
    unfold marks1 at this ⊢
    rw [List.flatMap_cons, List.length_append, this, List.length_cons, List.length_cons, List.length_cons, List.length_nil]
    omega
end K35
end
section
set_option maxRecDepth 100000
set_option maxHeartbeats 1000000
namespace K35
open PySem L2 MP
/-! ### sorting, of anything -/
section
variable {α : Type} (le : α → α → Bool)
def insA (a : α) : List α → List α
  | [] => [a]
  | b :: r => if le a b then a :: b :: r else b :: insA a r
def isA : List α → List α
  | [] => []
  | a :: l => insA le a (isA l)
theorem insA_perm (a : α) : ∀ l : List α, (insA le a l).Perm (a :: l)
  | [] => .refl _
  | b :: r => by
    unfold insA
    split
    · exact .refl _
    · exact ((insA_perm a r).cons b).trans (.swap ..)
theorem isA_perm : ∀ l : List α, (isA le l).Perm l
  | [] => .refl _
  | a :: l => (insA_perm le a _).trans ((isA_perm l).cons a)
variable {le}
theorem insA_sorted (tr : ∀ a b c, le a b = true → le b c = true → le a c = true) (tt : ∀ a b, (le a b || le b a) = true) (a : α) : ∀ l : List α, l.Pairwise (fun x y => le x y = true) → (insA le a l).Pairwise (fun x y => le x y = true)
  | [], _ => by simp [insA]
  | b :: r, h => by
    obtain ⟨h1, h2⟩ := List.pairwise_cons.mp h
    unfold insA
    split
    · rename_i c
      refine List.pairwise_cons.mpr ⟨fun x hx => ?_, h⟩
      rcases List.mem_cons.mp hx with rfl | hx
      · exact c
      · exact tr _ _ _ c (h1 x hx)
    · rename_i c
      have c' : le b a = true := by
        have := tt a b
        rw [Bool.not_eq_true] at c
        rw [c] at this
        exact this
      refine List.pairwise_cons.mpr ⟨fun x hx => ?_, insA_sorted tr tt a r h2⟩
      rcases List.mem_cons.mp ((insA_perm le a r).mem_iff.mp hx) with rfl | hx
      · exact c'
      · exact h1 x hx
theorem isA_sorted (tr : ∀ a b c, le a b = true → le b c = true → le a c = true) (tt : ∀ a b, (le a b || le b a) = true) : ∀ l : List α, (isA le l).Pairwise (fun x y => le x y = true)
  | [] => .nil
  | a :: l => insA_sorted tr tt a _ (isA_sorted tr tt l)
theorem ins_map {f : α → D} {leD' : D → D → Bool} (a : α) : ∀ l : List α, ins leD' (f a) (l.map f) = (insA (fun x y => leD' (f x) (f y)) a l).map f
  | [] => rfl
  | b :: r => by
    rw [List.map_cons, ins, insA]
    split
    · rfl
    · rw [ins_map a r]
      rfl
theorem isort_map {f : α → D} {leD' : D → D → Bool} : ∀ l : List α, isort leD' (l.map f) = (isA (fun x y => leD' (f x) (f y)) l).map f
  | [] => rfl
  | a :: l => by
    rw [List.map_cons, isort, isort_map l, ins_map]
    rfl
end
abbrev leC (a b : MG.C) : Bool := leD (cD a) (cD b)
/-! ### what can be sorted -/
theorem enc_ints : ∀ r : List Int, encDs (r.map .int) = r.map .int
  | [] => rfl
  | i :: r => by rw [List.map_cons, encDs, enc_ints r]; rfl
theorem alike_ints : ∀ a b : List Int, PySem.W.alikeAll (a.map .int) (b.map .int) = true
  | [], _ => by simp [PySem.W.alikeAll]
  | _ :: _, [] => by simp [PySem.W.alikeAll]
  | i :: a, j :: b => by simp [PySem.W.alikeAll, PySem.W.alike, alike_ints a b]
theorem flat_ints (n : Nat) (r : List Int) : flatD (n + 1) (tupI r) = true := by
  unfold tupI flatD
  rw [List.all_eq_true]
  intro d hd
  obtain ⟨i, _, rfl⟩ := List.mem_map.mp hd
  cases n <;> rfl
theorem canSort_rows {rs : List (List Int)} (h : ∀ r ∈ rs, r ≠ []) : canSort (rs.map tupI) = true := by
  unfold canSort
  rw [Bool.or_eq_true]
  refine .inr ?_
  rw [Bool.and_eq_true]
  constructor
  · rw [List.all_eq_true]
    intro d hd
    obtain ⟨r, _, rfl⟩ := List.mem_map.mp hd
    exact flat_ints 7 r
  · have e : ∀ x ∈ (rs.map tupI).map encD, ∃ r : List Int, r ≠ [] ∧ x = .tuple (r.map .int) := fun x hx => by
      obtain ⟨d, hd, rfl⟩ := List.mem_map.mp hx
      obtain ⟨r, hr, rfl⟩ := List.mem_map.mp hd
      exact ⟨r, h r hr, by simp [tupI, encD, enc_ints]⟩
    unfold sortOk
    rw [Bool.and_eq_true, Bool.or_eq_true]
    refine ⟨.inl (List.all_eq_true.mpr fun x hx => ?_), List.all_eq_true.mpr fun x hx => List.all_eq_true.mpr fun y hy => ?_⟩
    · obtain ⟨r, hr, rfl⟩ := e x hx
      cases r with
      | nil => exact absurd rfl hr
      | cons i r => rfl
    · obtain ⟨r, _, rfl⟩ := e x hx
      obtain ⟨t, _, rfl⟩ := e y hy
      simp [PySem.W.alike, alike_ints]
theorem cD_rows (K : List MG.C) : K.map cD = (K.map fun c => [c.1, c.2]).map tupI := by
  rw [List.map_map]
  rfl
theorem canSort_cells (K : List MG.C) : canSort (K.map cD) = true := by
  rw [cD_rows]
  exact canSort_rows fun r hr => by
    obtain ⟨c, _, rfl⟩ := List.mem_map.mp hr
    simp
/-! ### keys -/
def addK (K : List MG.C) (c : MG.C) : List MG.C := if c ∈ K then K else K ++ [c]
theorem addK_mem {K : List MG.C} {c x : MG.C} : x ∈ addK K c ↔ x ∈ K ∨ x = c := by
  unfold addK
  split
  · rename_i h
    exact ⟨.inl, fun z => z.elim id fun z => z ▸ h⟩
  · simp
theorem addK_len (K : List MG.C) (c : MG.C) : (addK K c).length ≤ K.length + 1 := by
  unfold addK
  split <;> simp
theorem addK_nd {K : List MG.C} {c : MG.C} (h : K.Nodup) : (addK K c).Nodup := by
  unfold addK
  split
  · exact h
  · rename_i hc
    rw [List.nodup_append]
    exact ⟨h, by simp, fun a ha b hb z => hc (by
      simp at hb
      rw [← hb, ← z]
      exact ha)⟩
theorem fold_mem : ∀ {cs K : List MG.C} {x : MG.C}, x ∈ cs.foldl addK K ↔ x ∈ K ∨ x ∈ cs
  | [], K, x => by simp
  | c :: cs, K, x => by
    rw [List.foldl_cons, fold_mem, addK_mem, List.mem_cons]
    exact or_assoc
theorem put_keys {ps : List (D × D)} {K : List MG.C} (h : ps.map (·.1) = K.map cD) (c : MG.C) (v : D) : (putP ps (cD c) v).map (·.1) = (addK K c).map cD := by
  have e := look_cD ps K c h
  unfold putP addK
  by_cases hc : c ∈ K
  · rw [decide_eq_true hc] at e
    rw [if_pos e, if_pos hc, ← h, List.map_map]
    refine List.map_congr_left fun p _ => ?_
    simp only [Function.comp]
    split <;> rfl
  · rw [decide_eq_false hc] at e
    rw [if_neg (by rw [e]; simp), if_neg hc, List.map_append, List.map_append, h]
    rfl
end K35
end
section
set_option maxRecDepth 100000
set_option maxHeartbeats 1000000
namespace K35
open PySem L2 MP
/-- a dict of lists of rows at kD, all made behind B -/
structure RI (B : Sto) (kD : Nat) (K : List MG.C) (b : Nat) (st : Sto) : Prop where
  gr : GrN kD B st
  kl : K.length ≤ b
  ex : ∃ ps, st[kD]? = some (Cell.dct ps) ∧ ps.map (·.1) = K.map cD ∧ ∀ x ∈ ps, ∃ (m : Nat) (L : List (List Int)), x.2 = .obj m ∧ B.length ≤ m ∧ m ≠ kD ∧ st[m]? = some (Cell.lst false (L.map tupI)) ∧ L.length ≤ b ∧ ∀ r ∈ L, r ≠ []
theorem look_in : ∀ {ps : List (D × D)} {k v : D}, lookD ps k = some v → ∃ x ∈ ps, x.2 = v
  | [], k, v, h => by cases h
  | (a, w) :: r, k, v, h => by
    unfold lookD at h
    split at h
    · exact ⟨(a, w), List.mem_cons_self, Option.some.inj h⟩
    · obtain ⟨x, hx, e⟩ := look_in h
      exact ⟨x, List.mem_cons_of_mem _ hx, e⟩
theorem RI.keep {B : Sto} {kD : Nat} {K : List MG.C} {b : Nat} {st st' : Sto} (h : RI B kD K b st) (g : Gr st st') : RI B kD K b st' := by
  obtain ⟨ps, e, k, p⟩ := h.ex
  refine ⟨h.gr.trans (g.n kD), h.kl, ps, g.at e, k, fun x hx => ?_⟩
  obtain ⟨m, L, e1, e2, e3, e4, e5, e6⟩ := p x hx
  exact ⟨m, L, e1, e2, e3, g.at e4, e5, e6⟩
theorem Gr.set_new {B st : Sto} {k : Nat} {c : Cell} (h : Gr B st) (hk : B.length ≤ k) : Gr B (st.set k c) := ⟨by rw [List.length_set]; exact h.len, fun i hi => (List.getElem?_set_ne (by omega)).trans (h.old i hi)⟩
theorem appE {f : List D → Sto → Rt} {das : List De} {ls : Ls} {st st1 : Sto} {ds : List D} (h : evA das ls st = some (.ok ds, st1)) : dApp f das ls st = f ds st1 := by
  unfold dApp
  rw [h]
theorem GrN.set_new {B st : Sto} {k m : Nat} {c : Cell} (h : GrN k B st) (hm : B.length ≤ m) : GrN k B (st.set m c) := ⟨by rw [List.length_set]; exact h.len, fun i hi hk => (List.getElem?_set_ne (by omega)).trans (h.old i hi hk)⟩
def rbody : Ds := (dExpr (dMeth "list" fAppend (dMethD fSetDef (dVar 2) [(dVar 3), (dApp fLst [])]) [(dVar 4)]))
theorem rstep {B : Sto} {kD b : Nat} {K : List MG.C} {st : Sto} {c : MG.C} {r : List Int} {o0 o1 : Option D} (hr : r ≠ []) (hb : b ≤ 1000) (h : RI B kD K b st) :
    ∃ st', rbody [o0, o1, some (.obj kD), some (cD c), some (tupI r)] st = some (.next, [o0, o1, some (.obj kD), some (cD c), some (tupI r)], st') ∧ RI B kD (addK K c) (b + 1) st' := by
  obtain ⟨ps, e, k, p⟩ := h.ex
  have hk := lt_of_get e
  have e1 : (st ++ [Cell.lst false []])[kD]? = some (Cell.dct ps) := by rw [List.getElem?_append_left hk]; exact e
  have hpl : ps.length = K.length := by
    have := congrArg List.length k
    simpa using this
  have hpk : ps.length < LINE := by
    have := h.kl
    simp [LINE]
    omega
  have ev : evA [dVar 3, dApp fLst []] [o0, o1, some (.obj kD), some (cD c), some (tupI r)] st = some (.ok [cD c, .obj st.length], st ++ [Cell.lst false []]) := by
    simp [evA, dVar, okD, bindR, dApp, fLst, small, okL]
  have kl : (addK K c).length ≤ b + 1 := Nat.le_trans (addK_len K c) (by have := h.kl; omega)
  cases hlk : lookD ps (cD c) with
  | some v =>
    obtain ⟨x, hx, hxv⟩ := look_in hlk
    obtain ⟨m, L, x1, x2, x3, x4, x5, x6⟩ := p x hx
    have hv : v = .obj m := hxv.symm.trans x1
    subst hv
    have hm := lt_of_get x4
    have x4' : (st ++ [Cell.lst false []])[m]? = some (Cell.lst false (L.map tupI)) := by rw [List.getElem?_append_left hm]; exact x4
    have hL : (L.map tupI).length < LINE := by simp [LINE]; omega
    have hin : c ∈ K := by
      have := look_cD ps K c k
      rw [hlk] at this
      simpa using this
    refine ⟨(st ++ [Cell.lst false []]).set m (Cell.lst false (L.map tupI ++ [tupI r])), ?_, ?_⟩
    · have e2 : dMethD fSetDef (dVar 2) [(dVar 3), (dApp fLst [])] [o0, o1, some (.obj kD), some (cD c), some (tupI r)] st = okD (.obj m) (st ++ [Cell.lst false []]) := by
        unfold dMethD
        rw [show dVar 2 [o0, o1, some (.obj kD), some (cD c), some (tupI r)] st = okD (.obj kD) st from rfl]
        simp only [okD, bindR, methDK, dctAt, e]
        rw [appE ev]
        simp only [fSetDef, e1, ok_cD, if_true, hlk, okD]
      unfold rbody dExpr dMeth
      rw [e2]
      have ty : isTy "list" (.obj m) (st ++ [Cell.lst false []]) = true := by simp [isTy, x4']
      simp only [okD, bindR, ty, if_true]
      rw [app1_eq (x := tupI r) (st1 := st ++ [Cell.lst false []]) (by simp [dVar, okD])]
      simp only [fAppend, x4', if_pos hL, bindS]
    · have ka : addK K c = K := by unfold addK; rw [if_pos hin]
      refine ⟨(h.gr.trans (Gr.push.n kD)).set_new x2, kl, ps, ?_, by rw [ka]; exact k, fun y hy => ?_⟩
      · rw [List.getElem?_set_ne x3]
        exact e1
      · obtain ⟨m', L', y1, y2, y3, y4, y5, y6⟩ := p y hy
        have y4' : (st ++ [Cell.lst false []])[m']? = some (Cell.lst false (L'.map tupI)) := by rw [List.getElem?_append_left (lt_of_get y4)]; exact y4
        by_cases hmm : m = m'
        · subst hmm
          refine ⟨m, L ++ [r], y1, y2, y3, ?_, by simp; omega, fun z hz => ?_⟩
          · rw [List.getElem?_set_self (by simp; omega)]
            simp
          · rcases List.mem_append.mp hz with hz | hz
            · exact x6 z hz
            · simp at hz
              rw [hz]
              exact hr
        · exact ⟨m', L', y1, y2, y3, by rw [List.getElem?_set_ne hmm]; exact y4', by omega, y6⟩
  | none =>
    have hin : c ∉ K := by
      have := look_cD ps K c k
      rw [hlk] at this
      simpa using this
    have pk := put_keys k c (.obj st.length)
    have pp : putP ps (cD c) (.obj st.length) = ps ++ [(cD c, .obj st.length)] := by
      unfold putP
      rw [hlk]
      rfl
    have e3 : ((st ++ [Cell.lst false []]).set kD (Cell.dct (putP ps (cD c) (.obj st.length))))[st.length]? = some (Cell.lst false []) := by
      rw [List.getElem?_set_ne (by omega)]
      exact get_push
    refine ⟨((st ++ [Cell.lst false []]).set kD (Cell.dct (putP ps (cD c) (.obj st.length)))).set st.length (Cell.lst false ([] ++ [tupI r])), ?_, ?_⟩
    · have e2 : dMethD fSetDef (dVar 2) [(dVar 3), (dApp fLst [])] [o0, o1, some (.obj kD), some (cD c), some (tupI r)] st = okD (.obj st.length) ((st ++ [Cell.lst false []]).set kD (Cell.dct (putP ps (cD c) (.obj st.length)))) := by
        unfold dMethD
        rw [show dVar 2 [o0, o1, some (.obj kD), some (cD c), some (tupI r)] st = okD (.obj kD) st from rfl]
        simp only [okD, bindR, methDK, dctAt, e]
        rw [appE ev]
        simp only [fSetDef, e1, ok_cD, if_true, hlk, if_pos hpk, okD]
      unfold rbody dExpr dMeth
      rw [e2]
      have ty : isTy "list" (.obj st.length) ((st ++ [Cell.lst false []]).set kD (Cell.dct (putP ps (cD c) (.obj st.length)))) = true := by simp only [isTy, e3]; rfl
      simp only [okD, bindR, ty, if_true]
      rw [app1_eq (x := tupI r) (st1 := (st ++ [Cell.lst false []]).set kD (Cell.dct (putP ps (cD c) (.obj st.length)))) (by simp [dVar, okD])]
      have l0 : ([] : List D).length < LINE := by simp [LINE]
      simp only [fAppend, e3, if_pos l0, bindS]
    · have g0 : GrN kD B st := h.gr
      refine ⟨((g0.trans (Gr.push.n kD)).trans .set).set_new g0.len, kl, ps ++ [(cD c, .obj st.length)], ?_, by rw [← pp]; exact pk, fun y hy => ?_⟩
      · rw [List.getElem?_set_ne (by omega), List.getElem?_set_self (by simp; omega), pp]
      · rcases List.mem_append.mp hy with hy | hy
        · obtain ⟨m', L', y1, y2, y3, y4, y5, y6⟩ := p y hy
          have := lt_of_get y4
          refine ⟨m', L', y1, y2, y3, ?_, by omega, y6⟩
          rw [List.getElem?_set_ne (by omega), List.getElem?_set_ne (Ne.symm y3), List.getElem?_append_left this]
          exact y4
        · simp at hy
          subst hy
          refine ⟨st.length, [r], rfl, g0.len, by omega, ?_, by simp, fun z hz => by simp at hz; rw [hz]; exact hr⟩
          rw [List.getElem?_set_self (by simp)]
          rfl
theorem rloop {B : Sto} {kD n : Nat} {full : List D} {o0 o1 : Option D} (hn : B[n]? = some (Cell.lst false full)) (hnk : n ≠ kD) : ∀ (F : List Mk) (K : List MG.C) (b : Nat) (o3 o4 : Option D) (st : Sto), RI B kD K b st → b + F.length ≤ 1000 → (∀ x ∈ F, x.2 ≠ []) →
    ∃ p3 p4 st', forD (.one n full) (.tp [.nm 3, .nm 4]) rbody (F.map mkD) [o0, o1, some (.obj kD), o3, o4] st = some (.next, [o0, o1, some (.obj kD), p3, p4], st') ∧ RI B kD ((F.map (·.1)).foldl addK K) (b + F.length) st'
  | [], K, b, o3, o4, st, h, _, _ => ⟨o3, o4, st, by simp [forD, gdB_of (h.gr.at hn hnk)], h⟩
  | (c, r) :: F, K, b, o3, o4, st, h, hb, hx => by
    obtain ⟨st1, e1, h1⟩ := rstep (c := c) (r := r) (o0 := o0) (o1 := o1) (hx (c, r) List.mem_cons_self) (by simp at hb; omega) h
    obtain ⟨p3, p4, st', e, h'⟩ := rloop hn hnk F (addK K c) (b + 1) (some (cD c)) (some (tupI r)) st1 h1 (by simp at hb; omega) (fun x hy => hx x (List.mem_cons_of_mem _ hy)) (o0 := o0) (o1 := o1)
    refine ⟨p3, p4, st', ?_, ?_⟩
    · rw [List.map_cons, forD, if_pos (gdB_of (h.gr.at hn hnk))]
      simp only [mkD, asg, asgs, List.set_cons_succ, List.set_cons_zero]
      rw [e1]
      exact e
    · have q : b + ((c, r) :: F).length = b + 1 + F.length := by simp; omega
      rw [q]
      exact h'
/-! ### the dict of the tuples -/
theorem kv_loop {B : Sto} {k n : Nat} {full : List D} {o0 o1 o2 o4 : Option D} {dv : De} (hk : B.length ≤ k) (hn : B[n]? = some (Cell.lst false full)) : ∀ (cs K : List MG.C) (st : Sto) (ps : List (D × D)),
    (∀ c ∈ cs, ∀ st, Gr B st → ∃ v st1, dv [o0, o1, o2, some (cD c), o4] st = okD v st1 ∧ Gr st st1) → Gr B st → st[k]? = some (Cell.dct ps) → ps.map (·.1) = K.map cD → K.length + cs.length ≤ 1000 →
    ∃ st' ps', loopD (.one n full) (.nm 3) (ifD dYes (kvD (dVar 3) dv k)) [o0, o1, o2, none, o4] (cs.map cD) st = okD .non st' ∧ st'[k]? = some (Cell.dct ps') ∧ ps'.map (·.1) = (cs.foldl addK K).map cD ∧ Gr B st'
  | [], K, st, ps, _, g, e, hK, _ => ⟨st, ps, by simp [loopD, gdB_of (g.at hn)], e, hK, g⟩
  | c :: cs, K, st, ps, hd, g, e, hK, hl => by
    obtain ⟨v, st1, ev, g1⟩ := hd c List.mem_cons_self st g
    have e1 := g1.at e
    have hpl : ps.length < LINE := by
      have := congrArg List.length hK
      simp at this hl
      simp [LINE]
      omega
    obtain ⟨st', ps', e', a1, a2, a3⟩ := kv_loop hk hn cs (addK K c) (st1.set k (Cell.dct (putP ps (cD c) v))) (putP ps (cD c) v) (fun x hx => hd x (List.mem_cons_of_mem _ hx)) ((g.trans g1).set_new hk) (List.getElem?_set_self (lt_of_get e1)) (put_keys hK c v) (by
      have := addK_len K c
      simp at hl
      omega) (o0 := o0) (o1 := o1) (o2 := o2) (o4 := o4) (dv := dv)
    refine ⟨st', ps', ?_, a1, a2, a3⟩
    rw [List.map_cons, loopD_cons (gdB_of (g.at hn)) rfl]
    have hb : ifD dYes (kvD (dVar 3) dv k) [o0, o1, o2, some (cD c), o4] st = some (.ok .non, st1.set k (Cell.dct (putP ps (cD c) v))) := by
      have hv : dVar 3 [o0, o1, o2, some (cD c), o4] st = some (.ok (cD c), st) := rfl
      simp only [ifD, dYes, okD, bindO, ifJ, kvD]
      rw [hv]
      simp only [bindO, valD]
      rw [ev]
      simp only [okD, bindO, keyPut, e1, ok_cD, if_true, if_pos hpl]
    have : ([o0, o1, o2, none, o4] : Ls).set 3 (some (cD c)) = [o0, o1, o2, some (cD c), o4] := rfl
    rw [this, hb]
    exact e'
theorem half_eq {h : Int} (h0 : 0 < h) (h1 : h ≤ 30) (st : Sto) : gcheck_half [.int h] st = some (.ok .non, st) := by
  have e2 := isn_int h 1 30 st
  have : (decide (1 ≤ h) && decide (h ≤ 30)) = true := by
    simp
    omega
  rw [this] at e2
  simp [gcheck_half, bcheck_half, runD, startL, dIfS, ifK, dNext, dUn, dApp, evA, dVar, dC, okD, bindR, bindS, e2, fTru, truD, fNot]
theorem marksL_ne {h : Int} {gs : List P4} : ∀ x ∈ marksL h gs, x.2 ≠ [] := fun x hx => by
  unfold marksL at hx
  rcases List.mem_append.mp hx with hx | hx
  · unfold marks1 at hx
    obtain ⟨y, _, hy⟩ := List.mem_flatMap.mp hx
    simp at hy
    rcases hy with rfl | rfl <;> simp
  · unfold marks2 at hx
    obtain ⟨y, _, hy⟩ := List.mem_flatMap.mp hx
    split at hy
    · obtain ⟨t, _, rfl⟩ := List.mem_map.mp hy
      simp
    · cases hy
theorem comP_len (p q : P4) (nc : noCommon p q = false) : (comP p q).length ≤ 1 := by
  unfold comP
  simp only
  split
  · split
    · rename_i h1 h2
      unfold noCommon at nc
      have : ¬ 2 ≤ (sortU ((shared p q).map row2)).length := by simpa [h1, h2] using nc
      rw [List.length_map]
      omega
    · simp
  · unfold crossP
    have q : ∀ (b : Bool) (x : Tri), (if b = true then ([] : List Tri) else [x]).length ≤ 1 := fun b x => by cases b <;> simp
    exact q _ _
theorem marks2_len {h : Int} {gs : List P4} (g : Good gs) : ∀ l : List (Int × Int), (∀ x ∈ l, 0 ≤ x.1 ∧ x.1 < x.2 ∧ x.2 < gs.length) → (marks2 h gs l).length ≤ l.length
  | [], _ => by simp [marks2]
  | x :: l, hx => by
    have h0 := hx x List.mem_cons_self
    have ih := marks2_len (h := h) g l fun y hy => hx y (List.mem_cons_of_mem _ hy)
    unfold marks2 at ih ⊢
    rw [List.flatMap_cons, List.length_append, List.length_cons]
    split
    · rename_i p q e1 e2
      have := comP_len p q (g.nc e1 e2 (by omega))
      rw [List.length_map]
      omega
    · rw [List.length_nil]
      omega
theorem marksL_len {h : Int} {gs : List P4} (g : Good gs) : (marksL h gs).length ≤ 100 := by
  have a1 := marks1_len h (enP gs)
  have a2 : (enP gs).length = gs.length := by simp [enP]
  have a3 := marks2_len (h := h) g (pairs gs.length) fun x hx => by
    obtain ⟨i, j⟩ := x
    have := pairs_mem.mp hx
    simp only
    omega
  have a4 := pairs_len (n := (gs.length : Int)) (by have := g.len; omega)
  have := g.len
  unfold marksL
  rw [List.length_append]
  omega
end K35
end
section
set_option maxRecDepth 100000
set_option maxHeartbeats 1000000
namespace K35
open PySem L2 MP
theorem fold_nd0 : ∀ {cs K : List MG.C}, K.Nodup → (cs.foldl addK K).Nodup
  | [], K, h => h
  | c :: cs, K, h => by
    rw [List.foldl_cons]
    exact fold_nd0 (addK_nd h)
theorem fold_self : ∀ {cs K : List MG.C}, (K ++ cs).Nodup → cs.foldl addK K = K ++ cs
  | [], K, h => by simp
  | c :: cs, K, h => by
    have hc : c ∉ K := fun z => by
      have := (List.nodup_append.mp h).2.2 c z c List.mem_cons_self
      exact this rfl
    have e : addK K c = K ++ [c] := by
      unfold addK
      rw [if_neg hc]
    rw [List.foldl_cons, e, fold_self (K := K ++ [c]) (by simpa using h)]
    simp
end K35
end
section
set_option maxRecDepth 100000
set_option maxHeartbeats 1000000
namespace K35
open PySem L2 MP
/-- the hot cells, each as often as something makes it hot -/
def hotL (h : Int) (gs : List P4) : List MG.C := (marksL h gs).map (·.1)
def chP (h : Int) (gs : List P4) (p : P4) : List MG.C := hotP p h (hotL h gs)
theorem hot_congr {p : P4} {h : Int} {K K' : List MG.C} (hk : ∀ c, c ∈ K ↔ c ∈ K') : hotP p h K = hotP p h K' := by
  unfold hotP
  refine List.filter_congr fun c _ => ?_
  rw [decide_eq_decide]
  exact hk c
end K35
end
section
set_option maxRecDepth 100000
set_option maxHeartbeats 1000000
namespace K35
open PySem L2 MP
open MG (Line mom dedA cN bor Way Bef)
theorem axis_bor {a b h N q q' κ : Int} (hab : a ≠ b) (hN : N = absI (b - a) * q) (q0 : 0 < q) (κ0 : 0 < κ) (hk : κ * q = 2 * q') (h0 : 0 < h) {k : Int} (h1 : 0 < bor (2 * a) (2 * (b - a)) (2 * h) q' k) (h2 : bor (2 * a) (2 * (b - a)) (2 * h) q' k < κ * N) :
    ∃ e ∈ bmL a b h N, κ * e = bor (2 * a) (2 * (b - a)) (2 * h) q' k := by
  have p0 : 0 < absI (b - a) := absI_pos (by omega)
  have pd : N / absI (b - a) = q := by rw [hN]; exact Int.mul_ediv_cancel_left _ (by omega)
  have kq : 0 < κ * q := Int.mul_pos κ0 q0
  have hat : (2 * h * k - h + h) % (2 * h) = 0 := by
    have : 2 * h * k - h + h = 2 * h * k := by omega
    rw [this]
    exact Int.mul_emod_right _ _
  have eN : κ * N = absI (b - a) * (κ * q) := by rw [hN]; grind
  rw [eN] at h2
  obtain ⟨at_, hat_⟩ : ∃ at_, at_ = 2 * h * k - h := ⟨_, rfl⟩
  rw [← hat_] at hat
  by_cases c : 0 < 2 * (b - a)
  · have ab : absI (b - a) = b - a := by unfold absI; rw [if_neg (by omega)]
    have e1 : bor (2 * a) (2 * (b - a)) (2 * h) q' k = (at_ - a) * (κ * q) := by
      unfold bor
      rw [if_pos c, hk, hat_]
      grind
    rw [e1] at h1 h2 ⊢
    rw [ab] at h2
    have l1 : 0 < at_ - a := Int.pos_of_mul_pos_left h1 (by omega) |> fun z => z
    have l2 : at_ - a < b - a := Int.lt_of_mul_lt_mul_right h2 (by omega)
    refine ⟨absI (at_ - a) * (N / absI (b - a)), ?_, ?_⟩
    · unfold bmL
      rw [if_neg hab]
      refine List.mem_map_of_mem (List.mem_filter.mpr ⟨rgI_mem.mpr ?_, decide_eq_true hat⟩)
      unfold lo hi
      rw [if_neg (by omega), if_pos (by omega)]
      omega
    · rw [pd]
      unfold absI
      rw [if_neg (by omega)]
      grind
  · have ab : absI (b - a) = a - b := by unfold absI; rw [if_pos (by omega)]; omega
    have e1 : bor (2 * a) (2 * (b - a)) (2 * h) q' k = (a - at_) * (κ * q) := by
      unfold bor
      rw [if_neg c, hk, hat_]
      grind
    rw [e1] at h1 h2 ⊢
    rw [ab] at h2
    have l1 : 0 < a - at_ := Int.pos_of_mul_pos_left h1 (by omega) |> fun z => z
    have l2 : a - at_ < a - b := Int.lt_of_mul_lt_mul_right h2 (by omega)
    refine ⟨absI (at_ - a) * (N / absI (b - a)), ?_, ?_⟩
    · unfold bmL
      rw [if_neg hab]
      refine List.mem_map_of_mem (List.mem_filter.mpr ⟨rgI_mem.mpr ?_, decide_eq_true hat⟩)
      unfold lo hi
      rw [if_pos (by omega), if_neg (by omega)]
      omega
    · rw [pd]
      unfold absI
      rw [if_pos (by omega)]
      grind
theorem axis_in {a b h N q e : Int} (hab : a ≠ b) (hN : N = absI (b - a) * q) (he : e ∈ bmL a b h N) : ∃ t, 0 ≤ t ∧ t ≤ absI (b - a) ∧ e = t * q := by
  have p0 : 0 < absI (b - a) := absI_pos (by omega)
  have pd : N / absI (b - a) = q := by rw [hN]; exact Int.mul_ediv_cancel_left _ (by omega)
  unfold bmL at he
  rw [if_neg hab] at he
  obtain ⟨at_, hm, rfl⟩ := List.mem_map.mp he
  obtain ⟨hm, _⟩ := List.mem_filter.mp hm
  obtain ⟨r1, r2⟩ := rgI_mem.mp hm
  refine ⟨absI (at_ - a), absI_nn _, ?_, by rw [pd]⟩
  unfold lo at r1
  unfold hi at r2
  unfold absI
  split at r1 <;> split at r2 <;> split <;> split <;> omega
theorem mom_scale (κ : Int) : ∀ {l : List Int}, (∀ e ∈ l, e % 2 = 0) → (mom l).map (κ * ·) = mom (l.map (κ * ·))
  | [], _ => rfl
  | [a], _ => rfl
  | a :: b :: r, h => by
    have e1 := h a (by simp)
    have e2 := h b (by simp)
    have ih := mom_scale κ (l := b :: r) fun e he => h e (List.mem_cons_of_mem _ he)
    rw [MG.mom_cons2, List.map_cons, List.map_cons, ih]
    simp only [List.map_cons]
    rw [MG.mom_cons2]
    have : κ * ((a + b) / 2) = (κ * a + κ * b) / 2 := by
      obtain ⟨u, rfl⟩ : ∃ u, a = 2 * u := ⟨a / 2, by omega⟩
      obtain ⟨v, rfl⟩ : ∃ v, b = 2 * v := ⟨b / 2, by omega⟩
      rw [← Int.mul_add, Int.mul_ediv_cancel_left _ (by omega)]
      have : κ * (2 * u) + κ * (2 * v) = 2 * (κ * (u + v)) := by grind
      rw [this, Int.mul_ediv_cancel_left _ (by omega)]
    rw [this]
theorem mom_top : ∀ {l : List Int} {a : Int}, (a :: l).Pairwise (· < ·) → ∀ e ∈ mom (a :: l), ∃ z ∈ l, e ≤ z
  | [], a, _, e, h => by simp [mom] at h
  | b :: l, a, hs, e, h => by
    obtain ⟨s1, s2⟩ := List.pairwise_cons.mp hs
    have := s1 b List.mem_cons_self
    rw [MG.mom_cons2] at h
    rcases List.mem_cons.mp h with rfl | h
    · exact ⟨b, List.mem_cons_self, by omega⟩
    · rcases List.mem_cons.mp h with rfl | h
      · exact ⟨e, List.mem_cons_self, Int.le_refl _⟩
      · obtain ⟨z, hz, hl⟩ := mom_top s2 e h
        exact ⟨z, List.mem_cons_of_mem _ hz, hl⟩
abbrev hx (p : P4) : Int := hi 1 (absI (p.2.1 - p.1.1))
abbrev hy (p : P4) : Int := hi 1 (absI (p.2.2 - p.1.2))
abbrev Hx (p : P4) : Int := hi 1 (absI (2 * (p.2.1 - p.1.1)))
abbrev Hy (p : P4) : Int := hi 1 (absI (2 * (p.2.2 - p.1.2)))
/-- the law's parts -/
def Bp (p : P4) : Int := 2 * Hx p * Hy p
theorem hi_pos (a : Int) : 1 ≤ hi 1 a := by unfold hi; split <;> omega
theorem hi_abs {a : Int} (h : a ≠ 0) : hi 1 (absI a) = absI a := by
  have := absI_pos h
  unfold hi
  split <;> omega
theorem abs_2 (a : Int) : absI (2 * a) = 2 * absI a := by unfold absI; split <;> split <;> omega
/-- the law's line -/
def lin (p : P4) (h : Int) (h0 : 0 < h) : Line where
  x := 2 * p.1.1
  y := 2 * p.1.2
  dx := 2 * (p.2.1 - p.1.1)
  dy := 2 * (p.2.2 - p.1.2)
  h := 2 * h
  B := Bp p
  qx := 2 * Hy p
  qy := 2 * Hx p
  hh := by omega
  hB := by
    unfold Bp
    have a := hi_pos (absI (2 * (p.2.1 - p.1.1)))
    have b := hi_pos (absI (2 * (p.2.2 - p.1.2)))
    exact Int.mul_pos (by unfold Hx; omega) (by unfold Hy; omega)
  wx := by
    constructor <;> intro c <;> unfold Bp Hx
    · rw [hi_abs (by omega), show absI (2 * (p.2.1 - p.1.1)) = 2 * (p.2.1 - p.1.1) by unfold absI; rw [if_neg (by omega)]]
      grind
    · rw [hi_abs (by omega), show absI (2 * (p.2.1 - p.1.1)) = -(2 * (p.2.1 - p.1.1)) by unfold absI; rw [if_pos (by omega)]]
      grind
  wy := by
    constructor <;> intro c <;> unfold Bp Hy
    · rw [hi_abs (by omega), show absI (2 * (p.2.2 - p.1.2)) = 2 * (p.2.2 - p.1.2) by unfold absI; rw [if_neg (by omega)]]
      grind
    · rw [hi_abs (by omega), show absI (2 * (p.2.2 - p.1.2)) = -(2 * (p.2.2 - p.1.2)) by unfold absI; rw [if_pos (by omega)]]
      grind
theorem scales (p : P4) : ∃ κ, 0 < κ ∧ Bp p = κ * Np p ∧ (p.1.1 ≠ p.2.1 → Np p = absI (p.2.1 - p.1.1) * (2 * hy p) ∧ κ * (2 * hy p) = 2 * (2 * Hy p)) ∧ (p.1.2 ≠ p.2.2 → Np p = absI (p.2.2 - p.1.2) * (2 * hx p) ∧ κ * (2 * hx p) = 2 * (2 * Hx p)) := by
  have k : ∀ a : Int, ∃ u, 0 < u ∧ hi 1 (absI (2 * a)) = u * hi 1 (absI a) ∧ (a ≠ 0 → u = 2) := fun a => by
    by_cases h : a = 0
    · subst h
      exact ⟨1, by omega, by simp [absI, hi], fun z => absurd rfl z⟩
    · refine ⟨2, by omega, ?_, fun _ => rfl⟩
      rw [hi_abs (by omega), hi_abs h, abs_2]
  obtain ⟨u, u0, hu, uu⟩ := k (p.2.1 - p.1.1)
  obtain ⟨v, v0, hv, vv⟩ := k (p.2.2 - p.1.2)
  refine ⟨u * v, Int.mul_pos u0 v0, ?_, fun hn => ⟨?_, ?_⟩, fun hn => ⟨?_, ?_⟩⟩
  · unfold Bp Hx Hy Np
    rw [hu, hv]
    grind
  · unfold Np hy
    rw [hi_abs (by omega)]
    grind
  · unfold Hy hy
    rw [hv, uu (by omega)]
    grind
  · unfold Np hx
    rw [hi_abs (a := p.2.2 - p.1.2) (by omega)]
    grind
  · unfold Hx hx
    rw [hu, vv (by omega)]
    grind
theorem cell_scale {x dx h N κ m : Int} (κ0 : 0 < κ) : cN (2 * x) (2 * dx) (2 * h) (κ * N) (κ * m) = cN x dx h N m := by
  unfold cN
  have e1 : 2 * x * (κ * N) + 2 * dx * (κ * m) + 2 * h * (κ * N) = 2 * κ * (x * N + dx * m + h * N) := by grind
  have e2 : 2 * (2 * h) * (κ * N) = 2 * κ * (2 * h * N) := by grind
  rw [e1, e2, Int.mul_ediv_mul_of_pos _ _ (by omega)]
theorem stops_spec {p : P4} {h : Int} (v : Pv p) : ∃ s, stopsP p h = 0 :: s ∧ (0 :: s).Pairwise (· < ·) ∧ (∀ e ∈ 0 :: s, e % 2 = 0 ∧ 0 ≤ e ∧ e ≤ Np p) ∧ Np p ∈ s ∧ (∀ e, e ∈ bmL p.1.1 p.2.1 h (Np p) ∨ e ∈ bmL p.1.2 p.2.2 h (Np p) → 0 < e → e ∈ s) := by
  obtain ⟨κ, κ0, hB, hX, hY⟩ := scales p
  have hN := Np_bd v
  have hm : ∀ e, e ∈ stopsP p h ↔ e = 0 ∨ e = Np p ∨ e ∈ bmL p.1.1 p.2.1 h (Np p) ∨ e ∈ bmL p.1.2 p.2.2 h (Np p) := fun e => by
    unfold stopsP
    rw [sortI_mem]
    simp [or_assoc]
  have ax : ∀ {a b N q e : Int}, (a ≠ b → N = absI (b - a) * (2 * q)) → 0 < q → e ∈ bmL a b h N → e % 2 = 0 ∧ 0 ≤ e ∧ e ≤ N := fun {a b N q e} hN q0 he => by
    by_cases hab : a = b
    · unfold bmL at he
      rw [if_pos hab] at he
      cases he
    · obtain ⟨t, t0, t1, rfl⟩ := axis_in hab (hN hab) he
      refine ⟨?_, Int.mul_nonneg t0 (by omega), ?_⟩
      · have : t * (2 * q) = 2 * (t * q) := by grind
        omega
      · rw [hN hab]
        exact Int.mul_le_mul_of_nonneg_right t1 (by omega)
  have pr : ∀ e ∈ stopsP p h, e % 2 = 0 ∧ 0 ≤ e ∧ e ≤ Np p := fun e he => by
    rcases (hm e).mp he with rfl | rfl | he | he
    · omega
    · refine ⟨?_, by omega, by omega⟩
      unfold Np
      have : 2 * hi 1 (absI (p.2.1 - p.1.1)) * hi 1 (absI (p.2.2 - p.1.2)) = 2 * (hi 1 (absI (p.2.1 - p.1.1)) * hi 1 (absI (p.2.2 - p.1.2))) := Int.mul_assoc ..
      omega
    · exact ax (fun hab => (hX hab).1) (by have := hi_pos (absI (p.2.2 - p.1.2)); unfold hy; omega) he
    · exact ax (fun hab => (hY hab).1) (by have := hi_pos (absI (p.2.1 - p.1.1)); unfold hx; omega) he
  have hs : (stopsP p h).Pairwise (· < ·) := by unfold stopsP; exact sortI_sorted _
  have z0 := (hm 0).mpr (.inl rfl)
  cases hS : stopsP p h with
  | nil => rw [hS] at z0; cases z0
  | cons a s =>
    rw [hS] at z0 hs pr
    have a0 : a = 0 := by
      rcases List.mem_cons.mp z0 with q | q
      · exact q.symm
      · have := (List.pairwise_cons.mp hs).1 0 q
        have := (pr a List.mem_cons_self).2.1
        omega
    subst a0
    have up : ∀ e, e ∈ stopsP p h → 0 < e → e ∈ s := fun e he e0 => by
      rw [hS] at he
      rcases List.mem_cons.mp he with rfl | q
      · omega
      · exact q
    exact ⟨s, rfl, hs, pr, up _ ((hm _).mpr (.inr (.inl rfl))) (by omega), fun e he e0 => up e ((hm e).mpr (.inr (.inr he))) e0⟩
/-- the program's cells: all cells of the line, in its order -/
theorem cells_spec {p : P4} {h : Int} (v : Pv p) (h0 : 0 < h) : (cellsP p h).Pairwise (Bef (lin p h h0)) ∧ ∀ c, c ∈ cellsP p h ↔ ∃ q, 0 ≤ q ∧ q ≤ Bp p ∧ (lin p h h0).cell q = c := by
  obtain ⟨κ, κ0, hB, hX, hY⟩ := scales p
  obtain ⟨s, hS, hs, hpr, hNs, hbs⟩ := stops_spec (h := h) v
  have hN := Np_bd v
  obtain ⟨s', hs'⟩ : ∃ s', s' = s.map (κ * ·) := ⟨_, rfl⟩
  have hss : (0 :: s).map (κ * ·) = 0 :: s' := by rw [hs', List.map_cons, Int.mul_zero]
  have sort' : (0 :: s').Pairwise (· < ·) := by
    rw [← hss, List.pairwise_map]
    exact hs.imp fun {x y} hxy => Int.mul_lt_mul_of_pos_left hxy κ0
  have even' : ∀ e ∈ 0 :: s', e % 2 = 0 := fun e he => by
    rw [← hss] at he
    obtain ⟨x, hx, rfl⟩ := List.mem_map.mp he
    have := (hpr x hx).1
    obtain ⟨u, rfl⟩ : ∃ u, x = 2 * u := ⟨x / 2, by omega⟩
    have : κ * (2 * u) = 2 * (κ * u) := by grind
    simp only [this]
    omega
  have bd' : ∀ e ∈ 0 :: s', 0 ≤ e ∧ e ≤ Bp p := fun e he => by
    rw [← hss] at he
    obtain ⟨x, hx, rfl⟩ := List.mem_map.mp he
    obtain ⟨_, a, b⟩ := hpr x hx
    rw [hB]
    exact ⟨Int.mul_nonneg (by omega) a, Int.mul_le_mul_of_nonneg_left b (by omega)⟩
  have Bs' : Bp p ∈ s' := by rw [hs', hB]; exact List.mem_map_of_mem hNs
  obtain ⟨ms1, ms2⟩ := MG.mom_sorted sort' even'
  have msort : (0 :: mom (0 :: s')).Pairwise (· < ·) := List.pairwise_cons.mpr ⟨ms2, ms1⟩
  have hcells : cellsP p h = dedA [] ((0 :: mom (0 :: s')).map (lin p h h0).cell) := by
    unfold cellsP
    rw [hS]
    congr 1
    have e1 : (0 :: mom (0 :: s')) = (0 :: mom (0 :: s)).map (κ * ·) := by
      rw [List.map_cons, Int.mul_zero, mom_scale κ (fun e he => (hpr e he).1), hss]
    rw [e1, List.map_map]
    refine List.map_congr_left fun m _ => ?_
    show cellAt _ _ _ _ _ _ m = (lin p h h0).cell (κ * m)
    unfold Line.cell lin
    simp only
    rw [hB, cell_scale κ0, cell_scale κ0]
  rw [hcells]
  obtain ⟨d1, d2⟩ := MG.ded_all (lin p h h0) msort
  refine ⟨d1, fun c => (d2 c).trans ⟨fun ⟨z, hz, e⟩ => ?_, fun ⟨q, q0, q1, e⟩ => ?_⟩⟩
  · refine ⟨z, ?_, ?_, e⟩
    · rcases List.mem_cons.mp hz with rfl | hz
      · omega
      · have := ms2 z hz
        omega
    · rcases List.mem_cons.mp hz with rfl | hz
      · exact (bd' 0 List.mem_cons_self).2
      · obtain ⟨y, hy, hle⟩ := mom_top sort' z hz
        have := (bd' y (List.mem_cons_of_mem _ hy)).2
        omega
  · have cv := (lin p h h0).cover (p := q) sort' even' Bs' q0 q1
      (fun k hd _ b0 b1 => by
        have hab : p.1.1 ≠ p.2.1 := fun z => hd (by show 2 * (p.2.1 - p.1.1) = 0; omega)
        have b0' : 0 < bor (2 * p.1.1) (2 * (p.2.1 - p.1.1)) (2 * h) (2 * Hy p) k := b0
        have b1' : bor (2 * p.1.1) (2 * (p.2.1 - p.1.1)) (2 * h) (2 * Hy p) k < κ * Np p := by rw [← hB]; exact b1
        obtain ⟨e, he, hk⟩ := axis_bor hab (hX hab).1 (by have := hi_pos (absI (p.2.2 - p.1.2)); unfold hy; omega) κ0 (hX hab).2 h0 b0' b1'
        have e0 : 0 < e := Int.pos_of_mul_pos_right (hk ▸ b0') (by omega) |> fun z => z
        show bor (2 * p.1.1) (2 * (p.2.1 - p.1.1)) (2 * h) (2 * Hy p) k ∈ s'
        rw [← hk, hs']
        exact List.mem_map_of_mem (hbs e (.inl he) e0))
      (fun k hd _ b0 b1 => by
        have hab : p.1.2 ≠ p.2.2 := fun z => hd (by show 2 * (p.2.2 - p.1.2) = 0; omega)
        have b0' : 0 < bor (2 * p.1.2) (2 * (p.2.2 - p.1.2)) (2 * h) (2 * Hx p) k := b0
        have b1' : bor (2 * p.1.2) (2 * (p.2.2 - p.1.2)) (2 * h) (2 * Hx p) k < κ * Np p := by rw [← hB]; exact b1
        obtain ⟨e, he, hk⟩ := axis_bor hab (hY hab).1 (by have := hi_pos (absI (p.2.1 - p.1.1)); unfold hx; omega) κ0 (hY hab).2 h0 b0' b1'
        have e0 : 0 < e := Int.pos_of_mul_pos_right (hk ▸ b0') (by omega) |> fun z => z
        show bor (2 * p.1.2) (2 * (p.2.2 - p.1.2)) (2 * h) (2 * Hx p) k ∈ s'
        rw [← hk, hs']
        exact List.mem_map_of_mem (hbs e (.inr he) e0))
    obtain ⟨z, hz, ez⟩ := cv
    exact ⟨z, hz, ez.trans e⟩
end K35
end
section
set_option maxRecDepth 100000
set_option maxHeartbeats 1000000
namespace K35
open PySem L2 MP
open MG (Line mom dedA cN bor Way Bef)
/-! ### the places of a cell -/
def iv (mv bg B e : Int) : Int := (e - bg) * (B / absI mv) * (if 0 < mv then 1 else -1)
def ib : Ds := (dIfS (dBin fNe (dVar 7) (dC (.int 0))) (dExpr (dMeth "list" fAppend (dVar 6) [(dBin fMul (dBin fMul (dBin fSub (dVar 10) (dVar 8)) (dBin fDiv (dVar 5) (dApp fAbs [(dVar 7)]))) (dIf (dBin fGt (dVar 7) (dC (.int 0))) (dC (.int 1)) (dUn fNeg (dC (.int 1)))))])) dNext)
theorem ib_eq {k : Nat} {P C h a b o11 o12 : Option D} {B mv bg ce e : Int} {st : Sto} {acc : List Int} (hB : 0 ≤ B) (hB1 : B ≤ 100000) (hm : -200 ≤ mv ∧ mv ≤ 200) (hk : st[k]? = some (Cell.lst false (acc.map .int))) (hl : acc.length < 1000) :
    ib [P, C, h, a, b, some (.int B), some (.obj k), some (.int mv), some (.int bg), ce |> (fun x => some (.int x)), some (.int e), o11, o12] st =
      some (.next, [P, C, h, a, b, some (.int B), some (.obj k), some (.int mv), some (.int bg), some (.int ce), some (.int e), o11, o12], if mv ≠ 0 then st.set k (Cell.lst false ((acc ++ [iv mv bg B e]).map .int)) else st) := by
  by_cases hz : mv = 0
  · subst hz
    have : ((0 : Int) == 0) = true := rfl
    simp [ib, dIfS, ifK, dBin, dVar, dC, okD, bindR, bindS, fNe, eqD1, dNext]
  · have hz' : (mv == 0) = false := beq_eq_false_iff_ne.mpr hz
    rw [if_pos hz]
    have pa := absI_pos hz
    have pb := absI_le (i := mv) (k := 200) (by omega) (by omega)
    have c1 : 0 < absI mv ∧ absI mv < 1073741824 := ⟨pa, by omega⟩
    have q1 : 0 ≤ B / absI mv := Int.ediv_nonneg hB (by omega)
    have q2 : B / absI mv ≤ B := Int.ediv_le_self _ hB
    have m1 : ∀ i, mulOk i (B / absI mv) = true := fun i => mulOk_small' (by omega) (by omega)
    have m2 : ∀ i, mulOk i 1 = true := fun i => mulOk_small' (by omega) (by omega)
    have m3 : ∀ i, mulOk i (-1) = true := fun i => mulOk_small' (by omega) (by omega)
    have l1 : (acc.map D.int).length < LINE := by simp [LINE]; omega
    have a1 := app_eq (i := 6) (k := k) (ls := [P, C, h, a, b, some (.int B), some (.obj k), some (.int mv), some (.int bg), some (.int ce), some (.int e), o11, o12]) (st := st) (st1 := st) (da := (dBin fMul (dBin fMul (dBin fSub (dVar 10) (dVar 8)) (dBin fDiv (dVar 5) (dApp fAbs [(dVar 7)]))) (dIf (dBin fGt (dVar 7) (dC (.int 0))) (dC (.int 1)) (dUn fNeg (dC (.int 1)))))) (y := .int (iv mv bg B e)) rfl hk (by
      unfold iv
      unfold absI at c1 m1 ⊢
      by_cases hp : 0 < mv
      · simp [dBin, dUn, dApp, evA, dVar, dC, okD, bindR, fSub, fAbs, fDiv, c1, fMul, m1, m2, dIf, fIf, fGt, hp]
      · simp [dBin, dUn, dApp, evA, dVar, dC, okD, bindR, fSub, fAbs, fDiv, c1, fMul, m1, m3, dIf, fIf, fGt, hp, fNeg]) hk l1
    have e1 : acc.map D.int ++ [D.int (iv mv bg B e)] = (acc ++ [iv mv bg B e]).map .int := by simp
    rw [e1] at a1
    refine (dIf_true (st1 := st) (by simp [dBin, dVar, dC, okD, bindR, fNe, eqD1, hz'])).trans a1
def ivs (mv bg B ce h : Int) : List Int := if mv ≠ 0 then [iv mv bg B (2 * ce * h - h), iv mv bg B (2 * ce * h + h)] else []
def ob : Ds := (dFor (dSeq (dApp fTup [(dBin fSub (dBin fMul (dBin fMul (dC (.int 2)) (dVar 9)) (dVar 2)) (dVar 2)), (dBin fAdd (dBin fMul (dBin fMul (dC (.int 2)) (dVar 9)) (dVar 2)) (dVar 2))])) (.nm 10) ib)
theorem ob_eq {k : Nat} {P C a b o10 o11 o12 : Option D} {B mv bg ce h : Int} {st : Sto} {acc : List Int} (hB : 0 ≤ B) (hB1 : B ≤ 100000) (hm : -200 ≤ mv ∧ mv ≤ 200) (h0 : 0 < h) (h1 : h ≤ 60) (hk : st[k]? = some (Cell.lst false (acc.map .int))) (hl : acc.length < 900) :
    ∃ p10 st', ob [P, C, some (.int h), a, b, some (.int B), some (.obj k), some (.int mv), some (.int bg), some (.int ce), o10, o11, o12] st =
      some (.next, [P, C, some (.int h), a, b, some (.int B), some (.obj k), some (.int mv), some (.int bg), some (.int ce), p10, o11, o12], st') ∧ st'[k]? = some (Cell.lst false ((acc ++ ivs mv bg B ce h).map .int)) ∧ GrN k st st' := by
  have m1 : mulOk 2 ce = true := mulOk_small (by omega) (by omega)
  have m2 : mulOk (2 * ce) h = true := mulOk_small' (by omega) (by omega)
  have hs : dSeq (dApp fTup [(dBin fSub (dBin fMul (dBin fMul (dC (.int 2)) (dVar 9)) (dVar 2)) (dVar 2)), (dBin fAdd (dBin fMul (dBin fMul (dC (.int 2)) (dVar 9)) (dVar 2)) (dVar 2))]) [P, C, some (.int h), a, b, some (.int B), some (.obj k), some (.int mv), some (.int bg), some (.int ce), o10, o11, o12] st = some (.it [.int (2 * ce * h - h), .int (2 * ce * h + h)] .no, st) := by
    simp [dSeq, dApp, evA, dBin, dVar, dC, okD, bindR, bindI, fMul, m1, m2, fSub, fAdd, fTup, small, LINE, fSeq]
  have s1 := ib_eq (k := k) (P := P) (C := C) (h := some (.int h)) (a := a) (b := b) (o11 := o11) (o12 := o12) (B := B) (mv := mv) (bg := bg) (ce := ce) (e := 2 * ce * h - h) hB hB1 hm hk (by omega)
  by_cases hz : mv = 0
  · have hn : ¬ (mv ≠ 0) := fun z => z hz
    rw [if_neg hn] at s1
    have s2 := ib_eq (k := k) (P := P) (C := C) (h := some (.int h)) (a := a) (b := b) (o11 := o11) (o12 := o12) (B := B) (mv := mv) (bg := bg) (ce := ce) (e := 2 * ce * h + h) hB hB1 hm hk (by omega)
    rw [if_neg hn] at s2
    refine ⟨some (.int (2 * ce * h + h)), st, ?_, by unfold ivs; rw [if_neg hn]; simpa using hk, .refl st⟩
    unfold ob dFor
    rw [hs]
    simp only [forD, gdB, if_true, asg, List.set_cons_succ, List.set_cons_zero]
    rw [s1]
    simp only [List.set_cons_succ, List.set_cons_zero]
    rw [s2]
  · rw [if_pos hz] at s1
    have hk1 : (st.set k (Cell.lst false ((acc ++ [iv mv bg B (2 * ce * h - h)]).map .int)))[k]? = some (Cell.lst false ((acc ++ [iv mv bg B (2 * ce * h - h)]).map .int)) := List.getElem?_set_self (lt_of_get hk)
    have s2 := ib_eq (k := k) (P := P) (C := C) (h := some (.int h)) (a := a) (b := b) (o11 := o11) (o12 := o12) (B := B) (mv := mv) (bg := bg) (ce := ce) (e := 2 * ce * h + h) hB hB1 hm hk1 (by simp; omega)
    rw [if_pos hz, List.set_set] at s2
    refine ⟨some (.int (2 * ce * h + h)), st.set k (Cell.lst false ((acc ++ [iv mv bg B (2 * ce * h - h)] ++ [iv mv bg B (2 * ce * h + h)]).map .int)), ?_, ?_, .set⟩
    · unfold ob dFor
      rw [hs]
      simp only [forD, gdB, if_true, asg, List.set_cons_succ, List.set_cons_zero]
      rw [s1]
      simp only [List.set_cons_succ, List.set_cons_zero]
      rw [s2]
    · rw [List.getElem?_set_self (lt_of_get hk)]
      unfold ivs
      rw [if_pos hz, List.append_assoc]
      rfl
end K35
end
section
set_option maxRecDepth 100000
set_option maxHeartbeats 1000000
namespace K35
open PySem L2 MP
open MG (Line mom dedA cN bor Way Bef)
/-- the stops that the law takes for a cell -/
def lawA (p : P4) (h : Int) (c : MG.C) : List Int := [0, Bp p] ++ ivs (2 * (p.2.1 - p.1.1)) (2 * p.1.1) (Bp p) c.1 (2 * h) ++ ivs (2 * (p.2.2 - p.1.2)) (2 * p.1.2) (Bp p) c.2 (2 * h)
def lawS (p : P4) (h : Int) (c : MG.C) : List Int := sortI ((lawA p h c).filter fun e => decide (0 ≤ e) && decide (e ≤ Bp p))
def midsL (S : List Int) : List Int := (List.range (S.length - 1)).map fun i => (S.getD i 0 + S.getD (i + 1) 0) / 2
abbrev leI (a b : Int) : Bool := leD (.int a) (.int b)
def lawZ (p : P4) (h : Int) (c : MG.C) : List Int := isA leI (lawS p h c ++ midsL (lawS p h c))
theorem Bp_bd {p : P4} (v : Pv p) : 2 ≤ Bp p ∧ Bp p ≤ 28800 := by
  unfold Bp Hx Hy
  have b1 := absI_le (i := 2 * (p.2.1 - p.1.1)) (k := 120) (by have := v.x1; have := v.z0; omega) (by have := v.x0; have := v.z1; omega)
  have b2 := absI_le (i := 2 * (p.2.2 - p.1.2)) (k := 120) (by have := v.y1; have := v.w0; omega) (by have := v.y0; have := v.w1; omega)
  have c1 : 1 ≤ hi 1 (absI (2 * (p.2.1 - p.1.1))) ∧ hi 1 (absI (2 * (p.2.1 - p.1.1))) ≤ 120 := by unfold hi; split <;> omega
  have c2 : 1 ≤ hi 1 (absI (2 * (p.2.2 - p.1.2))) ∧ hi 1 (absI (2 * (p.2.2 - p.1.2))) ≤ 120 := by unfold hi; split <;> omega
  generalize hi 1 (absI (2 * (p.2.1 - p.1.1))) = u at c1 ⊢
  generalize hi 1 (absI (2 * (p.2.2 - p.1.2))) = w at c2 ⊢
  have m1 := Int.mul_le_mul (a := u) (b := w) (c := 120) (d := 120) c1.2 c2.2 (by omega) (by omega)
  have m2 := Int.mul_le_mul (a := 1) (b := 1) (c := u) (d := w) c1.1 c2.1 (by omega) (by omega)
  have e : 2 * u * w = 2 * (u * w) := Int.mul_assoc ..
  omega
theorem ivs_len (mv bg B ce h : Int) : (ivs mv bg B ce h).length ≤ 2 := by
  unfold ivs
  split <;> simp
theorem lawA_len (p : P4) (h : Int) (c : MG.C) : (lawA p h c).length ≤ 6 := by
  unfold lawA
  have := ivs_len (2 * (p.2.1 - p.1.1)) (2 * p.1.1) (Bp p) c.1 (2 * h)
  have := ivs_len (2 * (p.2.2 - p.1.2)) (2 * p.1.2) (Bp p) c.2 (2 * h)
  simp
  omega
theorem lawS_len (p : P4) (h : Int) (c : MG.C) : (lawS p h c).length ≤ 6 := by
  unfold lawS
  exact Nat.le_trans (sortI_len _) (Nat.le_trans (List.length_filter_le _ _) (lawA_len p h c))
theorem rgD_range (n : Nat) : rgD 0 n = (List.range n).map fun (i : Nat) => D.int (i : Int) := by
  unfold rgD
  refine List.map_congr_left fun i _ => ?_
  rw [Int.zero_add]
theorem ixl_eq {st : Sto} {k : Nat} {S : List Int} {i : Nat} {j : Int} (hk : st[k]? = some (Cell.lst false (S.map .int))) (hi : i < S.length) (hj : j = i) : fIx (.obj k) (.int j) st = okD (.int (S.getD i 0)) st := by
  have e : L2.atI (S.map D.int) j = some (.int (S.getD i 0)) := by
    unfold L2.atI L2.ixN
    rw [hj, List.length_map]
    have a : ¬ ((i : Int) < 0) := by omega
    simp [a, hi, List.getD_eq_getElem?_getD]
  unfold fIx
  simp only [hk, e]
end K35
end
section
set_option maxRecDepth 100000
set_option maxHeartbeats 1000000
namespace K35
open PySem L2 MP
open MG (Line mom dedA cN bor Way Bef)
/-- the cell at a place of the law -/
def lawC (p : P4) (h q : Int) : MG.C := cellT (2 * h) (2 * p.1.1 * Bp p + 2 * (p.2.1 - p.1.1) * q, 2 * p.1.2 * Bp p + 2 * (p.2.2 - p.1.2) * q, Bp p)
theorem lawC_lin (p : P4) (h q : Int) (h0 : 0 < h) : lawC p h q = (lin p h h0).cell q := rfl
def firstQ (p : P4) (h : Int) (c : MG.C) : Option Int := (lawZ p h c).find? fun q => decide (lawC p h q = c)
def optD : Option Int → D
  | some q => .int q
  | none => .non
theorem eqC (st : Sto) (a b : MG.C) : eqD st (cD a) (cD b) = some (decide (a = b)) := by
  obtain ⟨i, j⟩ := a
  obtain ⟨k, l⟩ := b
  have := eqD2 st i j k l
  rw [show eqD st (cD (i, j)) (cD (k, l)) = eqD st (.tup [.int i, .int j]) (.tup [.int k, .int l]) from rfl, this]
  by_cases h1 : i = k <;> by_cases h2 : j = l <;> simp [h1, h2]
end K35
end
section
set_option maxRecDepth 100000
set_option maxHeartbeats 1000000
namespace K35
open PySem L2 MP
open MG (Line mom dedA cN bor Way Bef)
theorem mids_mem {S : List Int} {m : Int} : m ∈ midsL S ↔ ∃ i, i + 1 < S.length ∧ m = (S.getD i 0 + S.getD (i + 1) 0) / 2 := by
  unfold midsL
  simp only [List.mem_map, List.mem_range]
  constructor
  · rintro ⟨i, hi, rfl⟩
    exact ⟨i, by omega, rfl⟩
  · rintro ⟨i, hi, rfl⟩
    exact ⟨i, by omega, rfl⟩
theorem mom_mids : ∀ (l : List Int) (m : Int), m ∈ mom l → m ∈ l ∨ m ∈ midsL l
  | [], m, h => by simp [mom] at h
  | [a], m, h => by simp [mom] at h
  | a :: b :: r, m, h => by
    rw [MG.mom_cons2] at h
    rcases List.mem_cons.mp h with rfl | h
    · exact .inr (mids_mem.mpr ⟨0, by simp, rfl⟩)
    · rcases List.mem_cons.mp h with rfl | h
      · exact .inl (by simp)
      · rcases mom_mids (b :: r) m h with q | q
        · exact .inl (List.mem_cons_of_mem _ q)
        · obtain ⟨i, hi, e⟩ := mids_mem.mp q
          exact .inr (mids_mem.mpr ⟨i + 1, by simp at hi ⊢; omega, by simpa using e⟩)
theorem lawZ_mem {p : P4} {h : Int} {c : MG.C} {q : Int} : q ∈ lawZ p h c ↔ q ∈ lawS p h c ∨ q ∈ midsL (lawS p h c) := by
  unfold lawZ
  rw [(isA_perm leI _).mem_iff, List.mem_append]
theorem lawS_mem {p : P4} {h : Int} {c : MG.C} {q : Int} : q ∈ lawS p h c ↔ q ∈ lawA p h c ∧ 0 ≤ q ∧ q ≤ Bp p := by
  unfold lawS
  rw [sortI_mem, List.mem_filter]
  simp
theorem getD_mem {S : List Int} {i : Nat} (h : i < S.length) : S.getD i 0 ∈ S := by
  rw [List.getD_eq_getElem?_getD, List.getElem?_eq_getElem h]
  exact List.getElem_mem h
theorem lawZ_bd {p : P4} {h : Int} {c : MG.C} {q : Int} (hq : q ∈ lawZ p h c) : 0 ≤ q ∧ q ≤ Bp p := by
  rcases lawZ_mem.mp hq with hq | hq
  · exact (lawS_mem.mp hq).2
  · obtain ⟨i, hi, rfl⟩ := mids_mem.mp hq
    have a := (lawS_mem.mp (getD_mem (S := lawS p h c) (i := i) (by omega))).2
    have b := (lawS_mem.mp (getD_mem (S := lawS p h c) (i := i + 1) (by omega))).2
    omega
theorem first_some {p : P4} {h q : Int} {c : MG.C} (hf : firstQ p h c = some q) : (0 ≤ q ∧ q ≤ Bp p) ∧ lawC p h q = c := by
  unfold firstQ at hf
  have a := List.mem_of_find?_eq_some hf
  have b := List.find?_some hf
  exact ⟨lawZ_bd a, of_decide_eq_true b⟩
/-- an edge's place is the border's -/
theorem iv_bor {mv bg B h q k : Int} (hm : mv ≠ 0) (hB : B = absI mv * q) : iv mv bg B (2 * h * k - h) = bor bg mv h q k := by
  have pa := absI_pos hm
  have e : B / absI mv = q := by rw [hB]; exact Int.mul_ediv_cancel_left _ (by omega)
  unfold iv bor
  rw [e]
  split
  · grind
  · grind
theorem first_none {p : P4} {h : Int} {c : MG.C} (v : Pv p) (h0 : 0 < h) (hf : firstQ p h c = none) : ¬ ∃ q, 0 ≤ q ∧ q ≤ Bp p ∧ lawC p h q = c := by
  rintro ⟨q, q0, q1, hq⟩
  have hB := Bp_bd v
  have hx' : ∀ mv, mv = 2 * (p.2.1 - p.1.1) → mv ≠ 0 → Bp p = absI mv * (2 * Hy p) := fun mv e hm => by
    subst e
    unfold Bp Hx
    rw [hi_abs hm]
    grind
  have hy' : ∀ mv, mv = 2 * (p.2.2 - p.1.2) → mv ≠ 0 → Bp p = absI mv * (2 * Hx p) := fun mv e hm => by
    subst e
    unfold Bp Hy
    rw [hi_abs hm]
    grind
  have sort := sortI_sorted ((lawA p h c).filter fun e => decide (0 ≤ e) && decide (e ≤ Bp p))
  change (lawS p h c).Pairwise (· < ·) at sort
  have z0 : (0 : Int) ∈ lawS p h c := lawS_mem.mpr ⟨by simp [lawA], by omega, by omega⟩
  have zB : Bp p ∈ lawS p h c := lawS_mem.mpr ⟨by simp [lawA], by omega, by omega⟩
  have evA' : ∀ e ∈ lawA p h c, e % 2 = 0 := fun e he => by
    have ax : ∀ {mv bg ce Q : Int}, (mv ≠ 0 → Bp p = absI mv * (2 * Q)) → e ∈ ivs mv bg (Bp p) ce (2 * h) → e % 2 = 0 := fun {mv bg ce Q} hq he => by
      unfold ivs at he
      split at he
      · rename_i hm
        have pa := absI_pos hm
        have eq : Bp p / absI mv = 2 * Q := by rw [hq hm]; exact Int.mul_ediv_cancel_left _ (by omega)
        have iv2 : ∀ e, iv mv bg (Bp p) e % 2 = 0 := fun e => by
          unfold iv
          rw [eq]
          have : (e - bg) * (2 * Q) * (if 0 < mv then 1 else -1) = 2 * ((e - bg) * Q * (if 0 < mv then 1 else -1)) := by grind
          rw [this]
          omega
        simp at he
        rcases he with rfl | rfl <;> exact iv2 _
      · cases he
    unfold lawA at he
    rcases List.mem_append.mp he with he | he
    · rcases List.mem_append.mp he with he | he
      · simp at he
        rcases he with rfl | rfl
        · rfl
        · unfold Bp
          have : 2 * Hx p * Hy p = 2 * (Hx p * Hy p) := Int.mul_assoc ..
          omega
      · exact ax (Q := Hy p) (hx' _ rfl) he
    · exact ax (Q := Hx p) (hy' _ rfl) he
  cases hS : lawS p h c with
  | nil => rw [hS] at z0; cases z0
  | cons a s =>
    have hm : ∀ e, e ∈ a :: s ↔ e ∈ lawA p h c ∧ 0 ≤ e ∧ e ≤ Bp p := fun e => by rw [← hS]; exact lawS_mem
    rw [hS] at sort z0 zB
    have a0 : a = 0 := by
      rcases List.mem_cons.mp z0 with q | q
      · exact q.symm
      · have := (List.pairwise_cons.mp sort).1 0 q
        have := ((hm a).mp List.mem_cons_self).2.1
        omega
    subst a0
    have zB' : Bp p ∈ s := by
      rcases List.mem_cons.mp zB with q | q
      · omega
      · exact q
    have up : ∀ e, e ∈ lawA p h c → 0 < e → e < Bp p → e ∈ s := fun e he e0 e1 => by
      rcases List.mem_cons.mp ((hm e).mpr ⟨he, by omega, by omega⟩) with rfl | q
      · omega
      · exact q
    have hqc : (lin p h h0).cell q = c := hq
    obtain ⟨m, hmm, em⟩ := (lin p h h0).cover (p := q) (s := s) sort (fun e he => evA' e ((hm e).mp he).1) zB' q0 q1
      (fun k hd hk b0 b1 => by
        have hd' : 2 * (p.2.1 - p.1.1) ≠ 0 := hd
        refine up _ ?_ b0 b1
        show bor (2 * p.1.1) (2 * (p.2.1 - p.1.1)) (2 * h) (2 * Hy p) k ∈ lawA p h c
        rw [← iv_bor hd' (hx' _ rfl hd')]
        unfold lawA
        refine List.mem_append_left _ (List.mem_append_right _ ?_)
        unfold ivs
        rw [if_pos hd']
        rw [hqc] at hk
        rcases hk with rfl | rfl
        · have : 2 * (2 * h) * c.1 - 2 * h = 2 * c.1 * (2 * h) - 2 * h := by grind
          rw [this]
          simp
        · have : 2 * (2 * h) * (c.1 + 1) - 2 * h = 2 * c.1 * (2 * h) + 2 * h := by grind
          rw [this]
          simp)
      (fun k hd hk b0 b1 => by
        have hd' : 2 * (p.2.2 - p.1.2) ≠ 0 := hd
        refine up _ ?_ b0 b1
        show bor (2 * p.1.2) (2 * (p.2.2 - p.1.2)) (2 * h) (2 * Hx p) k ∈ lawA p h c
        rw [← iv_bor hd' (hy' _ rfl hd')]
        unfold lawA
        refine List.mem_append_right _ ?_
        unfold ivs
        rw [if_pos hd']
        rw [hqc] at hk
        rcases hk with rfl | rfl
        · have : 2 * (2 * h) * c.2 - 2 * h = 2 * c.2 * (2 * h) - 2 * h := by grind
          rw [this]
          simp
        · have : 2 * (2 * h) * (c.2 + 1) - 2 * h = 2 * c.2 * (2 * h) + 2 * h := by grind
          rw [this]
          simp)
    have hz : m ∈ lawZ p h c := by
      rw [lawZ_mem, hS]
      rcases List.mem_cons.mp hmm with rfl | hmm
      · exact .inl List.mem_cons_self
      · exact mom_mids _ _ hmm
    unfold firstQ at hf
    have := List.find?_eq_none.mp hf m hz
    have e : lawC p h m = c := em.trans hqc
    simp [e] at this
/-! ### the law's chain -/
def Qd (p : P4) (h : Int) (c : MG.C) : Int := (firstQ p h c).getD 0
abbrev rwD (p : P4) (h : Int) (c : MG.C) : D := .tup [.int (Qd p h c), cD c]
abbrev leR (p : P4) (h : Int) (a b : MG.C) : Bool := leD (rwD p h a) (rwD p h b)
def metP (p : P4) (h : Int) (cs : List MG.C) : List MG.C := isA (leR p h) (cs.filter fun c => (firstQ p h c).isSome)
theorem leR_le {p : P4} {h : Int} {a b : MG.C} (hl : leR p h a b = true) : Qd p h a ≤ Qd p h b := by
  refine Int.not_lt.mp fun hlt => ?_
  unfold leR leD at hl
  have : PySem.W.dataLt (encD (rwD p h b)) (encD (rwD p h a)) = true := by
    have ea : ∀ c, encD (rwD p h c) = .tuple [.int (Qd p h c), encD (cD c)] := fun c => by simp [rwD, encD, encDs]
    rw [ea, ea, PySem.W.dataLt_tuple, PySem.W.dataLt_all_no (by simp [PySem.W.alike]) (by simp [PyData.eqv]; omega), PySem.W.dataLt_int]
    exact decide_eq_true hlt
  rw [this] at hl
  cases hl
theorem leD_tr : ∀ a b c : D, leD a b = true → leD b c = true → leD a c = true := leE_trans encD
theorem leD_tt : ∀ a b : D, (leD a b || leD b a) = true := leE_total encD
/-- the law's chain of a piece is the program's -/
theorem met_eq {p : P4} {h : Int} {cs HL : List MG.C} (v : Pv p) (h0 : 0 < h) (nd : cs.Nodup) (hm : ∀ c, c ∈ cs ↔ c ∈ HL) : hotP p h HL = metP p h cs := by
  obtain ⟨d1, d2⟩ := cells_spec v h0
  have fs : ∀ c, (firstQ p h c).isSome = true ↔ ∃ q, 0 ≤ q ∧ q ≤ Bp p ∧ (lin p h h0).cell q = c := fun c => by
    cases hf : firstQ p h c with
    | none =>
      have := first_none v h0 hf
      simp only [Option.isSome_none, Bool.false_eq_true, false_iff]
      exact this
    | some q =>
      have := first_some hf
      simp only [Option.isSome_some, true_iff]
      exact ⟨q, this.1.1, this.1.2, this.2⟩
  have Qc : ∀ c, (firstQ p h c).isSome = true → (lin p h h0).cell (Qd p h c) = c := fun c hc => by
    unfold Qd
    cases hf : firstQ p h c with
    | none => rw [hf] at hc; cases hc
    | some q => exact (first_some hf).2
  have mm : ∀ c, c ∈ metP p h cs ↔ c ∈ cs ∧ (firstQ p h c).isSome = true := fun c => by
    unfold metP
    rw [(isA_perm _ _).mem_iff, List.mem_filter]
  refine MG.lists_eq (lin p h h0) (P := Qd p h) (d1.filter _) ?_ (fun c => ?_) fun c hc => ?_
  · have so := isA_sorted (le := leR p h) (fun a b c => leD_tr _ _ _) (fun a b => leD_tt _ _) (cs.filter fun c => (firstQ p h c).isSome)
    have nd2 : (metP p h cs).Nodup := ((isA_perm (leR p h) _).nodup_iff).mpr (nd.filter _)
    change (metP p h cs).Pairwise _ at so
    refine (List.Pairwise.and so nd2).imp_of_mem fun {a b} ha hb ⟨h1, h2⟩ => ?_
    have l1 := leR_le h1
    rcases Int.lt_or_eq_of_le l1 with l | l
    · exact l
    · have e1 := Qc a ((mm a).mp ha).2
      have e2 := Qc b ((mm b).mp hb).2
      rw [l, e2] at e1
      exact absurd e1.symm h2
  · rw [mm, List.mem_filter, d2, hm, fs]
    simp
    exact and_comm
  · exact Qc c ((fs c).mpr ((d2 c).mp (List.mem_filter.mp hc).1))
end K35
end
section
set_option maxRecDepth 100000
set_option maxHeartbeats 1000000
namespace K35
open PySem L2 MP
open MG (Line mom dedA cN bor Way Bef)
theorem seq_eq {da : De} {ls : Ls} {st st1 : Sto} {n : Nat} {ro : Bool} {l : List D} (h : da ls st = okD (.obj n) st1) (g : st1[n]? = some (Cell.lst ro l)) : dSeq da ls st = some (.it l (.one n l), st1) := by
  unfold dSeq
  rw [h]
  simp only [okD, bindI, fSeq, g]
abbrev r1D (p : P4) (h : Int) (c : MG.C) : D := .tup [optD (firstQ p h c), cD c]
theorem canSort_rw (p : P4) (h : Int) (l : List MG.C) : canSort (l.map (rwD p h)) = true := by
  unfold canSort
  rw [Bool.or_eq_true]
  refine .inr ?_
  rw [Bool.and_eq_true]
  constructor
  · rw [List.all_eq_true]
    intro d hd
    obtain ⟨c, _, rfl⟩ := List.mem_map.mp hd
    rfl
  · have ea : ∀ c, encD (rwD p h c) = .tuple [.int (Qd p h c), .tuple [.int c.1, .int c.2]] := fun c => by simp [rwD, encD, encDs]
    unfold sortOk
    rw [Bool.and_eq_true, Bool.or_eq_true]
    refine ⟨.inl (List.all_eq_true.mpr fun x hx => ?_), List.all_eq_true.mpr fun x hx => List.all_eq_true.mpr fun y hy => ?_⟩
    · obtain ⟨d, hd, rfl⟩ := List.mem_map.mp hx
      obtain ⟨c, _, rfl⟩ := List.mem_map.mp hd
      rw [ea]
      rfl
    · obtain ⟨d, hd, rfl⟩ := List.mem_map.mp hx
      obtain ⟨c, _, rfl⟩ := List.mem_map.mp hd
      obtain ⟨d', hd', rfl⟩ := List.mem_map.mp hy
      obtain ⟨c', _, rfl⟩ := List.mem_map.mp hd'
      rw [ea, ea]
      simp [PySem.W.alike, PySem.W.alikeAll]
/-! ### the law's dict -/
theorem lstep {B : Sto} {kD b : Nat} {K : List MG.C} {st : Sto} {c : MG.C} {r : List Int} {de : De} {ls : Ls} (hr : r ≠ []) (hb : b ≤ 1000) (h : RI B kD K b st) (h2 : ls[2]? = some (some (.obj kD))) (h5 : ls[5]? = some (some (cD c))) (he : ∀ st, de ls st = okD (tupI r) st) :
    ∃ st', dSetIxG (dBin fAdd (dMethD fGet2 (dVar 2) [(dVar 5), (dApp fLst [])]) (dApp fLst [de])) (dVar 2) (dVar 5) ls st = some (.next, ls, st') ∧ RI B kD (addK K c) (b + 1) st' ∧ GrN kD st st' := by
  obtain ⟨ps, e, k, p⟩ := h.ex
  have hk := lt_of_get e
  have v2 : ∀ st, dVar 2 ls st = okD (.obj kD) st := fun st => by simp only [dVar, h2]
  have v5 : ∀ st, dVar 5 ls st = okD (cD c) st := fun st => by simp only [dVar, h5]
  have e1 : (st ++ [Cell.lst false []])[kD]? = some (.dct ps) := by rw [List.getElem?_append_left hk]; exact e
  have hpl : ps.length = K.length := by
    have := congrArg List.length k
    simpa using this
  have hpk : ps.length < LINE := by
    have := h.kl
    simp [LINE]
    omega
  have ev : evA [dVar 5, dApp fLst []] ls st = some (.ok [cD c, .obj st.length], st ++ [Cell.lst false []]) := by
    unfold evA
    rw [v5]
    simp [okD, evA, dApp, fLst, small, okL]
  have kl : (addK K c).length ≤ b + 1 := Nat.le_trans (addK_len K c) (by have := h.kl; omega)
  -- what get gives: a list of rows
  obtain ⟨m, L, e2, hm, hL, hLr⟩ : ∃ (m : Nat) (L : List (List Int)), dMethD fGet2 (dVar 2) [(dVar 5), (dApp fLst [])] ls st = okD (.obj m) (st ++ [Cell.lst false []]) ∧ (st ++ [Cell.lst false []])[m]? = some (Cell.lst false (L.map tupI)) ∧ L.length ≤ b ∧ ∀ r ∈ L, r ≠ [] := by
    have go : dMethD fGet2 (dVar 2) [(dVar 5), (dApp fLst [])] ls st = fGet2 (.obj kD) [cD c, .obj st.length] (st ++ [Cell.lst false []]) := by
      unfold dMethD
      rw [v2]
      simp only [okD, bindR, methDK, dctAt, e]
      exact appE ev
    cases hlk : lookD ps (cD c) with
    | some v =>
      obtain ⟨x, hx, hxv⟩ := look_in hlk
      obtain ⟨m, L, x1, x2, x3, x4, x5, x6⟩ := p x hx
      have hv : v = .obj m := hxv.symm.trans x1
      subst hv
      refine ⟨m, L, ?_, by rw [List.getElem?_append_left (lt_of_get x4)]; exact x4, x5, x6⟩
      rw [go]
      simp only [fGet2, e1, ok_cD, if_true, hlk]
    | none =>
      refine ⟨st.length, [], ?_, get_push, by simp, fun r hr => by cases hr⟩
      rw [go]
      simp only [fGet2, e1, ok_cD, if_true, hlk]
  obtain ⟨st1, hst1⟩ : ∃ st1, st1 = st ++ [Cell.lst false []] := ⟨_, rfl⟩
  rw [← hst1] at e1 e2 hm
  have e3 : dApp fLst [de] ls st1 = okD (.obj st1.length) (st1 ++ [Cell.lst false [tupI r]]) := lst1_eq (he st1)
  have hm' : (st1 ++ [Cell.lst false [tupI r]])[m]? = some (Cell.lst false (L.map tupI)) := by rw [List.getElem?_append_left (lt_of_get hm)]; exact hm
  obtain ⟨st2, hst2⟩ : ∃ st2, st2 = st1 ++ [Cell.lst false [tupI r]] := ⟨_, rfl⟩
  rw [← hst2] at e3 hm'
  have g2 : st2[st1.length]? = some (Cell.lst false [tupI r]) := by rw [hst2]; exact get_push
  have e4 := addl_eq hm' g2 (by simp; omega)
  have eL : L.map tupI ++ [tupI r] = (L ++ [r]).map tupI := by simp
  rw [eL] at e4
  obtain ⟨st3, hst3⟩ : ∃ st3, st3 = st2 ++ [Cell.lst false ((L ++ [r]).map tupI)] := ⟨_, rfl⟩
  rw [← hst3] at e4
  have s13 : Gr st st3 := by rw [hst3, hst2, hst1]; exact Gr.push.trans (Gr.push.trans .push)
  have g3 : st3[st2.length]? = some (Cell.lst false ((L ++ [r]).map tupI)) := by rw [hst3]; exact get_push
  have ek := s13.at e
  have hlen : st.length < st2.length := by rw [hst2, hst1]; simp
  refine ⟨st3.set kD (Cell.dct (putP ps (cD c) (.obj st2.length))), ?_, ⟨(h.gr.trans (s13.n kD)).trans .set, kl, putP ps (cD c) (.obj st2.length), ?_, put_keys k c _, fun y hy => ?_⟩, (s13.n kD).trans .set⟩
  · unfold dSetIxG
    rw [bin_eq e2 e3, e4]
    simp only [okD, bindS]
    rw [v2]
    simp only [okD, bindS]
    rw [v5]
    simp only [okD, bindS, setKG, dctAt, ek, ok_cD, if_true, if_pos hpk]
  · rw [List.getElem?_set_self (lt_of_get ek)]
  · have old : ∀ y ∈ ps, ∃ (m : Nat) (L : List (List Int)), y.2 = .obj m ∧ B.length ≤ m ∧ m ≠ kD ∧ (st3.set kD (Cell.dct (putP ps (cD c) (.obj st2.length))))[m]? = some (Cell.lst false (L.map tupI)) ∧ L.length ≤ b + 1 ∧ ∀ r ∈ L, r ≠ [] := fun y hy => by
      obtain ⟨m', L', y1, y2, y3, y4, y5, y6⟩ := p y hy
      exact ⟨m', L', y1, y2, y3, by rw [List.getElem?_set_ne (Ne.symm y3)]; exact s13.at y4, by omega, y6⟩
    have new : ∃ (m : Nat) (L : List (List Int)), (D.obj st2.length) = .obj m ∧ B.length ≤ m ∧ m ≠ kD ∧ (st3.set kD (Cell.dct (putP ps (cD c) (.obj st2.length))))[m]? = some (Cell.lst false (L.map tupI)) ∧ L.length ≤ b + 1 ∧ ∀ r ∈ L, r ≠ [] := by
      refine ⟨st2.length, L ++ [r], rfl, by have := h.gr.len; omega, by omega, by rw [List.getElem?_set_ne (by omega)]; exact g3, by simp; omega, fun z hz => ?_⟩
      rcases List.mem_append.mp hz with hz | hz
      · exact hLr z hz
      · simp at hz
        rw [hz]
        exact hr
    unfold putP at hy
    split at hy
    · obtain ⟨x, hx, rfl⟩ := List.mem_map.mp hy
      split
      · exact new
      · exact old x hx
    · rcases List.mem_append.mp hy with hy | hy
      · exact old y hy
      · simp at hy
        subst hy
        exact new
end K35
end
section
set_option maxRecDepth 100000
set_option maxHeartbeats 1000000
namespace K35
open PySem L2 MP
open MG (Line mom dedA cN bor Way Bef)
theorem or_list {da : De} {ls : Ls} {st st1 : Sto} {n : Nat} {l : List D} (h : da ls st = okD (.obj n) st1) (g : st1[n]? = some (Cell.lst false l)) :
    ∃ (n' : Nat) (st2 : Sto), dOrG da (dApp fLst []) ls st = okD (.obj n') st2 ∧ st2[n']? = some (Cell.lst false l) ∧ Gr st1 st2 := by
  unfold dOrG
  rw [h]
  simp only [okD, bindR, fOrG, truD, g]
  cases l with
  | nil => exact ⟨st1.length, st1 ++ [Cell.lst false []], lst0_eq, get_push, .push⟩
  | cons a r => exact ⟨n, st1, rfl, g, .refl _⟩
def setB (de : De) : Ds := (dSetIxG (dBin fAdd (dMethD fGet2 (dVar 2) [(dVar 5), (dApp fLst [])]) (dApp fLst [de])) (dVar 2) (dVar 5))
def lc2 (h : Int) (gs : List P4) (k i : Nat) : List MG.C := match gs[i]?, gs[k]? with
  | some p, some q => (comP p q).map (cellT h)
  | _, _ => []
end K35
end
section
set_option maxRecDepth 100000
set_option maxHeartbeats 1000000
namespace K35
open PySem L2 MP
open MG (Line mom dedA cN bor Way Bef)
def endC (h : Int) (q : P4) (e : Int) : MG.C := if e = 0 then cellT h (q.1.1, q.1.2, 1) else cellT h (q.2.1, q.2.2, 1)
theorem range_small {i : Int} (h1 : 0 ≤ i) (h2 : i ≤ 1000) : rangeOk i = true := by
  simp [rangeOk]
  omega
theorem range_it {das : List De} {ls : Ls} {st st1 : Sto} {i : Int} (h : evA das ls st = some (.ok [.int i], st1)) (h1 : 0 ≤ i) (h2 : i ≤ 1000) : dAppI fRange das ls st = some (.it (rgD 0 i.toNat) .no, st1) := by
  unfold dAppI
  rw [h]
  unfold fRange
  simp only [range_small h1 h2, if_true]
theorem for_eq {di : Di} {t : Tg} {db : Ds} {ls : Ls} {st st1 : Sto} {items : List D} {gd : Gd} {x : Rss} (h : di ls st = some (.it items gd, st1)) (e : forD gd t db items ls st1 = x) : dFor di t db ls st = x := by
  unfold dFor
  rw [h]
  exact e
theorem range_at {das : List De} {ls : Ls} {st st1 : Sto} {i : Int} {k : Nat} (hk : i = k) (h : evA das ls st = some (.ok [.int i], st1)) (h2 : k ≤ 1000) : dAppI fRange das ls st = some (.it ((List.range k).map fun (j : Nat) => D.int j) .no, st1) := by
  rw [range_it h (by omega) (by omega), ← rgD_range]
  have : i.toNat = k := by omega
  rw [this]
def lcK (h : Int) (gs : List P4) (k : Nat) : List MG.C := match gs[k]? with
  | some q => [endC h q 0, endC h q 1] ++ (List.range k).flatMap (lc2 h gs k)
  | none => []
theorem hot_mem {h : Int} {gs : List P4} {c : MG.C} : c ∈ (List.range gs.length).flatMap (lcK h gs) ↔ c ∈ hotL h gs := by
  have a : c ∈ hotL h gs ↔ (∃ (n : Nat) (p : P4), gs[n]? = some p ∧ (c = endC h p 0 ∨ c = endC h p 1)) ∨ ∃ (i j : Nat), i < j ∧ j < gs.length ∧ c ∈ lc2 h gs j i := by
    unfold hotL marksL
    rw [List.map_append, List.mem_append]
    refine or_congr ?_ ?_
    · unfold marks1
      simp only [List.mem_map, List.mem_flatMap]
      constructor
      · rintro ⟨x, ⟨⟨i, p⟩, hm, hx⟩, rfl⟩
        obtain ⟨n, _, hp⟩ := enP_mem.mp hm
        simp at hx
        rcases hx with rfl | rfl
        · exact ⟨n, p, hp, .inl (by simp [endC])⟩
        · exact ⟨n, p, hp, .inr (by simp [endC])⟩
      · rintro ⟨n, p, hp, rfl | rfl⟩
        · exact ⟨_, ⟨(n, p), enP_mem.mpr ⟨n, rfl, hp⟩, List.mem_cons_self⟩, by simp [endC]⟩
        · exact ⟨_, ⟨(n, p), enP_mem.mpr ⟨n, rfl, hp⟩, List.mem_cons_of_mem _ List.mem_cons_self⟩, by simp [endC]⟩
    · unfold marks2
      simp only [List.mem_map, List.mem_flatMap]
      constructor
      · rintro ⟨x, ⟨⟨i, j⟩, hm, hx⟩, rfl⟩
        have hb := pairs_mem.mp hm
        refine ⟨i.toNat, j.toNat, by omega, by omega, ?_⟩
        unfold lc2
        simp only at hx
        split at hx
        · rename_i p q e1 e2
          first | rw [e1, e2] | skip
          obtain ⟨t, ht, rfl⟩ := List.mem_map.mp hx
          exact List.mem_map_of_mem ht
        · cases hx
      · rintro ⟨i, j, h1, h2, hc⟩
        unfold lc2 at hc
        split at hc
        · rename_i p q e1 e2
          obtain ⟨t, ht, rfl⟩ := List.mem_map.mp hc
          refine ⟨(cellT h t, [(i : Int), (j : Int), 2]), ⟨((i : Int), (j : Int)), pairs_mem.mpr (by omega), ?_⟩, rfl⟩
          simp only [Int.toNat_natCast, e1, e2]
          exact List.mem_map_of_mem ht
        · cases hc
  rw [a]
  simp only [List.mem_flatMap, List.mem_range]
  constructor
  · rintro ⟨k, hk, hc⟩
    obtain ⟨q, hq⟩ : ∃ q, gs[k]? = some q := ⟨_, List.getElem?_eq_getElem hk⟩
    unfold lcK at hc
    rw [hq] at hc
    rcases List.mem_append.mp hc with hc | hc
    · simp at hc
      exact .inl ⟨k, q, hq, hc⟩
    · obtain ⟨i, hi, hc⟩ := List.mem_flatMap.mp hc
      exact .inr ⟨i, k, List.mem_range.mp hi, hk, hc⟩
  · rintro (⟨n, p, hp, hc⟩ | ⟨i, j, hij, hj, hc⟩)
    · refine ⟨n, lt_of_get hp, ?_⟩
      unfold lcK
      rw [hp]
      exact List.mem_append_left _ (by simpa using hc)
    · refine ⟨j, hj, ?_⟩
      obtain ⟨q, hq⟩ : ∃ q, gs[j]? = some q := ⟨_, List.getElem?_eq_getElem hj⟩
      unfold lcK
      rw [hq]
      exact List.mem_append_right _ (List.mem_flatMap.mpr ⟨i, List.mem_range.mpr hij, hc⟩)
theorem fold_nd : ∀ {cs K : List MG.C}, K.Nodup → (cs.foldl addK K).Nodup
  | [], K, h => h
  | c :: cs, K, h => by
    rw [List.foldl_cons]
    exact fold_nd (addK_nd h)
end K35
end
section
set_option maxRecDepth 100000
set_option maxHeartbeats 1000000
namespace K35
open PySem L2 MP
open MG (Line mom dedA cN bor Way Bef)
/-! ### the ends of a chain -/
theorem lin_first (p : P4) (h : Int) (h0 : 0 < h) : (lin p h h0).cell 0 = endC h p 0 := by
  have hB := (lin p h h0).hB
  unfold endC Line.cell lin cellT
  simp only [if_true]
  have e : ∀ x dx, cN (2 * x) dx (2 * h) (Bp p) 0 = (x + h * 1) / (2 * h * 1) := fun x dx => by
    have hB' : 0 < Bp p := hB
    unfold cN
    have e1 : 2 * x * Bp p + dx * 0 + 2 * h * Bp p = (2 * Bp p) * (x + h * 1) := by grind
    have e2 : 2 * (2 * h) * Bp p = (2 * Bp p) * (2 * h * 1) := by grind
    rw [e1, e2, Int.mul_ediv_mul_of_pos _ _ (by omega)]
  rw [e, e]
theorem lin_last (p : P4) (h : Int) (h0 : 0 < h) : (lin p h h0).cell (Bp p) = endC h p 1 := by
  have hB := (lin p h h0).hB
  unfold endC Line.cell lin cellT
  simp only [show ((1 : Int) = 0) = False by simp, if_false]
  have e : ∀ x z, cN (2 * x) (2 * (z - x)) (2 * h) (Bp p) (Bp p) = (z + h * 1) / (2 * h * 1) := fun x z => by
    have hB' : 0 < Bp p := hB
    unfold cN
    have e1 : 2 * x * Bp p + 2 * (z - x) * Bp p + 2 * h * Bp p = (2 * Bp p) * (z + h * 1) := by grind
    have e2 : 2 * (2 * h) * Bp p = (2 * Bp p) * (2 * h * 1) := by grind
    rw [e1, e2, Int.mul_ediv_mul_of_pos _ _ (by omega)]
  rw [e, e]
theorem end_hot {h : Int} {gs : List P4} {p : P4} {n : Nat} (hp : gs[n]? = some p) : endC h p 0 ∈ hotL h gs ∧ endC h p 1 ∈ hotL h gs := by
  have hn := lt_of_get hp
  have m : ∀ c, c ∈ lcK h gs n → c ∈ hotL h gs := fun c hc => hot_mem.mp (List.mem_flatMap.mpr ⟨n, List.mem_range.mpr hn, hc⟩)
  constructor
  · refine m _ ?_
    unfold lcK
    rw [hp]
    simp
  · refine m _ ?_
    unfold lcK
    rw [hp]
    simp
theorem chP_ord {h : Int} {gs : List P4} {p : P4} (v : Pv p) (h0 : 0 < h) : (chP h gs p).Pairwise (Bef (lin p h h0)) := (cells_spec v h0).1.filter _
theorem chP_mem {h : Int} {gs : List P4} {p : P4} {c : MG.C} (v : Pv p) (h0 : 0 < h) : c ∈ chP h gs p ↔ (∃ q, 0 ≤ q ∧ q ≤ Bp p ∧ (lin p h h0).cell q = c) ∧ c ∈ hotL h gs := by
  unfold chP hotP
  rw [List.mem_filter, (cells_spec v h0).2 c]
  simp
theorem chP_nd {h : Int} {gs : List P4} {p : P4} (v : Pv p) (h0 : 0 < h) : (chP h gs p).Nodup := (chP_ord v h0).imp fun h => h.1
theorem chP_head {h : Int} {gs : List P4} {p : P4} {n : Nat} (v : Pv p) (h0 : 0 < h) (hp : gs[n]? = some p) : (chP h gs p).head? = some (endC h p 0) := by
  have hB := Bp_bd v
  have m0 := (chP_mem (gs := gs) v h0).mpr ⟨⟨0, by omega, by omega, lin_first p h h0⟩, (end_hot (h := h) hp).1⟩
  have ord := chP_ord (gs := gs) v h0
  have mem : ∀ c ∈ chP h gs p, ∃ q, 0 ≤ q ∧ q ≤ Bp p ∧ (lin p h h0).cell q = c := fun c hc => ((chP_mem v h0).mp hc).1
  cases hc : chP h gs p with
  | nil => rw [hc] at m0; cases m0
  | cons a r =>
    rw [hc] at m0 ord mem
    rcases List.mem_cons.mp m0 with e | hr
    · rw [e]
      rfl
    · obtain ⟨ne, m1, m2, hm, e1, e2⟩ := (List.pairwise_cons.mp ord).1 _ hr
      obtain ⟨q, q0, _, eq⟩ := mem a List.mem_cons_self
      exact absurd ((lin p h h0).noback hm q0 e1 e2 (lin_first p h h0) eq) ne
theorem chP_last {h : Int} {gs : List P4} {p : P4} {n : Nat} (v : Pv p) (h0 : 0 < h) (hp : gs[n]? = some p) : (chP h gs p).getLast? = some (endC h p 1) := by
  have hB := Bp_bd v
  have m0 := (chP_mem (gs := gs) v h0).mpr ⟨⟨Bp p, by omega, by omega, lin_last p h h0⟩, (end_hot (h := h) hp).2⟩
  have ord := chP_ord (gs := gs) v h0
  have mem : ∀ c ∈ chP h gs p, ∃ q, 0 ≤ q ∧ q ≤ Bp p ∧ (lin p h h0).cell q = c := fun c hc => ((chP_mem v h0).mp hc).1
  rcases List.eq_nil_or_concat (chP h gs p) with hc | ⟨r, a, hc⟩
  · rw [hc] at m0; cases m0
  · rw [hc] at m0 ord mem ⊢
    rw [List.concat_eq_append] at m0 ord mem ⊢
    rcases List.mem_append.mp m0 with hr | e
    · obtain ⟨ne, m1, m2, hm, e1, e2⟩ := (List.pairwise_append.mp ord).2.2 _ hr a (by simp)
      obtain ⟨q, _, q1, eq⟩ := mem a (by simp)
      exact absurd ((lin p h h0).noback hm q1 e1 e2 eq (lin_last p h h0)) ne
    · simp at e
      rw [e]
      simp
end K35
end
section
set_option maxRecDepth 100000
set_option maxHeartbeats 1000000
namespace K35
open PySem L2 MP
/-! ### comparing rows of cells -/
def cP (c : MG.C) : PyData := .tuple [.int c.1, .int c.2]
def csP (l : List MG.C) : PyData := .tuple (l.map cP)
theorem toP_cs (st : Sto) (n : Nat) : ∀ l : List MG.C, mapO (toP st (n + 2)) (l.map cD) = some (l.map cP)
  | [] => rfl
  | c :: l => by
    have e : toP st (n + 2) (cD c) = some (cP c) := by
      simp [cD, toP, mapO, cP]
    rw [List.map_cons, mapO, e, toP_cs st n l]
    rfl
theorem toP_csD (st : Sto) (n : Nat) (l : List MG.C) : toP st (n + 3) (csD l) = some (csP l) := by
  simp only [csD, toP, toP_cs]
  rfl
theorem toP_css (st : Sto) (n : Nat) : ∀ ls : List (List MG.C), mapO (toP st (n + 3)) (ls.map csD) = some (ls.map csP)
  | [] => rfl
  | l :: ls => by
    rw [List.map_cons, mapO, toP_csD, toP_css st n ls]
    rfl
theorem lay_cs : ∀ l : List MG.C, PyData.canLayAll0 (l.map cP) = true
  | [] => by simp [PyData.canLayAll0]
  | c :: l => by simp [PyData.canLayAll0, cP, PyData.canLay0, lay_cs l]
theorem dep_cs : ∀ l : List MG.C, PyData.depthAll (l.map cP) ≤ 1
  | [] => by simp [PyData.depthAll]
  | c :: l => by
    have := dep_cs l
    simp [PyData.depthAll, cP, PyData.depth]
    omega
theorem lay_css : ∀ ls : List (List MG.C), PyData.canLayAll0 (ls.map csP) = true
  | [] => by simp [PyData.canLayAll0]
  | l :: ls => by simp [PyData.canLayAll0, csP, PyData.canLay0, lay_cs l, lay_css ls]
theorem dep_css : ∀ ls : List (List MG.C), PyData.depthAll (ls.map csP) ≤ 2
  | [] => by simp [PyData.depthAll]
  | l :: ls => by
    have h1 := dep_css ls
    have h2 := dep_cs l
    simp [PyData.depthAll, csP, PyData.depth]
    omega
theorem ne_self {st : Sto} {d e : D} {p : PyData} (h1 : toP st DEEP d = some p) (h2 : toP st DEEP e = some p) (hl : p.canLay0 = true) (hd : p.depth ≤ 64) : fNe d e st = okD (.bl false) st := by
  have hs : SeqAt.shaped p = true := by
    unfold SeqAt.shaped
    rw [hl, decide_eq_true hd]
    rfl
  simp only [fNe, eqD, h1, h2, hs, Bool.and_self, if_true]
  rw [PySem.SeqAt.eqv_refl p hl]
  rfl
theorem ne_lists {st : Sto} {n m : Nat} {a b : Bool} {ls : List (List MG.C)} (h1 : st[n]? = some (.lst a (ls.map csD))) (h2 : st[m]? = some (.lst b (ls.map csD))) : fNe (.obj n) (.obj m) st = okD (.bl false) st := by
  have e : ∀ {k : Nat} {c : Bool}, st[k]? = some (.lst c (ls.map csD)) → toP st DEEP (.obj k) = some (.list (ls.map csP)) := fun {k c} h => by
    show toP st 8 (.obj k) = _
    simp only [toP, h, toP_css st 4 ls]
  refine ne_self (e h1) (e h2) (by simp [PyData.canLay0, lay_css]) ?_
  have := dep_css ls
  simp [PyData.depth]
  omega
theorem ne_csD (st : Sto) (l : List MG.C) : fNe (csD l) (csD l) st = okD (.bl false) st := by
  refine ne_self (toP_csD st 5 l) (toP_csD st 5 l) (by simp [csP, PyData.canLay0, lay_cs]) ?_
  have := dep_cs l
  simp [csP, PyData.depth]
  omega
theorem ne_cc (st : Sto) (c d : MG.C) : fNe (.tup [cD c, cD d]) (.tup [cD c, cD d]) st = okD (.bl false) st := ne_csD st [c, d]
/-! ### lengths -/
theorem nd_le : ∀ {l r : List MG.C}, l.Nodup → (∀ x ∈ l, x ∈ r) → l.length ≤ r.length
  | [], r, _, _ => by simp
  | a :: l, r, nd, h => by
    have ha := h a List.mem_cons_self
    have h1 := (List.nodup_cons.mp nd)
    have ih := nd_le (l := l) (r := r.erase a) h1.2 fun x hx => by
      have hne : x ≠ a := fun z => h1.1 (z ▸ hx)
      exact (List.mem_erase_of_ne hne).mpr (h x (List.mem_cons_of_mem _ hx))
    rw [List.length_erase_of_mem ha] at ih
    have := List.length_pos_of_mem ha
    simp
    omega
theorem hotL_len {h : Int} {gs : List P4} (g : Good gs) : (hotL h gs).length ≤ 48 := by
  have a1 := marks1_len h (enP gs)
  have a2 : (enP gs).length = gs.length := by simp [enP]
  have a3 := marks2_len (h := h) g (pairs gs.length) fun x hx => by
    obtain ⟨i, j⟩ := x
    have := pairs_mem.mp hx
    simp only
    omega
  have a4 := pairs_len (n := (gs.length : Int)) (by have := g.len; omega)
  have := g.len
  unfold hotL marksL
  rw [List.length_map, List.length_append]
  omega
theorem chP_len {h : Int} {gs : List P4} {p : P4} (g : Good gs) (v : Pv p) (h0 : 0 < h) : (chP h gs p).length ≤ 48 :=
  Nat.le_trans (nd_le (chP_nd v h0) fun x hx => ((chP_mem v h0).mp hx).2) (hotL_len g)
def row2c (c : MG.C) : List Int := [c.1, c.2]
theorem rowsOf_cs : ∀ l : List MG.C, MP.rowsOf (l.map cD) = some (l.map row2c)
  | [] => rfl
  | c :: l => by
    rw [List.map_cons, MP.rowsOf, rowsOf_cs l]
    rfl
theorem row2c_nd : ∀ {l : List MG.C}, l.Nodup → (l.map row2c).Nodup
  | [], _ => List.nodup_nil
  | c :: l, nd => by
    have h1 := List.nodup_cons.mp nd
    rw [List.map_cons, List.nodup_cons]
    refine ⟨fun z => ?_, row2c_nd h1.2⟩
    obtain ⟨d, hd, e⟩ := List.mem_map.mp z
    have : d = c := by
      obtain ⟨a, b⟩ := c
      obtain ⟨a', b'⟩ := d
      simp [row2c] at e
      simp [e]
    exact h1.1 (this ▸ hd)
theorem lenset_eq {l : List MG.C} (nd : l.Nodup) (hl : l.length ≤ 48) (st : Sto) : fLenSet (csD l) st = okD (.int (l.length : Nat)) st := by
  have e : (sortU (l.map row2c)).length = l.length := by
    rw [rows_len (ltL_nodup (sortU_sorted (l.map row2c))) (row2c_nd nd) fun k => sortU_mem]
    exact List.length_map ..
  have h64 : decide ((l.map row2c).length < 64) = true := decide_eq_true (by rw [List.length_map]; omega)
  show (match MP.rowsOf (l.map cD) with | some rows => if decide (rows.length < 64) then okD (.int (sortU rows).length) st else none | none => none) = _
  rw [rowsOf_cs]
  simp only [h64, if_true, e]
theorem ix_first {l : List MG.C} {c : MG.C} (h : l.head? = some c) (st : Sto) : fIx (csD l) (.int 0) st = okD (cD c) st := by
  cases l with
  | nil => simp at h
  | cons a r =>
    simp at h
    subst h
    simp [fIx, L2.atI, L2.ixN, okD]
theorem ix_last {l : List MG.C} {c : MG.C} (h : l.getLast? = some c) (st : Sto) : fIx (csD l) (.int (-1)) st = okD (cD c) st := by
  rcases List.eq_nil_or_concat l with hc | ⟨r, a, hc⟩
  · subst hc; simp at h
  · rw [List.concat_eq_append] at hc
    subst hc
    simp at h
    subst h
    have e : ((-1 : Int) + ((r.length + 1 : Nat) : Int)).toNat = r.length := by omega
    have e2 : (-1 : Int) + (((r ++ [a]).length : Nat) : Int) = r.length := by simp; omega
    have e1 : L2.ixN (((r ++ [a]).map cD).length) (-1) = some r.length := by
      unfold L2.ixN
      rw [if_neg (by omega), if_pos (by simp; omega), List.length_map]
      simp
      omega
    simp only [fIx, L2.atI, e1]
    simp [okD]
end K35
end
section
set_option maxRecDepth 100000
set_option maxHeartbeats 1000000
namespace K35
open PySem L2 MP
/-- a number over a bottom, in lowest terms -/
def rq (n A : Int) : Int × Int := (n / ((Nat.gcd n.natAbs A.natAbs : Nat) : Int), A / ((Nat.gcd n.natAbs A.natAbs : Nat) : Int))
/-- a point in lowest terms -/
def redD (t : Tri) : D := .tup [.tup [.int (t.1 / ((Nat.gcd t.1.natAbs t.2.2.natAbs : Nat) : Int)), .int (t.2.2 / ((Nat.gcd t.1.natAbs t.2.2.natAbs : Nat) : Int))], .tup [.int (t.2.1 / ((Nat.gcd t.2.1.natAbs t.2.2.natAbs : Nat) : Int)), .int (t.2.2 / ((Nat.gcd t.2.1.natAbs t.2.2.natAbs : Nat) : Int))]]
theorem red_one (x y : Int) : redD (x, y, 1) = .tup [.tup [.int x, .int 1], .tup [.int y, .int 1]] := by
  simp [redD]
inductive Pt2 : List Tri → D → Prop
  | no : Pt2 [] .non
  | one {X Y A : Int} : 0 < A → A ≤ 7200 → Pt2 [(X, Y, A)] (redD (X, Y, A))
theorem rq_eq {n A m B : Int} (hA : 0 < A) (hB : 0 < B) : rq n A = rq m B ↔ n * B = m * A := by
  obtain ⟨a1, _, _, g0, _⟩ := gcd_cell (n := n) (A := A) (h := 1) hA (by omega) rfl
  obtain ⟨b1, _, _, k0, _⟩ := gcd_cell (n := m) (A := B) (h := 1) hB (by omega) rfl
  have d1 : ((Nat.gcd n.natAbs A.natAbs : Nat) : Int) ∣ n := Int.ofNat_dvd_left.mpr (Nat.gcd_dvd_left _ _)
  have d2 : ((Nat.gcd n.natAbs A.natAbs : Nat) : Int) ∣ A := Int.ofNat_dvd_left.mpr (Nat.gcd_dvd_right _ _)
  have e1 : ((Nat.gcd m.natAbs B.natAbs : Nat) : Int) ∣ m := Int.ofNat_dvd_left.mpr (Nat.gcd_dvd_left _ _)
  have e2 : ((Nat.gcd m.natAbs B.natAbs : Nat) : Int) ∣ B := Int.ofNat_dvd_left.mpr (Nat.gcd_dvd_right _ _)
  have c1 : Nat.Coprime (n / ((Nat.gcd n.natAbs A.natAbs : Nat) : Int)).natAbs (A / ((Nat.gcd n.natAbs A.natAbs : Nat) : Int)).natAbs := by
    rw [Int.natAbs_ediv_of_dvd d1, Int.natAbs_ediv_of_dvd d2, Int.natAbs_natCast]
    exact Nat.coprime_div_gcd_div_gcd (by omega)
  have c2 : Nat.Coprime (m / ((Nat.gcd m.natAbs B.natAbs : Nat) : Int)).natAbs (B / ((Nat.gcd m.natAbs B.natAbs : Nat) : Int)).natAbs := by
    rw [Int.natAbs_ediv_of_dvd e1, Int.natAbs_ediv_of_dvd e2, Int.natAbs_natCast]
    exact Nat.coprime_div_gcd_div_gcd (by omega)
  unfold rq
  generalize ((Nat.gcd n.natAbs A.natAbs : Nat) : Int) = g at *
  generalize ((Nat.gcd m.natAbs B.natAbs : Nat) : Int) = k at *
  obtain ⟨n', rfl⟩ := d1
  obtain ⟨A', rfl⟩ := d2
  obtain ⟨m', rfl⟩ := e1
  obtain ⟨B', rfl⟩ := e2
  have q1 : g * n' / g = n' := Int.mul_ediv_cancel_left _ (by omega)
  have q2 : g * A' / g = A' := Int.mul_ediv_cancel_left _ (by omega)
  have q3 : k * m' / k = m' := Int.mul_ediv_cancel_left _ (by omega)
  have q4 : k * B' / k = B' := Int.mul_ediv_cancel_left _ (by omega)
  rw [q1, q2] at c1
  rw [q3, q4] at c2
  rw [q2] at a1
  rw [q4] at b1
  rw [q1, q2, q3, q4, Prod.mk.injEq]
  constructor
  · rintro ⟨rfl, rfl⟩
    grind
  · intro h
    have gk : g * k ≠ 0 := Int.mul_ne_zero (by omega) (by omega)
    have h' : n' * B' = m' * A' := by
      have : (g * k) * (n' * B') = (g * k) * (m' * A') := by grind
      exact Int.eq_of_mul_eq_mul_left gk this
    have hn : n'.natAbs * B'.natAbs = m'.natAbs * A'.natAbs := by rw [← Int.natAbs_mul, h', Int.natAbs_mul]
    have u1 : A'.natAbs ∣ B'.natAbs := (c1.symm).dvd_of_dvd_mul_left (by rw [hn]; exact Nat.dvd_mul_left _ _)
    have u2 : B'.natAbs ∣ A'.natAbs := (c2.symm).dvd_of_dvd_mul_left (by rw [← hn]; exact Nat.dvd_mul_left _ _)
    have u3 := Nat.dvd_antisymm u1 u2
    have u4 : A' = B' := by omega
    subst u4
    exact ⟨Int.eq_of_mul_eq_mul_right (by omega) h', rfl⟩
/-- two points are the same -/
def same (s t : Tri) : Bool := decide (s.1 * t.2.2 = t.1 * s.2.2) && decide (s.2.1 * t.2.2 = t.2.1 * s.2.2)
def fracP (q : Int × Int) : PyData := .tuple [.int q.1, .int q.2]
def redP (t : Tri) : PyData := .tuple [fracP (rq t.1 t.2.2), fracP (rq t.2.1 t.2.2)]
theorem toP_red (st : Sto) (n : Nat) (t : Tri) : toP st (n + 3) (redD t) = some (redP t) := by
  simp [redD, toP, mapO, redP, fracP, rq]
theorem eqv_frac (u w : Int × Int) : PyData.eqv (fracP u) (fracP w) = decide (u = w) := by
  obtain ⟨a, b⟩ := u
  obtain ⟨a', b'⟩ := w
  simp [fracP, PyData.eqv, PyData.eqvAll]
  rw [Bool.eq_iff_iff]
  simp
theorem eqD_red {s t : Tri} (hs : 0 < s.2.2) (ht : 0 < t.2.2) (st : Sto) : eqD st (redD s) (redD t) = some (same s t) := by
  have e1 : toP st DEEP (redD s) = some (redP s) := toP_red st 5 s
  have e2 : toP st DEEP (redD t) = some (redP t) := toP_red st 5 t
  have sh : ∀ t, SeqAt.shaped (redP t) = true := fun t => by
    simp [SeqAt.shaped, redP, fracP, PyData.canLay0, PyData.canLayAll0, PyData.depth, PyData.depthAll]
  simp only [eqD, e1, e2, sh, Bool.and_self, if_true]
  unfold redP
  simp only [PyData.eqv, PyData.eqvAll, eqv_frac, Bool.and_true]
  unfold same
  congr 2
  · rw [decide_eq_decide]
    exact rq_eq hs ht
  · rw [decide_eq_decide]
    exact rq_eq hs ht
end K35
end
section
set_option maxRecDepth 100000
set_option maxHeartbeats 1000000
namespace K35
open PySem L2 MP
/-! ### either way about -/
theorem mx_comm (x y : Int × Int) : mx x y = mx y x := by
  unfold mx
  cases e1 : lt2 x y <;> cases e2 : lt2 y x <;> simp
  · exact le2_antisym (x := x) (y := y) e2 e1
  · rw [lt2_asym e1] at e2; cases e2
theorem mn_comm (x y : Int × Int) : mn x y = mn y x := by
  unfold mn
  cases e1 : lt2 x y <;> cases e2 : lt2 y x <;> simp
  · exact le2_antisym (x := x) (y := y) e2 e1
  · rw [lt2_asym e1] at e2; cases e2
theorem start_comm (a b c d : Int × Int) : start a b c d = start c d a b := mx_comm _ _
theorem stop_comm (a b c d : Int × Int) : stop a b c d = stop c d a b := mn_comm _ _
theorem along_sym {p q : P4} (hp : Pv p) (hq : Pv q) : alongP p q = alongP q p := by
  have key : ∀ {p q : P4}, Pv p → alongP p q = true → alongP q p = true := fun {p q} hp h => by
    have np : ¬(p.1.1 = p.2.1 ∧ p.1.2 = p.2.2) := hp.ne
    unfold alongP along at h ⊢
    simp only [Bool.and_eq_true, decide_eq_true_eq] at h ⊢
    obtain ⟨h1, h2, h3⟩ := h
    have hS1 : (q.2.1 - q.1.1) * (q.1.2 - p.1.2) = (q.2.2 - q.1.2) * (q.1.1 - p.1.1) := par_side (a := p.2.1 - p.1.1) (b := p.2.2 - p.1.2) (by omega) (by omega) (by omega)
    refine ⟨by grind, by grind, ?_⟩
    rw [start_comm, stop_comm]
    exact h3
  cases e : alongP p q with
  | true => exact (key hp e).symm
  | false =>
    cases e2 : alongP q p with
    | true => rw [key hq e2] at e; cases e
    | false => rfl
theorem nc_sym {p q : P4} (hp : Pv p) (hq : Pv q) (h : noCommon p q = false) : noCommon q p = false := by
  rw [geo hp hq, along_sym hp hq, ← geo hq hp]
  exact h
theorem com_comm {p q : P4} (hp : Pv p) (hq : Pv q) (nc : noCommon p q = false) : comP q p = comP p q := by
  have nc' := nc_sym hp hq nc
  by_cases hT : (p.2.1 - p.1.1) * (q.2.2 - q.1.2) - (p.2.2 - p.1.2) * (q.2.1 - q.1.1) = 0
  · rw [par_com hp hq nc hT, par_com hq hp nc' (by grind), start_comm, stop_comm]
  · have hT' : ¬ (q.2.1 - q.1.1) * (p.2.2 - p.1.2) - (q.2.2 - q.1.2) * (p.2.1 - p.1.1) = 0 := by grind
    obtain ⟨T, hTT⟩ : ∃ T, T = (p.2.1 - p.1.1) * (q.2.2 - q.1.2) - (p.2.2 - p.1.2) * (q.2.1 - q.1.1) := ⟨_, rfl⟩
    have hT2 : (q.2.1 - q.1.1) * (p.2.2 - p.1.2) - (q.2.2 - q.1.2) * (p.2.1 - p.1.1) = -T := by grind
    have e1 : comP p q = crossP p.1.1 p.1.2 (p.2.1 - p.1.1) (p.2.2 - p.1.2) (q.2.1 - q.1.1) (q.2.2 - q.1.2) (q.1.1 - p.1.1) (q.1.2 - p.1.2) T := by
      unfold comP
      simp [hT, hTT]
    have T0 : T ≠ 0 := by rw [hTT]; exact hT
    have e2 : comP q p = crossP q.1.1 q.1.2 (q.2.1 - q.1.1) (q.2.2 - q.1.2) (p.2.1 - p.1.1) (p.2.2 - p.1.2) (p.1.1 - q.1.1) (p.1.2 - q.1.2) (-T) := by
      unfold comP
      simp only [hT2]
      rw [if_neg (by omega)]
    rw [e1, e2]
    unfold crossP
    simp only
    obtain ⟨σ, s1, s2, s3, s4⟩ : ∃ σ : Int, (if 0 < T then (1 : Int) else -1) = σ ∧ (if 0 < -T then (1 : Int) else -1) = -σ ∧ (if T < 0 then -T else T) = σ * T ∧ (if -T < 0 then - -T else -T) = σ * T := by
      by_cases c : 0 < T
      · exact ⟨1, by rw [if_pos c], by rw [if_neg (by omega)], by rw [if_neg (by omega)]; omega, by rw [if_pos (by omega)]; omega⟩
      · exact ⟨-1, by rw [if_neg c], by rw [if_pos (by omega)]; rfl, by rw [if_pos (by omega)]; omega, by rw [if_neg (by omega)]; omega⟩
    rw [s1, s3, s2, s4]
    have a1 : ((p.1.1 - q.1.1) * (p.2.2 - p.1.2) - (p.1.2 - q.1.2) * (p.2.1 - p.1.1)) * -σ = ((q.1.1 - p.1.1) * (p.2.2 - p.1.2) - (q.1.2 - p.1.2) * (p.2.1 - p.1.1)) * σ := by grind
    have a2 : ((p.1.1 - q.1.1) * (q.2.2 - q.1.2) - (p.1.2 - q.1.2) * (q.2.1 - q.1.1)) * -σ = ((q.1.1 - p.1.1) * (q.2.2 - q.1.2) - (q.1.2 - p.1.2) * (q.2.1 - q.1.1)) * σ := by grind
    rw [a1, a2]
    have b1 : q.1.1 * (σ * T) + (q.2.1 - q.1.1) * (((q.1.1 - p.1.1) * (p.2.2 - p.1.2) - (q.1.2 - p.1.2) * (p.2.1 - p.1.1)) * σ) = p.1.1 * (σ * T) + (p.2.1 - p.1.1) * (((q.1.1 - p.1.1) * (q.2.2 - q.1.2) - (q.1.2 - p.1.2) * (q.2.1 - q.1.1)) * σ) := by rw [hTT]; grind
    have b2 : q.1.2 * (σ * T) + (q.2.2 - q.1.2) * (((q.1.1 - p.1.1) * (p.2.2 - p.1.2) - (q.1.2 - p.1.2) * (p.2.1 - p.1.1)) * σ) = p.1.2 * (σ * T) + (p.2.2 - p.1.2) * (((q.1.1 - p.1.1) * (q.2.2 - q.1.2) - (q.1.2 - p.1.2) * (q.2.1 - q.1.1)) * σ) := by rw [hTT]; grind
    rw [b1, b2]
    generalize ((q.1.1 - p.1.1) * (p.2.2 - p.1.2) - (q.1.2 - p.1.2) * (p.2.1 - p.1.1)) * σ = u
    generalize ((q.1.1 - p.1.1) * (q.2.2 - q.1.2) - (q.1.2 - p.1.2) * (q.2.1 - q.1.1)) * σ = t
    generalize σ * T = A
    have hc : (decide (u < 0) || (decide (A < u) || (decide (t < 0) || decide (A < t)))) = (decide (t < 0) || (decide (A < t) || (decide (u < 0) || decide (A < u)))) := by
      cases decide (u < 0) <;> cases decide (A < u) <;> cases decide (t < 0) <;> cases decide (A < t) <;> rfl
    rw [hc]
/-- the piece at an index -/
def gP (gs : List P4) (i : Int) : P4 := gs.getD i.toNat ((0, 0), (0, 0))
theorem gP_at {gs : List P4} {i : Int} (h0 : 0 ≤ i) (h1 : i < gs.length) : gs[i.toNat]? = some (gP gs i) := by
  have : i.toNat < gs.length := by omega
  rw [List.getElem?_eq_getElem this]
  unfold gP
  simp [this]
end K35
end
section
set_option maxRecDepth 100000
set_option maxHeartbeats 1000000
namespace K35
open PySem L2 MP
theorem ixk_eq {st : Sto} {n k : Nat} {ro : Bool} {l : List D} {x : D} (h : st[n]? = some (.lst ro l)) (hx : l[k]? = some x) : fIx (.obj n) (.int k) st = okD x st := by
  have hk := lt_of_get hx
  have e : L2.atI l (k : Int) = some x := by
    unfold L2.atI L2.ixN
    rw [if_pos (Int.natCast_nonneg k), if_pos (by omega)]
    simpa using hx
  simp only [fIx, h, e]
theorem evA1 {da : De} {ls : Ls} {st st1 : Sto} {x : D} (h : da ls st = okD x st1) : evA [da] ls st = some (.ok [x], st1) := by
  unfold evA
  rw [h]
  rfl
theorem evA2 {da db : De} {ls : Ls} {st st1 st2 : Sto} {x y : D} (h : da ls st = okD x st1) (h2 : db ls st1 = okD y st2) : evA [da, db] ls st = some (.ok [x, y], st2) := by
  unfold evA
  rw [h]
  simp only [okD]
  rw [evA1 h2]
theorem evA3 {da db dc : De} {ls : Ls} {st st1 st2 st3 : Sto} {x y z : D} (h : da ls st = okD x st1) (h2 : db ls st1 = okD y st2) (h3 : dc ls st2 = okD z st3) : evA [da, db, dc] ls st = some (.ok [x, y, z], st3) := by
  unfold evA
  rw [h]
  simp only [okD]
  rw [evA2 h2 h3]
theorem tup2_eq' {da db : De} {ls : Ls} {st st1 st2 : Sto} {x y : D} (ha : da ls st = okD x st1) (hb : db ls st1 = okD y st2) : dApp fTup [da, db] ls st = okD (.tup [x, y]) st2 := (appE (evA2 ha hb)).trans rfl
theorem if_no {dc : De} {d1 : Ds} {ls : Ls} {st st1 : Sto} (h : dc ls st = okD (.bl false) st1) : dIfS dc d1 dNext ls st = some (.next, ls, st1) := (dIf_false h).trans rfl
theorem un_eq {f : D → Sto → Rt} {da : De} {ls : Ls} {st st1 : Sto} {x : D} (h : da ls st = okD x st1) : dUn f da ls st = f x st1 := by
  unfold dUn
  rw [h]
  rfl
theorem filt_all {α : Type} (l : List α) : (l.filter fun _ => true) = l := List.filter_eq_self.mpr fun _ _ => rfl
/-! ### in a row of cells, in a list of numbers -/
theorem eqv_c (c d : MG.C) : PyData.eqv (cP c) (cP d) = decide (c = d) := by
  obtain ⟨a, b⟩ := c
  obtain ⟨a', b'⟩ := d
  simp [cP, PyData.eqv, PyData.eqvAll]
  rw [Bool.eq_iff_iff]
  simp
theorem any_c (c : MG.C) (l : List MG.C) : ((l.map cP).any fun z => PyData.eqv z (cP c)) = decide (c ∈ l) := by
  rw [List.any_map, Bool.eq_iff_iff]
  simp only [List.any_eq_true, Function.comp, eqv_c, decide_eq_true_eq]
  constructor
  · rintro ⟨x, hx, rfl⟩
    exact hx
  · intro h
    exact ⟨c, h, rfl⟩
theorem sh_c (c : MG.C) : SeqAt.shaped (cP c) = true := by
  unfold SeqAt.shaped
  simp [cP, PyData.canLay0, PyData.canLayAll0, PyData.depth, PyData.depthAll]
theorem sh_cs (l : List MG.C) : SeqAt.shaped (csP l) = true := by
  have := dep_cs l
  unfold SeqAt.shaped csP
  simp [PyData.canLay0, lay_cs, PyData.depth]
  omega
theorem in_cs (c : MG.C) (l : List MG.C) (st : Sto) : fInG (cD c) (csD l) st = okD (.bl (decide (c ∈ l))) st := by
  have e1 : toP st DEEP (cD c) = some (cP c) := by
    show toP st 8 (cD c) = _
    simp [toP, mapO, cP]
  have e2 : toP st DEEP (csD l) = some (csP l) := toP_csD st 5 l
  have e3 : inVT st (cD c) (csD l) = some (decide (c ∈ l)) := by
    unfold inVT
    rw [e1, e2]
    unfold csP
    simp only
    rw [show PyData.tuple (l.map cP) = csP l from rfl, sh_c, sh_cs, any_c]
    rfl
  unfold fInG inG
  simp only [dctAt]
  rw [e3]
theorem any_i (i : Int) (l : List Int) : ((l.map PyData.int).any fun z => PyData.eqv z (PyData.int i)) = decide (i ∈ l) := by
  rw [List.any_map, Bool.eq_iff_iff]
  simp only [List.any_eq_true, Function.comp, decide_eq_true_eq]
  constructor
  · rintro ⟨x, hx, e⟩
    have : x = i := by simpa [PyData.eqv] using e
    rw [← this]
    exact hx
  · intro h
    exact ⟨i, h, by simp [PyData.eqv]⟩
theorem in_ints {st : Sto} {n : Nat} {ro : Bool} {l : List Int} {i : Int} (h : st[n]? = some (.lst ro (l.map .int))) : fInG (.int i) (.obj n) st = okD (.bl (decide (i ∈ l))) st := by
  have e1 : toP st DEEP (.int i) = some (.int i) := rfl
  have e2 : toP st DEEP (.obj n) = some (.list (l.map .int)) := by
    show toP st 8 (.obj n) = _
    simp only [toP, h, toP_ints st 6 l]
  have s1 : SeqAt.shaped (.int i) = true := by simp [SeqAt.shaped, PyData.canLay0, PyData.depth]
  have s2 : SeqAt.shaped (.list (l.map .int)) = true := by simp [SeqAt.shaped, PyData.canLay0, lay_ints, PyData.depth, dep_ints]
  have e3 : MP.inV st (.int i) (.obj n) = some (decide (i ∈ l)) := by
    unfold MP.inV
    rw [e1, e2]
    simp only
    rw [s1, s2, any_i]
    rfl
  unfold fInG inG
  simp only [dctAt, h]
  rw [e3]
theorem range2_it {das : List De} {ls : Ls} {st st1 : Sto} {a b : Int} (h : evA das ls st = some (.ok [.int a, .int b], st1)) (h1 : 0 ≤ a ∧ a ≤ 1000) (h2 : 0 ≤ b ∧ b ≤ 1000) : dAppI fRange das ls st = some (.it ((rgI a b).map .int) .no, st1) := by
  unfold dAppI
  rw [h]
  unfold fRange
  simp only [range_small h1.1 h1.2, range_small h2.1 h2.2, Bool.and_self, if_true, rgD_map]
theorem range1_it {das : List De} {ls : Ls} {st st1 : Sto} {b : Int} (h : evA das ls st = some (.ok [.int b], st1)) (h2 : 0 ≤ b ∧ b ≤ 1000) : dAppI fRange das ls st = some (.it ((rgI 0 b).map .int) .no, st1) := by
  rw [range_it h h2.1 h2.2, ← rgD_map, show (b - 0).toNat = b.toNat by omega]
theorem forD_next {gd : Gd} {t : Tg} {db : Ds} {x : D} {xs : List D} {ls ls1 ls2 : Ls} {st st1 : Sto} (hg : gdB gd st = true) (ha : asg t x ls = some ls1) (e : db ls1 st = some (.next, ls2, st1)) : forD gd t db (x :: xs) ls st = forD gd t db xs ls2 st1 := by
  rw [forD, if_pos hg, ha]
  simp only [e]

/-! ### a comprehension that makes lists -/
theorem comp_objs {α : Type} {gd : Gd} {t : Tg} {de : De} {k : Nat} {lsw : Ls} {f : α → D} {F : α → List D} {B : Sto} (hk : k < B.length) (hg : ∀ st, GrN k B st → gdB gd st = true) :
    ∀ (xs : List α) (st : Sto) (ns : List Nat) (ys : List α), GrN k B st → st[k]? = some (.lst false (ns.map .obj)) → ns.length + xs.length ≤ LINE → ns.length = ys.length → (∀ (i n : Nat) y, ys[i]? = some y → ns[i]? = some n → n ≠ k ∧ B.length ≤ n ∧ st[n]? = some (Cell.lst false (F y))) →
    (∀ x ∈ xs, ∀ st, GrN k B st → ∃ ls1 n st1, asg t (f x) lsw = some ls1 ∧ de ls1 st = okD (.obj n) st1 ∧ st.length ≤ n ∧ st1[n]? = some (Cell.lst false (F x)) ∧ Gr st st1) →
    ∃ (ms : List Nat) (st' : Sto), compD gd t dYes de k lsw (xs.map f) st = okD (.obj k) st' ∧ st'[k]? = some (.lst false (ms.map .obj)) ∧ ms.length = (ys ++ xs).length ∧ (∀ (i n : Nat) y, (ys ++ xs)[i]? = some y → ms[i]? = some n → n ≠ k ∧ B.length ≤ n ∧ st'[n]? = some (Cell.lst false (F y))) ∧ GrN k st st' := by
  intro xs
  induction xs with
  | nil =>
    intro st ns ys s h3 _ hl hv _
    exact ⟨ns, st, by simp [compD, hg st s], h3, by simpa using hl, by simpa using hv, .refl st⟩
  | cons x xs ih =>
    intro st ns ys s h3 hl hlen hv hx
    obtain ⟨ls1, n, st1, a1, e1, hn, g1, r1⟩ := hx x List.mem_cons_self st s
    have hkl := lt_of_get h3
    have h3' := r1.at h3
    have s1 := s.trans (r1.n k)
    have hl' : (ns.map D.obj).length < LINE := by simp at hl ⊢; omega
    have sS : GrN k st1 (st1.set k (.lst false ((ns ++ [n]).map .obj))) := .set
    have nk : n ≠ k := by omega
    obtain ⟨ms, st', e, g, ml, mv, s'⟩ := ih (st1.set k (.lst false ((ns ++ [n]).map .obj))) (ns ++ [n]) (ys ++ [x]) (s1.trans sS) (List.getElem?_set_self (lt_of_get h3')) (by simp at hl ⊢; omega) (by simp [hlen]) (fun i m y hy hm => by
      by_cases hi : i < ys.length
      · rw [List.getElem?_append_left hi] at hy
        rw [List.getElem?_append_left (by omega)] at hm
        obtain ⟨a, b, c⟩ := hv i m y hy hm
        exact ⟨a, b, sS.at (r1.at c) a⟩
      · have hlt := lt_of_get hy
        simp at hlt
        have : i = ys.length := by omega
        subst this
        simp at hy
        rw [← hlen] at hm
        simp at hm
        subst hy
        subst hm
        exact ⟨nk, Nat.le_trans s.len hn, sS.at g1 nk⟩) (fun y hy => hx y (List.mem_cons_of_mem _ hy))
    refine ⟨ms, st', ?_, g, by simpa using ml, by simpa using mv, (r1.n k).trans (sS.trans s')⟩
    rw [List.map_cons, compD, if_pos (hg st s), a1]
    simp only [dYes, okD, bindO]
    rw [e1]
    simp only [okD, bindO, h3', if_pos hl']
    rw [show ns.map D.obj ++ [D.obj n] = (ns ++ [n]).map D.obj by simp]
    exact e
theorem lc_objs {α : Type} {di : Di} {gd : Gd} {t : Tg} {de : De} {vs : List Nat} {ls : Ls} {st B : Sto} {f : α → D} {F : α → List D} {xs : List α}
    (hi : di ls st = some (.it (xs.map f) gd, B)) (hg : ∀ st, Gr B st → gdB gd st = true) (hl : xs.length ≤ LINE)
    (hx : ∀ x ∈ xs, ∀ st, Gr B st → ∃ ls1 n st1, asg t (f x) (wipeL ls vs) = some ls1 ∧ de ls1 st = okD (.obj n) st1 ∧ st.length ≤ n ∧ st1[n]? = some (Cell.lst false (F x)) ∧ Gr st st1) :
    ∃ (ms : List Nat) (st' : Sto), dLc di t dYes de vs ls st = okD (.obj B.length) st' ∧ st'[B.length]? = some (.lst false (ms.map .obj)) ∧ ms.length = xs.length ∧ (∀ (i n : Nat) y, xs[i]? = some y → ms[i]? = some n → B.length < n ∧ st'[n]? = some (Cell.lst false (F y))) ∧ Gr B st' := by
  have up : ∀ st, GrN B.length (B ++ [Cell.lst false []]) st → Gr B st := fun st s => (Gr.push.n B.length |>.trans s).gr (Nat.le_refl _)
  obtain ⟨ms, st', e, k, ml, mv, s⟩ := comp_objs (B := B ++ [Cell.lst false []]) (k := B.length) (by simp) (fun st s => hg st (up st s)) xs (B ++ [.lst false []]) [] [] (.refl _) get_push (by simpa using hl) rfl (fun i n y hy => by simp at hy) (fun x h st s => hx x h st (up st s))
  refine ⟨ms, st', ?_, k, by simpa using ml, fun i n y hy hn => ?_, up st' s⟩
  · unfold dLc
    rw [hi]
    exact e
  · obtain ⟨a, b, c⟩ := mv i n y (by simpa using hy) hn
    simp at b
    exact ⟨by omega, c⟩
/-! ### the points of a piece -/
def cm (gs : List P4) (k j : Int) : List Tri := comP (gP gs (lo j k)) (gP gs (hi j k))
def oth (gs : List P4) (k : Int) : List Int := (rgI 0 gs.length).filter fun j => decide (j ≠ k)
def LT (gs : List P4) (k : Int) : List Tri := [((gP gs k).1.1, (gP gs k).1.2, 1), ((gP gs k).2.1, (gP gs k).2.2, 1)] ++ (oth gs k).flatMap (cm gs k)
def mD : List Tri → D
  | t :: _ => redD t
  | [] => .non
theorem lo_hi {a b : Int} (h : a < b) : lo a b = a ∧ hi a b = b ∧ lo b a = a ∧ hi b a = b := by
  unfold lo hi
  refine ⟨?_, ?_, ?_, ?_⟩ <;> split <;> omega
theorem cm_eq {gs : List P4} {k j : Int} (g : Good gs) (k0 : 0 ≤ k) (k1 : k < gs.length) (j0 : 0 ≤ j) (j1 : j < gs.length) (hjk : j ≠ k) : comP (gP gs k) (gP gs j) = cm gs k j ∧ noCommon (gP gs k) (gP gs j) = false := by
  have pk := gP_at k0 k1
  have pj := gP_at j0 j1
  have vk := g.pv _ (List.mem_of_getElem? pk)
  have vj := g.pv _ (List.mem_of_getElem? pj)
  unfold cm
  rcases Int.lt_or_lt_of_ne hjk with c | c
  · have nc := g.nc pj pk (by omega)
    obtain ⟨a, b, _, _⟩ := lo_hi c
    rw [a, b]
    exact ⟨com_comm vj vk nc, nc_sym vj vk nc⟩
  · have nc := g.nc pk pj (by omega)
    obtain ⟨_, _, a, b⟩ := lo_hi c
    rw [a, b]
    exact ⟨rfl, nc⟩
theorem oth_mem {gs : List P4} {k j : Int} : j ∈ oth gs k ↔ (0 ≤ j ∧ j < gs.length) ∧ j ≠ k := by
  unfold oth
  rw [List.mem_filter, rgI_mem]
  simp
theorem cm_len {gs : List P4} {k j : Int} (g : Good gs) (k0 : 0 ≤ k) (k1 : k < gs.length) (hj : j ∈ oth gs k) : (cm gs k j).length ≤ 1 := by
  obtain ⟨⟨j0, j1⟩, hne⟩ := oth_mem.mp hj
  obtain ⟨a, b⟩ := cm_eq g k0 k1 j0 j1 hne
  rw [← a]
  exact comP_len _ _ b
def pjD (gs : List P4) (k j : Int) : D := .tup [.int j, mD (cm gs k j)]
theorem ni_eq {st : Sto} (a b : Int) : fNe (.int a) (.int b) st = okD (.bl (decide (a ≠ b))) st := by
  by_cases h : a = b
  · simp [fNe, eqD1, h]
  · have e : (a == b) = false := beq_eq_false_iff_ne.mpr h
    simp [fNe, eqD1, h, e]
theorem cm_red {gs : List P4} {k : Int} (g : Good gs) (k0 : 0 ≤ k) (k1 : k < gs.length) : ∀ l : List Int, (∀ j ∈ l, j ∈ oth gs k) → ((l.filter fun j => !(cm gs k j).isEmpty).map fun j => mD (cm gs k j)) = (l.flatMap (cm gs k)).map redD
  | [], _ => rfl
  | j :: l, h => by
    have ih := cm_red g k0 k1 l fun x hx => h x (List.mem_cons_of_mem _ hx)
    have hlen := cm_len g k0 k1 (h j List.mem_cons_self)
    rw [List.flatMap_cons, List.map_append, List.filter_cons]
    match hC : cm gs k j, hlen with
    | [], _ =>
      rw [if_neg (by simp), ih]
      rfl
    | [t], _ =>
      rw [if_pos (by simp), List.map_cons, ih, hC]
      rfl
theorem forD_ret {gd : Gd} {t : Tg} {db : Ds} {x d : D} {xs : List D} {ls ls1 ls2 : Ls} {st st1 : Sto} (hg : gdB gd st = true) (ha : asg t x ls = some ls1) (e : db ls1 st = some (.ret d, ls2, st1)) : forD gd t db (x :: xs) ls st = some (.ret d, ls2, st1) := by
  rw [forD, if_pos hg, ha]
  simp only [e]
theorem ix3 (s : Tri) (st : Sto) : fIx (triD s) (.int 0) st = okD (.int s.1) st ∧ fIx (triD s) (.int 1) st = okD (.int s.2.1) st ∧ fIx (triD s) (.int 2) st = okD (.int s.2.2) st := ⟨rfl, rfl, rfl⟩
theorem mul_eq {da db : De} {ls : Ls} {st : Sto} {i j : Int} (h : da ls st = okD (.int i) st) (h2 : db ls st = okD (.int j) st) (hm : mulOk i j = true) : dBin fMul da db ls st = okD (.int (i * j)) st := by
  refine (bin_eq h h2).trans ?_
  simp only [fMul, hm, if_true]
theorem ixP {gs : List P4} {i : Int} (i0 : 0 ≤ i) (i1 : i < gs.length) (st : Sto) : fIx (.tup (gs.map pd)) (.int i) st = okD (pd (gP gs i)) st := ix_eq (i := i) (n := i.toNat) (by omega) (gP_at i0 i1) st
theorem lenT {ls : Ls} {st : Sto} {gs : List P4} (h : dVar 0 ls st = okD (.tup (gs.map pd)) st) : dApp fLen [(dVar 0)] ls st = okD (.int (gs.length : Nat)) st := by
  refine (app1_eq h).trans ?_
  simp [fLen]
theorem sl_l {ls : Ls} {st : Sto} {de : De} {x y z w : Int} (h : de ls st = okD (pcD x y z w) st) : dSl de none (some (dC (.int 2))) ls st = okD (.tup [.int x, .int y]) st := by
  unfold dSl
  rw [h]
  simp [okD, bindR, evO, dC, fSl, cut_l]
theorem sl_r {ls : Ls} {st : Sto} {de : De} {x y z w : Int} (h : de ls st = okD (pcD x y z w) st) : dSl de (some (dC (.int 2))) none ls st = okD (.tup [.int z, .int w]) st := by
  unfold dSl
  rw [h]
  simp [okD, bindR, evO, dC, fSl, cut_r]
end K35
end
section
set_option maxRecDepth 100000
set_option maxHeartbeats 1000000
namespace K35
open PySem L2 MP
/-! ### dicts of lists, dicts of tuples: with what is in them -/
theorem uniq_of {α β : Type} {f : α → β} : ∀ {L : List α}, (L.map f).Nodup → ∀ {x y : α}, x ∈ L → y ∈ L → f x = f y → x = y
  | [], _, _, _, h, _, _ => by cases h
  | a :: L, nd, x, y, hx, hy, e => by
    rw [List.map_cons] at nd
    obtain ⟨n1, n2⟩ := List.nodup_cons.mp nd
    rcases List.mem_cons.mp hx with h1 | h1 <;> rcases List.mem_cons.mp hy with h2 | h2
    · rw [h1, h2]
    · exact absurd (by rw [← h1, e]; exact List.mem_map_of_mem h2) n1
    · exact absurd (by rw [← h2, ← e]; exact List.mem_map_of_mem h1) n1
    · exact uniq_of n2 h1 h2 e
structure KeyF {κ : Type} [DecidableEq κ] (kd : κ → D) : Prop where
  ok : ∀ e, okTop (kd e) = true
  beq : ∀ a b, beqD (kd a) (kd b) = decide (a = b)
section
variable {κ : Type} [DecidableEq κ] {kd : κ → D}
theorem look_gen {α : Type} {p : α → κ} {F : α → D} (hk : KeyF kd) (e : κ) : ∀ L : List α, lookD (L.map fun y => (kd (p y), F y)) (kd e) = (L.find? fun y => decide (p y = e)).map F
  | [] => rfl
  | y :: L => by
    rw [List.map_cons, lookD, hk.beq, List.find?_cons]
    by_cases h : p y = e
    · simp [h]
    · simp [h, look_gen hk e L]
def addV (K : List (κ × List D)) (e : κ) (v : D) : List (κ × List D) := if e ∈ K.map (·.1) then K.map (fun x => if x.1 = e then (x.1, x.2 ++ [v]) else x) else K ++ [(e, [v])]
theorem addV_keys (K : List (κ × List D)) (e : κ) (v : D) : (addV K e v).map (·.1) = if e ∈ K.map (·.1) then K.map (·.1) else K.map (·.1) ++ [e] := by
  unfold addV
  split
  · rw [List.map_map]
    refine List.map_congr_left fun x _ => ?_
    simp only [Function.comp]
    split <;> rfl
  · simp
theorem addV_nd {K : List (κ × List D)} {e : κ} {v : D} (nd : (K.map (·.1)).Nodup) : ((addV K e v).map (·.1)).Nodup := by
  rw [addV_keys]
  split
  · exact nd
  · rename_i h
    rw [List.nodup_append]
    refine ⟨nd, by simp, fun a ha b hb z => ?_⟩
    simp at hb
    subst hb
    subst z
    exact h ha
theorem addV_len {K : List (κ × List D)} {e : κ} {v : D} {b : Nat} (hl : K.length ≤ b) (hv : ∀ x ∈ K, x.2.length ≤ b) : (addV K e v).length ≤ b + 1 ∧ ∀ x ∈ addV K e v, x.2.length ≤ b + 1 := by
  unfold addV
  split
  · refine ⟨by rw [List.length_map]; omega, fun x hx => ?_⟩
    obtain ⟨y, hy, rfl⟩ := List.mem_map.mp hx
    have := hv y hy
    split
    · simp; omega
    · omega
  · refine ⟨by simp; omega, fun x hx => ?_⟩
    rcases List.mem_append.mp hx with hx | hx
    · have := hv x hx; omega
    · simp at hx
      subst hx
      simp
/-- the program's dict of lists -/
structure VI (kd : κ → D) (B : Sto) (kD : Nat) (K : List (κ × List D)) (st : Sto) : Prop where
  gr : GrN kD B st
  kB : kD < B.length
  ex : ∃ L : List ((κ × List D) × Nat), L.map (·.1) = K ∧ (L.map (·.2)).Nodup ∧ (∀ y ∈ L, B.length ≤ y.2 ∧ st[y.2]? = some (Cell.lst false y.1.2)) ∧ st[kD]? = some (Cell.dct (L.map fun y => (kd y.1.1, .obj y.2)))
theorem vstep {B : Sto} {kD : Nat} {K : List (κ × List D)} {st : Sto} {e : κ} {v : D} {da dk dv : De} {ls : Ls} (hk : KeyF kd) (h : VI kd B kD K st) (nd : (K.map (·.1)).Nodup) (hl : K.length ≤ 1000) (hv : ∀ x ∈ K, x.2.length ≤ 1000)
    (ea : da ls st = okD (.obj kD) st) (ek : dk ls st = okD (kd e) st) (ev : ∀ st, dv ls st = okD v st) :
    ∃ st', dExpr (dMeth "list" fAppend (dMethD fSetDef da [dk, dApp fLst []]) [dv]) ls st = some (.next, ls, st') ∧ VI kd B kD (addV K e v) st' := by
  obtain ⟨L, hL, nm, hy, hd⟩ := h.ex
  have hkD := lt_of_get hd
  have e1 : (st ++ [Cell.lst false []])[kD]? = some (Cell.dct (L.map fun y => (kd y.1.1, .obj y.2))) := by rw [List.getElem?_append_left hkD]; exact hd
  have hLl : L.length = K.length := by rw [← hL, List.length_map]
  have hps : (L.map fun y => (kd y.1.1, D.obj y.2)).length < LINE := by
    rw [List.length_map]
    simp [LINE]
    omega
  have evk : evA [dk, dApp fLst []] ls st = some (.ok [kd e, .obj st.length], st ++ [Cell.lst false []]) := evA2 ek rfl
  have hlk := look_gen (p := fun y : (κ × List D) × Nat => y.1.1) (F := fun y => D.obj y.2) hk e L
  have go : dMethD fSetDef da [dk, dApp fLst []] ls st = fSetDef (.obj kD) [kd e, .obj st.length] (st ++ [Cell.lst false []]) := by
    unfold dMethD
    rw [ea]
    simp only [okD, bindR, methDK, dctAt, hd]
    exact appE evk
  cases hf : L.find? fun y => decide (y.1.1 = e) with
  | some y0 =>
    have hy0 := List.mem_of_find?_eq_some hf
    have he0 : y0.1.1 = e := by simpa using List.find?_some hf
    rw [hf] at hlk
    simp only [Option.map_some] at hlk
    obtain ⟨b0, c0⟩ := hy y0 hy0
    have hm := lt_of_get c0
    have c0' : (st ++ [Cell.lst false []])[y0.2]? = some (Cell.lst false y0.1.2) := by rw [List.getElem?_append_left hm]; exact c0
    have hvl : y0.1.2.length < LINE := by
      have := hv y0.1 (by rw [← hL]; exact List.mem_map_of_mem hy0)
      simp [LINE]
      omega
    have hin : e ∈ K.map (·.1) := by
      rw [← he0, ← hL, List.map_map]
      exact List.mem_map_of_mem (f := fun y : (κ × List D) × Nat => y.1.1) hy0
    have ndL : (L.map fun y => y.1.1).Nodup := by
      rw [← hL, List.map_map] at nd
      exact nd
    refine ⟨(st ++ [Cell.lst false []]).set y0.2 (Cell.lst false (y0.1.2 ++ [v])), ?_, ?_⟩
    · have e2 : dMethD fSetDef da [dk, dApp fLst []] ls st = okD (.obj y0.2) (st ++ [Cell.lst false []]) := by
        rw [go]
        simp only [fSetDef, e1, hk.ok, if_true, hlk]
      unfold dExpr dMeth
      rw [e2]
      have ty : isTy "list" (.obj y0.2) (st ++ [Cell.lst false []]) = true := by simp [isTy, c0']
      simp only [okD, bindR, ty, if_true]
      rw [app1_eq (ev _)]
      simp only [fAppend, c0', if_pos hvl, bindS]
    · refine ⟨(h.gr.trans (Gr.push.n kD)).set_new b0, h.kB, L.map (fun y => if y.1.1 = e then ((y.1.1, y.1.2 ++ [v]), y.2) else y), ?_, ?_, fun y' hy' => ?_, ?_⟩
      · unfold addV
        rw [if_pos hin, ← hL, List.map_map, List.map_map]
        refine List.map_congr_left fun y _ => ?_
        simp only [Function.comp]
        split <;> rfl
      · rw [List.map_map]
        have : (((fun y : (κ × List D) × Nat => y.2) ∘ fun y => if y.1.1 = e then ((y.1.1, y.1.2 ++ [v]), y.2) else y)) = fun y : (κ × List D) × Nat => y.2 := by
          funext y
          simp only [Function.comp]
          split <;> rfl
        rw [this]
        exact nm
      · obtain ⟨y, hyL, rfl⟩ := List.mem_map.mp hy'
        by_cases hc : y.1.1 = e
        · have : y = y0 := uniq_of ndL hyL hy0 (hc.trans he0.symm)
          subst this
          rw [if_pos hc]
          exact ⟨b0, List.getElem?_set_self (by simp; omega)⟩
        · rw [if_neg hc]
          obtain ⟨b1, c1⟩ := hy y hyL
          refine ⟨b1, ?_⟩
          have hne : y0.2 ≠ y.2 := fun z => hc (by
            have := uniq_of nm hy0 hyL z
            rw [← this]
            exact he0)
          rw [List.getElem?_set_ne hne, List.getElem?_append_left (lt_of_get c1)]
          exact c1
      · have hne : y0.2 ≠ kD := by have := h.kB; omega
        rw [List.getElem?_set_ne hne, e1, List.map_map]
        congr 2
        refine List.map_congr_left fun y _ => ?_
        simp only [Function.comp]
        split <;> rfl
  | none =>
    rw [hf] at hlk
    simp only [Option.map_none] at hlk
    have hin : e ∉ K.map (·.1) := fun z => by
      rw [← hL, List.map_map] at z
      obtain ⟨y, hyL, he⟩ := List.mem_map.mp z
      have := List.find?_eq_none.mp hf y hyL
      simp at this
      exact this he
    have pp : putP (L.map fun y => (kd y.1.1, D.obj y.2)) (kd e) (.obj st.length) = (L ++ [((e, [v]), st.length)]).map fun y => (kd y.1.1, D.obj y.2) := by
      unfold putP
      rw [hlk, List.map_append]
      rfl
    have hne : st.length ≠ kD := by omega
    have e3 : ((st ++ [Cell.lst false []]).set kD (Cell.dct ((L ++ [((e, [v]), st.length)]).map fun y => (kd y.1.1, D.obj y.2))))[st.length]? = some (Cell.lst false []) := by
      rw [List.getElem?_set_ne (Ne.symm hne)]
      exact get_push
    refine ⟨((st ++ [Cell.lst false []]).set kD (Cell.dct ((L ++ [((e, [v]), st.length)]).map fun y => (kd y.1.1, D.obj y.2)))).set st.length (Cell.lst false ([] ++ [v])), ?_, ?_⟩
    · have e2 : dMethD fSetDef da [dk, dApp fLst []] ls st = okD (.obj st.length) ((st ++ [Cell.lst false []]).set kD (Cell.dct ((L ++ [((e, [v]), st.length)]).map fun y => (kd y.1.1, D.obj y.2)))) := by
        rw [go]
        simp only [fSetDef, e1, hk.ok, if_true, hlk, if_pos hps, okD, pp]
      unfold dExpr dMeth
      rw [e2]
      have ty : isTy "list" (.obj st.length) ((st ++ [Cell.lst false []]).set kD (Cell.dct ((L ++ [((e, [v]), st.length)]).map fun y => (kd y.1.1, D.obj y.2)))) = true := by simp only [isTy, e3]; rfl
      simp only [okD, bindR, ty, if_true]
      rw [app1_eq (ev _)]
      have l0 : ([] : List D).length < LINE := by simp [LINE]
      simp only [fAppend, e3, if_pos l0, bindS]
    · have g0 : GrN kD B st := h.gr
      refine ⟨((g0.trans (Gr.push.n kD)).trans .set).set_new g0.len, h.kB, L ++ [((e, [v]), st.length)], ?_, ?_, fun y hyL => ?_, ?_⟩
      · unfold addV
        rw [if_neg hin, List.map_append, hL]
        rfl
      · rw [List.map_append, List.nodup_append]
        refine ⟨nm, by simp, fun a ha b hb z => ?_⟩
        simp at hb
        subst hb
        subst z
        obtain ⟨y, hyL, hy2⟩ := List.mem_map.mp ha
        have := lt_of_get (hy y hyL).2
        omega
      · rcases List.mem_append.mp hyL with hyL | hyL
        · obtain ⟨b1, c1⟩ := hy y hyL
          have hlt := lt_of_get c1
          have := h.kB
          refine ⟨b1, ?_⟩
          rw [List.getElem?_set_ne (by omega), List.getElem?_set_ne (by omega), List.getElem?_append_left hlt]
          exact c1
        · simp at hyL
          subst hyL
          exact ⟨g0.len, List.getElem?_set_self (by simp)⟩
      · rw [List.getElem?_set_ne hne, List.getElem?_set_self (by simp; omega)]
/-! the law's dict of tuples -/
def lawP (kd : κ → D) (K : List (κ × List D)) : List (D × D) := K.map fun x => (kd x.1, .tup x.2)
theorem lvstep {kD : Nat} {K : List (κ × List D)} {st : Sto} {e : κ} {v : D} {da dk dv : De} {ls : Ls} (hk : KeyF kd) (hd : st[kD]? = some (Cell.dct (lawP kd K))) (hl : K.length ≤ 1000) (hv : ∀ x ∈ K, x.2.length ≤ 1000)
    (nd : (K.map (·.1)).Nodup) (ea : da ls st = okD (.obj kD) st) (ek : dk ls st = okD (kd e) st) (ev : dv ls st = okD v st) :
    dSetIxG (dBin fAdd (dMethD fGet2 da [dk, dApp fTup []]) (dApp fTup [dv])) da dk ls st = some (.next, ls, st.set kD (.dct (lawP kd (addV K e v)))) := by
  have hlk := look_gen (p := fun y : κ × List D => y.1) (F := fun y => D.tup y.2) hk e K
  have go : dMethD fGet2 da [dk, dApp fTup []] ls st = fGet2 (.obj kD) [kd e, .tup []] st := by
    unfold dMethD
    rw [ea]
    simp only [okD, bindR, methDK, dctAt, hd]
    exact appE (evA2 ek rfl)
  have hps : (lawP kd K).length < LINE := by
    unfold lawP
    rw [List.length_map]
    simp [LINE]
    omega
  obtain ⟨l0, e0, hl0, hput⟩ : ∃ l0 : List D, dMethD fGet2 da [dk, dApp fTup []] ls st = okD (.tup l0) st ∧ l0.length ≤ 1000 ∧ putP (lawP kd K) (kd e) (.tup (l0 ++ [v])) = lawP kd (addV K e v) := by
    cases hf : K.find? fun y => decide (y.1 = e) with
    | some y0 =>
      have hy0 := List.mem_of_find?_eq_some hf
      have he0 : y0.1 = e := by simpa using List.find?_some hf
      rw [hf] at hlk
      simp only [Option.map_some] at hlk
      refine ⟨y0.2, ?_, hv y0 hy0, ?_⟩
      · rw [go]
        simp only [fGet2, hd, hk.ok, if_true]
        unfold lawP
        simp only [hlk]
      · unfold putP addV
        have hin : e ∈ K.map (·.1) := by rw [← he0]; exact List.mem_map_of_mem (f := fun y : κ × List D => y.1) hy0
        rw [if_pos hin]
        unfold lawP
        rw [hlk, if_pos (by simp), List.map_map, List.map_map]
        refine List.map_congr_left fun y hy => ?_
        simp only [Function.comp, hk.beq]
        by_cases hc : y.1 = e
        · have : y = y0 := uniq_of nd hy hy0 (hc.trans he0.symm)
          subst this
          simp [hc]
        · simp [hc]
    | none =>
      rw [hf] at hlk
      simp only [Option.map_none] at hlk
      refine ⟨[], ?_, by simp, ?_⟩
      · rw [go]
        simp only [fGet2, hd, hk.ok, if_true]
        unfold lawP
        simp only [hlk]
      · unfold putP addV
        have hin : e ∉ K.map (·.1) := fun z => by
          obtain ⟨y, hyL, he⟩ := List.mem_map.mp z
          have := List.find?_eq_none.mp hf y hyL
          simp at this
          exact this he
        rw [if_neg hin]
        unfold lawP
        rw [hlk, if_neg (by simp), List.map_append]
        rfl
  have e1 : dBin fAdd (dMethD fGet2 da [dk, dApp fTup []]) (dApp fTup [dv]) ls st = okD (.tup (l0 ++ [v])) st := by
    refine (bin_eq e0 (y := .tup [v]) (st2 := st) ((appE (evA1 ev)).trans rfl)).trans ?_
    have hs : small (l0.length + 1) = true := by simp [small, LINE]; omega
    simp only [fAdd, List.length_cons, List.length_nil, hs, if_true]
  unfold dSetIxG
  rw [e1]
  simp only [okD, bindS]
  rw [ea]
  simp only [okD, bindS]
  rw [ek]
  simp only [okD, bindS]
  unfold setKG
  simp only [dctAt, hd, hk.ok, if_true, if_pos hps, hput]
end
end K35
end
section
set_option maxRecDepth 100000
set_option maxHeartbeats 1000000
namespace K35
open PySem L2 MP
/-! ### the keys: two cells, the lesser first -/
abbrev Ek := MG.C × MG.C
abbrev eKD (e : Ek) : D := .tup [cD e.1, cD e.2]
def ekP (x : MG.C × MG.C) : Ek := (mn x.1 x.2, mx x.1 x.2)
theorem eKF : KeyF eKD := ⟨fun _ => rfl, fun a b => by
  by_cases h : a = b
  · subst h
    rw [beqD_refl]
    simp
  · cases e : beqD (eKD a) (eKD b) with
    | true =>
      have := beqD_eq e
      simp only [eKD, D.tup.injEq, List.cons.injEq, D.int.injEq, and_true] at this
      obtain ⟨⟨h1, h2⟩, h3, h4⟩ := this
      exact absurd (Prod.ext (Prod.ext h1 h2) (Prod.ext h3 h4)) h
    | false => simp [h]⟩
theorem dlt_c (a b : MG.C) : PySem.W.dataLt (encD (cD a)) (encD (cD b)) = lt2 a b := by
  obtain ⟨a, a'⟩ := a
  obtain ⟨b, b'⟩ := b
  have ea : ∀ c : MG.C, encD (cD c) = .tuple [.int c.1, .int c.2] := fun c => by simp [encD, encDs]
  rw [ea, ea, PySem.W.dataLt_tuple]
  by_cases h : a = b
  · subst h
    rw [PySem.W.dataLt_all_yes (by simp [PySem.W.alike]) (by simp [PyData.eqv])]
    by_cases h' : a' = b'
    · subst h'
      rw [PySem.W.dataLt_all_yes (by simp [PySem.W.alike]) (by simp [PyData.eqv])]
      have : lt2 (a, a') (a, a') = false := by simp [lt2]
      rw [this]
      exact PyProof.Rows.lex_irrefl _
    · rw [PySem.W.dataLt_all_no (by simp [PySem.W.alike]) (by simp [PyData.eqv]; omega), PySem.W.dataLt_int]
      unfold lt2
      simp
  · rw [PySem.W.dataLt_all_no (by simp [PySem.W.alike]) (by simp [PyData.eqv]; omega), PySem.W.dataLt_int]
    unfold lt2
    simp [h]
theorem leC_eq (a b : MG.C) : leC a b = !lt2 b a := by
  show (!PySem.W.dataLt (encD (cD b)) (encD (cD a))) = _
  rw [dlt_c]
theorem sort_two (a b : MG.C) : isA leC [a, b] = [mn a b, mx a b] := by
  show (if leC a b then [a, b] else [b, a]) = _
  rw [leC_eq]
  unfold mn mx
  cases h : lt2 b a with
  | true =>
    have : lt2 a b = false := lt2_asym h
    simp [this]
  | false =>
    cases h' : lt2 a b with
    | true => simp
    | false =>
      have : a = b := le2_antisym h h'
      simp [this]
/-- neighbours in a row -/
def prs (r : List MG.C) : List (MG.C × MG.C) := r.zip r.tail
theorem prs_len (r : List MG.C) : (prs r).length ≤ r.length := by
  unfold prs
  rw [List.length_zip]
  exact Nat.min_le_left _ _
def xyD (x : MG.C × MG.C) : D := .tup [cD x.1, cD x.2]
theorem zip_c : ∀ l m : List MG.C, zipL (l.map cD) (m.map cD) = (l.zip m).map xyD
  | [], m => by simp [zipL]
  | _ :: _, [] => by simp [zipL]
  | a :: l, b :: m => by
    rw [List.map_cons, List.map_cons, zipL, zip_c l m]
    rfl
theorem cut_1 (l : List D) : cutD l (some 1) none = l.drop 1 := by
  cases l with
  | nil => rfl
  | cons a l =>
    unfold cutD
    have : HT.sIx (a :: l).length 0 (some 1) = 1 := by
      have := HT.sIx_nat (a :: l).length 0 1
      rw [List.length_cons] at this ⊢
      simp only [Int.cast_ofNat_Int] at this
      rw [this]
      omega
    rw [this, HT.sIx_none, List.drop_one, List.tail_cons]
    refine List.take_of_length_le ?_
    simp
theorem zip_it {ls : Ls} {st : Sto} {r : List MG.C} {k : Nat} (h : dVar k ls st = okD (csD r) st) : dAppI fZip [(dVar k), (dSl (dVar k) (some (dC (.int 1))) none)] ls st = some (.it ((prs r).map xyD) .no, st) := by
  have e2 : dSl (dVar k) (some (dC (.int 1))) none ls st = okD (.tup ((r.tail).map cD)) st := by
    unfold dSl
    rw [h]
    show fSl (some 1) none (.tup (r.map cD)) st = _
    simp only [fSl, cut_1, List.map_tail, List.drop_one]
  unfold dAppI
  rw [evA2 h e2]
  show fZip [.tup (r.map cD), .tup ((r.tail).map cD)] st = _
  simp only [fZip, zip_c]
  rfl
def foldE {κ : Type} [DecidableEq κ] (K : List (κ × List D)) (l : List (κ × D)) : List (κ × List D) := l.foldl (fun K ev => addV K ev.1 ev.2) K
structure KB {κ : Type} (K : List (κ × List D)) (b : Nat) : Prop where
  nd : (K.map (·.1)).Nodup
  kl : K.length ≤ b
  vl : ∀ x ∈ K, x.2.length ≤ b
theorem KB.step {κ : Type} [DecidableEq κ] {K : List (κ × List D)} {b : Nat} {e : κ} {v : D} (h : KB K b) : KB (addV K e v) (b + 1) := ⟨addV_nd h.nd, (addV_len h.kl h.vl).1, (addV_len h.kl h.vl).2⟩
theorem KB.fold {κ : Type} [DecidableEq κ] : ∀ {l : List (κ × D)} {K : List (κ × List D)} {b : Nat}, KB K b → KB (foldE K l) (b + l.length)
  | [], K, b, h => h
  | ev :: l, K, b, h => by
    have := KB.fold (l := l) (h.step (e := ev.1) (v := ev.2))
    have e : b + (ev :: l).length = b + 1 + l.length := by simp; omega
    rw [e]
    exact this
theorem foldE_app {κ : Type} [DecidableEq κ] (K : List (κ × List D)) (l m : List (κ × D)) : foldE K (l ++ m) = foldE (foldE K l) m := by
  unfold foldE
  rw [List.foldl_append]
def evs (k : Int) (r : List MG.C) : List (Ek × D) := (prs r).map fun x => (ekP x, .int k)
abbrev edB : Ds := (dExpr (dMeth "list" fAppend (dMethD fSetDef (dVar 2) [(dApp fTup [(dApp fMin2D [(dVar 5), (dVar 6)]), (dApp fMax2D [(dVar 5), (dVar 6)])]), (dApp fLst [])]) [(dVar 3)]))
theorem ed_in {B : Sto} {kD : Nat} {k : Int} {o0 o1 o4 o7 : Option D} : ∀ (xs : List (MG.C × MG.C)) (K : List (Ek × List D)) (b : Nat) (o5 o6 : Option D) (st : Sto), VI eKD B kD K st → KB K b → b + xs.length ≤ 1000 →
    ∃ p5 p6 st', forD .no (.tp [.nm 5, .nm 6]) edB (xs.map xyD) [o0, o1, some (.obj kD), some (.int k), o4, o5, o6, o7] st = some (.next, [o0, o1, some (.obj kD), some (.int k), o4, p5, p6, o7], st') ∧ VI eKD B kD (foldE K (xs.map fun x => (ekP x, .int k))) st'
  | [], K, b, o5, o6, st, h, _, _ => ⟨o5, o6, st, by simp [forD, gdB], h⟩
  | x :: xs, K, b, o5, o6, st, h, kb, hl => by
    simp at hl
    obtain ⟨st1, e1, h1⟩ := vstep (da := dVar 2) (dk := dApp fTup [(dApp fMin2D [(dVar 5), (dVar 6)]), (dApp fMax2D [(dVar 5), (dVar 6)])]) (dv := dVar 3) (ls := [o0, o1, some (.obj kD), some (.int k), o4, some (cD x.1), some (cD x.2), o7]) (e := ekP x) (v := .int k) eKF h kb.nd (by have := kb.kl; omega) (fun y hy => by have := kb.vl y hy; omega) rfl
      (tup2_eq' (st1 := st) ((appE (evA2 rfl rfl)).trans (min2_eq x.1 x.2 st)) ((appE (evA2 rfl rfl)).trans (max2_eq x.1 x.2 st))) (fun _ => rfl)
    obtain ⟨p5, p6, st', e2, h2⟩ := ed_in xs (addV K (ekP x) (.int k)) (b + 1) (some (cD x.1)) (some (cD x.2)) st1 h1 kb.step (by omega) (o0 := o0) (o1 := o1) (o4 := o4) (o7 := o7) (k := k)
    exact ⟨p5, p6, st', (forD_next (xs := xs.map xyD) rfl rfl e1).trans e2, h2⟩
end K35
end
section
set_option maxRecDepth 100000
set_option maxHeartbeats 1000000
namespace K35
open PySem L2 MP
/-! ### the program's edges -/
abbrev rowK (h : Int) (gs : List P4) (k : Nat) : List MG.C := chP h gs (gP gs k)
theorem rows_at {gs : List P4} {h : Int} {k : Nat} (k1 : k < gs.length) : ((gs.map (chP h gs)).map csD)[k]? = some (csD (rowK h gs k)) := by
  have := gP_at (gs := gs) (i := (k : Int)) (by omega) (by omega)
  rw [Int.toNat_natCast] at this
  rw [List.getElem?_map, List.getElem?_map, this]
  rfl
theorem enum_rows (h : Int) (gs : List P4) : enumL ((gs.map (chP h gs)).map csD) = (List.range gs.length).map fun (k : Nat) => .tup [.int k, csD (rowK h gs k)] := by
  unfold enumL
  rw [List.length_map, List.length_map]
  refine List.map_congr_left fun k hk => ?_
  have hk := List.mem_range.mp hk
  rw [List.getD_eq_getElem?_getD, rows_at hk]
  rfl
theorem row_len {gs : List P4} {h : Int} {k : Nat} (g : Good gs) (h0 : 0 < h) (k1 : k < gs.length) : (rowK h gs k).length ≤ 48 := by
  have := gP_at (gs := gs) (i := (k : Int)) (by omega) (by omega)
  exact chP_len g (g.pv _ (List.mem_of_getElem? this)) h0
abbrev edO : Ds := (dFor (dAppI fZip [(dVar 4), (dSl (dVar 4) (some (dC (.int 1))) none)]) (.tp [(.nm 5), (.nm 6)]) edB)
def evL (h : Int) (gs : List P4) (ks : List Nat) : List (Ek × D) := ks.flatMap fun (k : Nat) => evs (k : Int) (rowK h gs k)
theorem evL_len {gs : List P4} {h : Int} (g : Good gs) (h0 : 0 < h) : ∀ ks : List Nat, (∀ k ∈ ks, k < gs.length) → (evL h gs ks).length ≤ 48 * ks.length
  | [], _ => by simp [evL]
  | k :: ks, hk => by
    have ih := evL_len g h0 ks fun x hx => hk x (List.mem_cons_of_mem _ hx)
    have h1 := row_len (h := h) g h0 (hk k List.mem_cons_self)
    have h2 := prs_len (rowK h gs k)
    unfold evL at ih ⊢
    rw [List.flatMap_cons, List.length_append, List.length_cons]
    unfold evs
    rw [List.length_map]
    unfold evs at ih
    omega
theorem ed_out {B : Sto} {kD n : Nat} {h : Int} {gs : List P4} {full : List D} {o0 o1 o7 : Option D} (g : Good gs) (h0 : 0 < h) (hn : B[n]? = some (Cell.lst false full)) (hnk : n ≠ kD) : ∀ (ks : List Nat) (K : List (Ek × List D)) (b : Nat) (o3 o4 o5 o6 : Option D) (st : Sto), (∀ k ∈ ks, k < gs.length) → VI eKD B kD K st → KB K b → b + 48 * ks.length ≤ 1000 →
    ∃ p3 p4 p5 p6 st', forD (.one n full) (.tp [.nm 3, .nm 4]) edO (ks.map fun (k : Nat) => .tup [.int k, csD (rowK h gs k)]) [o0, o1, some (.obj kD), o3, o4, o5, o6, o7] st = some (.next, [o0, o1, some (.obj kD), p3, p4, p5, p6, o7], st') ∧ VI eKD B kD (foldE K (evL h gs ks)) st'
  | [], K, b, o3, o4, o5, o6, st, _, hv, _, _ => ⟨o3, o4, o5, o6, st, by simp [forD, gdB_of (hv.gr.at hn hnk)], hv⟩
  | k :: ks, K, b, o3, o4, o5, o6, st, hk, hv, kb, hl => by
    simp at hl
    have h1 := row_len (h := h) g h0 (hk k List.mem_cons_self)
    have h2 := prs_len (rowK h gs k)
    obtain ⟨q5, q6, st1, e1, v1⟩ := ed_in (k := k) (prs (rowK h gs k)) K b o5 o6 st hv kb (by omega) (o0 := o0) (o1 := o1) (o4 := some (csD (rowK h gs k))) (o7 := o7)
    have ei : edO [o0, o1, some (.obj kD), some (.int k), some (csD (rowK h gs k)), o5, o6, o7] st = some (.next, [o0, o1, some (.obj kD), some (.int k), some (csD (rowK h gs k)), q5, q6, o7], st1) := for_eq (zip_it (r := rowK h gs k) rfl) e1
    have kb1 := KB.fold (l := evs k (rowK h gs k)) kb
    have el : (evs k (rowK h gs k)).length ≤ 48 := by
      unfold evs
      rw [List.length_map]
      omega
    obtain ⟨p3, p4, p5, p6, st', e2, v2⟩ := ed_out g h0 hn hnk ks (foldE K (evs k (rowK h gs k))) (b + (evs k (rowK h gs k)).length) (some (.int k)) (some (csD (rowK h gs k))) q5 q6 st1 (fun x hx => hk x (List.mem_cons_of_mem _ hx)) v1 kb1 (by omega) (o0 := o0) (o1 := o1) (o7 := o7)
    refine ⟨p3, p4, p5, p6, st', ?_, ?_⟩
    · exact (forD_next (xs := ks.map fun (k : Nat) => .tup [.int k, csD (rowK h gs k)]) (gdB_of (hv.gr.at hn hnk)) rfl ei).trans e2
    · have : evL h gs (k :: ks) = evs k (rowK h gs k) ++ evL h gs ks := by
        unfold evL
        rw [List.flatMap_cons]
      rw [this, foldE_app]
      exact v2
/-! a dict made of keys and values -/
theorem kvV {κ : Type} [DecidableEq κ] {kd : κ → D} (hk : KeyF kd) {V : κ → D} {B : Sto} {k n i : Nat} {full : List D} {lsw : Ls} {lw : D → Ls} {dv : De} (hkB : B.length ≤ k) (hn : B[n]? = some (Cell.lst false full)) (ha : ∀ d, asg (.nm i) d lsw = some (lw d)) (hi : ∀ d st, dVar i (lw d) st = okD d st) :
    ∀ (es done : List κ) (st : Sto), (∀ e ∈ es, ∀ st, Gr B st → ∃ st1, dv (lw (kd e)) st = okD (V e) st1 ∧ Gr st st1) → (done ++ es).Nodup → st[k]? = some (Cell.dct (done.map fun e => (kd e, V e))) → Gr B st → done.length + es.length ≤ 1000 →
    ∃ st', loopD (.one n full) (.nm i) (ifD dYes (kvD (dVar i) dv k)) lsw (es.map kd) st = okD .non st' ∧ st'[k]? = some (Cell.dct ((done ++ es).map fun e => (kd e, V e))) ∧ Gr B st'
  | [], done, st, _, _, e, g, _ => ⟨st, by simp [loopD, gdB_of (g.at hn)], by simpa using e, g⟩
  | c :: es, done, st, hd, nd, e, g, hl => by
    obtain ⟨st1, ev, g1⟩ := hd c List.mem_cons_self st g
    have e1 := g1.at e
    simp at hl
    have hpl : (done.map fun e => (kd e, V e)).length < LINE := by
      rw [List.length_map]
      simp [LINE]
      omega
    have hc : c ∉ done := fun z => (List.nodup_append.mp nd).2.2 c z c List.mem_cons_self rfl
    have hf : (done.find? fun y => decide (y = c)) = none := List.find?_eq_none.mpr fun y hy => by
      simp
      intro z
      exact hc (z ▸ hy)
    have hlk := look_gen (p := fun y : κ => y) (F := V) hk c done
    rw [hf] at hlk
    have hp : putP (done.map fun e => (kd e, V e)) (kd c) (V c) = (done ++ [c]).map fun e => (kd e, V e) := by
      unfold putP
      rw [hlk, List.map_append]
      rfl
    obtain ⟨st', e', a1, a2⟩ := kvV hk hkB hn ha hi es (done ++ [c]) (st1.set k (Cell.dct ((done ++ [c]).map fun e => (kd e, V e)))) (fun x hx => hd x (List.mem_cons_of_mem _ hx)) (by simpa using nd) (List.getElem?_set_self (lt_of_get e1)) ((g.trans g1).set_new hkB) (by simp; omega)
    refine ⟨st', ?_, by simpa using a1, a2⟩
    rw [List.map_cons, loopD_cons (gdB_of (g.at hn)) (ha _)]
    have hb : ifD dYes (kvD (dVar i) dv k) (lw (kd c)) st = some (.ok .non, st1.set k (Cell.dct ((done ++ [c]).map fun e => (kd e, V e)))) := by
      simp only [ifD, dYes, okD, bindO, ifJ, kvD]
      rw [hi]
      simp only [okD, bindO, valD]
      rw [ev]
      simp only [okD, bindO, keyPut, e1, hk.ok, if_true, if_pos hpl, hp]
    rw [hb]
    exact e'
abbrev leK (a b : Ek) : Bool := leD (eKD a) (eKD b)
theorem canSort_ek (l : List Ek) : canSort (l.map eKD) = true := by
  unfold canSort
  rw [Bool.or_eq_true]
  refine .inr ?_
  rw [Bool.and_eq_true]
  constructor
  · rw [List.all_eq_true]
    intro d hd
    obtain ⟨c, _, rfl⟩ := List.mem_map.mp hd
    rfl
  · have ea : ∀ c : Ek, encD (eKD c) = .tuple [.tuple [.int c.1.1, .int c.1.2], .tuple [.int c.2.1, .int c.2.2]] := fun c => by simp [encD, encDs]
    unfold sortOk
    rw [Bool.and_eq_true, Bool.or_eq_true]
    refine ⟨.inl (List.all_eq_true.mpr fun x hx => ?_), List.all_eq_true.mpr fun x hx => List.all_eq_true.mpr fun y hy => ?_⟩
    · obtain ⟨d, hd, rfl⟩ := List.mem_map.mp hx
      obtain ⟨c, _, rfl⟩ := List.mem_map.mp hd
      rw [ea]
      rfl
    · obtain ⟨d, hd, rfl⟩ := List.mem_map.mp hx
      obtain ⟨c, _, rfl⟩ := List.mem_map.mp hd
      obtain ⟨d', hd', rfl⟩ := List.mem_map.mp hy
      obtain ⟨c', _, rfl⟩ := List.mem_map.mp hd'
      rw [ea, ea]
      simp [PySem.W.alike, PySem.W.alikeAll]
end K35
end
section
set_option maxRecDepth 100000
set_option maxHeartbeats 1000000
namespace K35
open PySem L2 MP
def valE {κ : Type} [DecidableEq κ] (K : List (κ × List D)) (e : κ) : List D := ((K.find? fun y => decide (y.1 = e)).map (·.2)).getD []
def edK (h : Int) (gs : List P4) : List (Ek × List D) := foldE [] (evL h gs (List.range gs.length))
theorem edK_kb {h : Int} {gs : List P4} (g : Good gs) (h0 : 0 < h) : KB (edK h gs) 288 := by
  have k0 : KB ([] : List (Ek × List D)) 0 := ⟨by simp, by simp, fun x hx => by simp at hx⟩
  have k1 := KB.fold (l := evL h gs (List.range gs.length)) k0
  have hl := g.len
  have el := evL_len (h := h) g h0 (List.range gs.length) fun k hk => List.mem_range.mp hk
  rw [List.length_range] at el
  exact ⟨k1.nd, by have := k1.kl; unfold edK; omega, fun x hx => by have := k1.vl x hx; omega⟩
theorem find_some {κ : Type} [DecidableEq κ] {L : List ((κ × List D) × Nat)} {K : List (κ × List D)} {e : κ} (hL : L.map (·.1) = K) (he : e ∈ K.map (·.1)) : ∃ y ∈ L, (L.find? fun y => decide (y.1.1 = e)) = some y ∧ valE K e = y.1.2 := by
  have h1 : K.find? (fun y => decide (y.1 = e)) = (L.find? fun y => decide (y.1.1 = e)).map (·.1) := by
    rw [← hL, List.find?_map]
    rfl
  cases hf : L.find? fun y => decide (y.1.1 = e) with
  | some y =>
    refine ⟨y, List.mem_of_find?_eq_some hf, rfl, ?_⟩
    unfold valE
    rw [h1, hf]
    rfl
  | none =>
    exfalso
    rw [← hL, List.map_map] at he
    obtain ⟨y, hy, hye⟩ := List.mem_map.mp he
    have := List.find?_eq_none.mp hf y hy
    simp at this
    exact this hye
end K35
end
section
set_option maxRecDepth 100000
set_option maxHeartbeats 1000000
namespace K35
open PySem L2 MP
/-! ### moves of a pair, sums of them -/
def ab (i : Int) : Int := if i < 0 then -i else i
def mxI (i j : Int) : Int := if i < j then j else i
def mvP (x : MG.C × MG.C) : Int := mxI (ab (x.2.1 - x.1.1)) (ab (x.2.2 - x.1.2))
theorem ab_sub (i j : Int) : ab (i - j) = ab (j - i) := by
  unfold ab
  split <;> split <;> omega
theorem mv_comm (a b : MG.C) : mvP (a, b) = mvP (b, a) := by
  unfold mvP
  simp only
  rw [ab_sub b.1 a.1, ab_sub b.2 a.2]
theorem mv_ek (x : MG.C × MG.C) : mvP (ekP x) = mvP x := by
  obtain ⟨a, b⟩ := x
  unfold ekP mn mx
  simp only
  cases h : lt2 b a with
  | true =>
    have h2 : lt2 a b = false := lt2_asym h
    rw [h2]
    simp only [if_true, Bool.false_eq_true, if_false]
    exact mv_comm b a
  | false =>
    cases h2 : lt2 a b with
    | true => simp
    | false =>
      have e : a = b := by
        have n1 : ¬ lt2 b a = true := by rw [h]; exact Bool.false_ne_true
        have n2 : ¬ lt2 a b = true := by rw [h2]; exact Bool.false_ne_true
        rw [lt2_iff] at n1 n2
        obtain ⟨a1, a2⟩ := a
        obtain ⟨b1, b2⟩ := b
        simp only at n1 n2
        have e1 : a1 = b1 := by omega
        have e2 : a2 = b2 := by omega
        rw [e1, e2]
      subst e
      simp
theorem abs_eq {da : De} {ls : Ls} {st : Sto} {i : Int} (h : da ls st = okD (.int i) st) : dApp fAbs [da] ls st = okD (.int (ab i)) st := (app1_eq h).trans rfl
theorem sub_eq {da db : De} {ls : Ls} {st : Sto} {i j : Int} (h : da ls st = okD (.int i) st) (h2 : db ls st = okD (.int j) st) : dBin fSub da db ls st = okD (.int (i - j)) st := (bin_eq h h2).trans rfl
theorem max_eq {da db : De} {ls : Ls} {st : Sto} {i j : Int} (h : da ls st = okD (.int i) st) (h2 : db ls st = okD (.int j) st) : dApp fMax2D [da, db] ls st = okD (.int (mxI i j)) st := by
  refine (appE (evA2 h h2)).trans ?_
  show okD (if i < j then D.int j else D.int i) st = _
  unfold mxI
  split <;> rfl
theorem ix_c0 {k : Nat} {ls : Ls} {st : Sto} {c : MG.C} (h : dVar k ls st = okD (cD c) st) : dBin fIx (dVar k) (dC (.int 0)) ls st = okD (.int c.1) st := (bin_eq h rfl).trans rfl
theorem ix_c1 {k : Nat} {ls : Ls} {st : Sto} {c : MG.C} (h : dVar k ls st = okD (cD c) st) : dBin fIx (dVar k) (dC (.int 1)) ls st = okD (.int c.2) st := (bin_eq h rfl).trans rfl
/-- max(abs(y[0] - x[0]), abs(y[1] - x[1])) -/
theorem mvD_eq {i j : Nat} {ls : Ls} {st : Sto} {a b : MG.C} (h : dVar i ls st = okD (cD a) st) (h2 : dVar j ls st = okD (cD b) st) :
    dApp fMax2D [(dApp fAbs [(dBin fSub (dBin fIx (dVar j) (dC (.int 0))) (dBin fIx (dVar i) (dC (.int 0))))]), (dApp fAbs [(dBin fSub (dBin fIx (dVar j) (dC (.int 1))) (dBin fIx (dVar i) (dC (.int 1))))])] ls st = okD (.int (mvP (a, b))) st :=
  max_eq (abs_eq (sub_eq (ix_c0 h2) (ix_c0 h))) (abs_eq (sub_eq (ix_c1 h2) (ix_c1 h)))
theorem sum_obj {st : Sto} {n : Nat} {ro : Bool} {ns : List Int} (h : st[n]? = some (.lst ro (ns.map .int))) : fSum [.obj n] st = okD (.int ns.sum) st := by
  simp only [fSum, h, intsOf_map]
/-- the moves of a chain -/
def mvS (r : List MG.C) : Int := ((prs r).map mvP).sum
/-- the keys of the program's edges -/
def edQ (h : Int) (gs : List P4) : List Ek := isA leK ((edK h gs).map (·.1))
theorem gdB_dct {n : Nat} {ps : List (D × D)} {l : List D} {st : Sto} (h : st[n]? = some (Cell.dct ps)) (e : ps.map (·.1) = l) : gdB (.dk n l) st = true := by
  unfold gdB
  simp only [h, e]
  exact beqDs_refl l
theorem seq_dct {da : De} {ls : Ls} {st st1 : Sto} {n : Nat} {ps : List (D × D)} {l : List D} (h : da ls st = okD (.obj n) st1) (g : st1[n]? = some (Cell.dct ps)) (e : ps.map (·.1) = l) : dSeq da ls st = some (.it l (.dk n l), st1) := by
  unfold dSeq
  rw [h]
  simp only [okD, bindI, fSeq, g, e]
end K35
end
section
set_option maxRecDepth 100000
set_option maxHeartbeats 1000000
namespace K35
open PySem L2 MP
/-! ### rows of numbers in their order -/
abbrev leRow (a b : List Int) : Bool := leD (tupI a) (tupI b)
theorem leRow_eq (a b : List Int) : leRow a b = decide (a ≤ b) := by
  have e : ∀ r : List Int, encD (tupI r) = .tuple (r.map .int) := fun r => by
    unfold tupI
    rw [encD, enc_ints]
  show (!PySem.W.dataLt (encD (tupI b)) (encD (tupI a))) = _
  rw [e, e, PySem.W.dataLt_tuple]
  have := PySem.W.dataLt_ints b a
  unfold PySem.W.rowLt at this
  rw [this]
  by_cases h : b < a
  · have h' : ¬ a ≤ b := fun z => z h
    rw [decide_eq_true h, decide_eq_false h']
    rfl
  · have h' : a ≤ b := h
    rw [decide_eq_false h, decide_eq_true h']
    rfl
theorem leRow_tr (a b c : List Int) (h : leRow a b = true) (g : leRow b c = true) : leRow a c = true := by
  rw [leRow_eq] at *
  exact decide_eq_true (List.le_trans (of_decide_eq_true h) (of_decide_eq_true g))
theorem leRow_tt (a b : List Int) : (leRow a b || leRow b a) = true := by
  rw [leRow_eq, leRow_eq]
  rcases List.le_total a b with h | h
  · rw [decide_eq_true h]; rfl
  · rw [decide_eq_true h]; simp
theorem leRow_as {a b : List Int} (h : leRow a b = true) (g : leRow b a = true) : a = b := by
  rw [leRow_eq] at *
  exact List.le_antisymm (of_decide_eq_true h) (of_decide_eq_true g)
theorem sort_rows {L L' : List (List Int)} (h : L.Perm L') : isort leD (L.map tupI) = isort leD (L'.map tupI) := by
  rw [isort_map, isort_map]
  congr 1
  refine List.Perm.eq_of_pairwise (le := fun x y => leRow x y = true) (fun a b _ _ h g => leRow_as h g) (isA_sorted leRow_tr leRow_tt L) (isA_sorted leRow_tr leRow_tt L') ?_
  exact (isA_perm leRow L).trans (h.trans (isA_perm leRow L').symm)
theorem leC_R (a b : MG.C) : leC a b = leRow [a.1, a.2] [b.1, b.2] := rfl
theorem leC_trs (a b c : MG.C) (h : leC a b = true) (g : leC b c = true) : leC a c = true := leRow_tr [a.1, a.2] [b.1, b.2] [c.1, c.2] h g
theorem leC_tot (a b : MG.C) : (leC a b || leC b a) = true := leRow_tt [a.1, a.2] [b.1, b.2]
theorem sort_cells {L L' : List MG.C} (h : L.Perm L') : isA leC L = isA leC L' := by
  refine List.Perm.eq_of_pairwise (le := fun x y => leC x y = true) (fun a b _ _ h g => ?_) (isA_sorted leC_trs leC_tot L) (isA_sorted leC_trs leC_tot L') ?_
  · have e := leRow_as (a := [a.1, a.2]) (b := [b.1, b.2]) h g
    simp only [List.cons.injEq, and_true] at e
    exact Prod.ext e.1 e.2
  · exact (isA_perm leC L).trans (h.trans (isA_perm leC L').symm)
/-! ### what stands in a dict of lists -/
section
variable {κ : Type} [DecidableEq κ]
theorem val_add (K : List (κ × List D)) (e c : κ) (v : D) : valE (addV K e v) c = valE K c ++ (if e = c then [v] else []) := by
  unfold valE addV
  by_cases he : e ∈ K.map (·.1)
  · rw [if_pos he, List.find?_map]
    have hp : ((fun y : κ × List D => decide (y.1 = c)) ∘ fun x => if x.1 = e then (x.1, x.2 ++ [v]) else x) = fun y => decide (y.1 = c) := by
      funext y
      simp only [Function.comp]
      split <;> rfl
    rw [hp]
    cases hf : K.find? fun y => decide (y.1 = c) with
    | none =>
      have hne : e ≠ c := fun z => by
        obtain ⟨y, hy, e1⟩ := List.mem_map.mp he
        have := List.find?_eq_none.mp hf y hy
        simp at this
        exact this (e1.trans z)
      simp [hne]
    | some y =>
      have hy : y.1 = c := by simpa using List.find?_some hf
      by_cases hc : e = c
      · have : y.1 = e := hy.trans hc.symm
        simp [this, hc]
      · have : ¬ y.1 = e := fun z => hc (z.symm.trans hy)
        simp [this, hc]
  · rw [if_neg he, List.find?_append]
    cases hf : K.find? fun y => decide (y.1 = c) with
    | none =>
      by_cases hc : e = c
      · simp [hc]
      · simp [hc]
    | some y =>
      have hy : y.1 = c := by simpa using List.find?_some hf
      have hne : e ≠ c := fun z => he (by
        rw [z, ← hy]
        exact List.mem_map_of_mem (List.mem_of_find?_eq_some hf))
      simp [hne]
theorem val_fold (c : κ) : ∀ (l : List (κ × D)) (K : List (κ × List D)), valE (foldE K l) c = valE K c ++ (l.filter fun x => decide (x.1 = c)).map (·.2)
  | [], K => by simp [foldE]
  | x :: l, K => by
    have h := val_fold c l (addV K x.1 x.2)
    have e : foldE K (x :: l) = foldE (addV K x.1 x.2) l := rfl
    rw [e, h, val_add, List.filter_cons]
    by_cases hc : x.1 = c
    · simp [hc]
    · simp [hc]
theorem key_fold (c : κ) : ∀ (l : List (κ × D)) (K : List (κ × List D)), c ∈ (foldE K l).map (·.1) ↔ c ∈ K.map (·.1) ∨ c ∈ l.map (·.1)
  | [], K => by simp [foldE]
  | x :: l, K => by
    have h := key_fold c l (addV K x.1 x.2)
    have e : foldE K (x :: l) = foldE (addV K x.1 x.2) l := rfl
    rw [e, h, addV_keys]
    by_cases hx : x.1 ∈ K.map (·.1)
    · rw [if_pos hx, List.map_cons, List.mem_cons]
      constructor
      · rintro (h | h)
        · exact .inl h
        · exact .inr (.inr h)
      · rintro (h | h | h)
        · exact .inl h
        · exact .inl (h ▸ hx)
        · exact .inr h
    · rw [if_neg hx, List.map_cons, List.mem_cons, List.mem_append, List.mem_singleton]
      constructor
      · rintro ((h | h) | h)
        · exact .inl h
        · exact .inr (.inl h)
        · exact .inr (.inr h)
      · rintro (h | h | h)
        · exact .inl (.inl h)
        · exact .inl (.inr h)
        · exact .inr h
end
/-- a mark as a cell and its reason -/
def tE (x : Mk) : MG.C × D := (x.1, tupI x.2)
def ofM (l : List Mk) : List (MG.C × List D) := foldE [] (l.map tE)
def rsn (l : List Mk) (c : MG.C) : List (List Int) := (l.filter fun x => decide (x.1 = c)).map (·.2)
theorem val_of (l : List Mk) (c : MG.C) : valE (ofM l) c = (rsn l c).map tupI := by
  unfold ofM rsn
  rw [val_fold, List.filter_map, List.map_map, List.map_map]
  rfl
theorem key_of (l : List Mk) (c : MG.C) : c ∈ (ofM l).map (·.1) ↔ c ∈ l.map (·.1) := by
  unfold ofM
  rw [key_fold, List.map_map]
  simp only [List.map_nil, List.not_mem_nil, false_or]
  rfl
theorem kb_of (l : List Mk) : KB (ofM l) l.length := by
  have k0 : KB ([] : List (MG.C × List D)) 0 := ⟨by simp, by simp, fun x hx => by simp at hx⟩
  have := KB.fold (l := l.map tE) k0
  rw [List.length_map, Nat.zero_add] at this
  exact this
theorem rsn_perm {l l' : List Mk} (h : l.Perm l') (c : MG.C) : (rsn l c).Perm (rsn l' c) := (h.filter _).map _
theorem keys_perm {l l' : List Mk} (h : l.Perm l') : ((ofM l).map (·.1)).Perm ((ofM l').map (·.1)) := by
  rw [List.perm_ext_iff_of_nodup (kb_of l).nd (kb_of l').nd]
  intro c
  rw [key_of, key_of]
  exact (h.map _).mem_iff
end K35
end
section
set_option maxRecDepth 100000
set_option maxHeartbeats 1000000
namespace K35
open PySem L2 MP
/-! ### the program's reasons, with their values -/
theorem cKF : KeyF cD := ⟨fun _ => rfl, fun a b => beq_cD a b⟩
def repD (l : List Mk) (c : MG.C) : D := .tup (isort leD ((rsn l c).map tupI))
theorem vloop {B : Sto} {kD n : Nat} {full : List D} {o0 o1 : Option D} (hn : B[n]? = some (Cell.lst false full)) (hnk : n ≠ kD) : ∀ (F : List Mk) (K : List (MG.C × List D)) (b : Nat) (o3 o4 : Option D) (st : Sto), VI cD B kD K st → KB K b → b + F.length ≤ 1000 →
    ∃ p3 p4 st', forD (.one n full) (.tp [.nm 3, .nm 4]) rbody (F.map mkD) [o0, o1, some (.obj kD), o3, o4] st = some (.next, [o0, o1, some (.obj kD), p3, p4], st') ∧ VI cD B kD (foldE K (F.map tE)) st'
  | [], K, b, o3, o4, st, h, _, _ => ⟨o3, o4, st, by simp [forD, gdB_of (h.gr.at hn hnk)], h⟩
  | (c, r) :: F, K, b, o3, o4, st, h, kb, hb => by
    simp at hb
    obtain ⟨st1, e1, h1⟩ := vstep (da := dVar 2) (dk := dVar 3) (dv := dVar 4) (ls := [o0, o1, some (.obj kD), some (cD c), some (tupI r)]) (e := c) (v := tupI r) cKF h kb.nd (by have := kb.kl; omega) (fun y hy => by have := kb.vl y hy; omega) rfl rfl (fun _ => rfl)
    obtain ⟨p3, p4, st', e, h'⟩ := vloop hn hnk F (addV K c (tupI r)) (b + 1) (some (cD c)) (some (tupI r)) st1 h1 kb.step (by omega) (o0 := o0) (o1 := o1)
    exact ⟨p3, p4, st', (forD_next (xs := F.map mkD) (gdB_of (h.gr.at hn hnk)) rfl e1).trans e, h'⟩
/-- the keys in their order -/
def keyL (l : List Mk) : List MG.C := isA leC ((ofM l).map (·.1))
theorem rsn_ne {l : List Mk} (hl : ∀ x ∈ l, x.2 ≠ []) (c : MG.C) : ∀ r ∈ rsn l c, r ≠ [] := by
  intro r hr
  unfold rsn at hr
  obtain ⟨x, hx, e⟩ := List.mem_map.mp hr
  rw [← e]
  exact hl x (List.mem_filter.mp hx).1
end K35
end
section
set_option maxRecDepth 100000
set_option maxHeartbeats 1000000
namespace K35
open PySem L2 MP
/-! ### points -/
def loE (h i : Int) : Int := if 0 < (2 * i - 1) * h then (2 * i - 1) * h else 0
def hiE (h i : Int) : Int := if (2 * i + 1) * h - 1 < 60 then (2 * i + 1) * h - 1 else 60
theorem ends_in_eq {h : Int} {c : MG.C} (h0 : 0 < h) (h1 : h ≤ 30) (st : Sto) : gends_in [cD c, .int h] st = some (.ok (.tup [.tup [.int (loE h c.1), .int (loE h c.2)], .tup [.int (hiE h c.1), .int (hiE h c.2)]]), st) := by
  have m0 : ∀ i : Int, mulOk 2 i = true := fun i => mulOk_small (by decide) (by decide)
  have m1 : ∀ i : Int, mulOk i h = true := fun i => mulOk_small' (by omega) (by omega)
  have mlo : ∀ (k : Nat) (i : Int) (ls : Ls), dVar k ls st = okD (.int i) st → dVar 1 ls st = okD (.int h) st → dApp fMax2D [(dC (.int 0)), (dBin fMul (dBin fSub (dBin fMul (dC (.int 2)) (dVar k)) (dC (.int 1))) (dVar 1))] ls st = okD (.int (loE h i)) st := fun k i ls e1 e2 => by
    have e : dBin fMul (dBin fSub (dBin fMul (dC (.int 2)) (dVar k)) (dC (.int 1))) (dVar 1) ls st = okD (.int ((2 * i - 1) * h)) st := mul_eq ((bin_eq (x := .int (2 * i)) (y := .int 1) (st1 := st) (st2 := st) (mul_eq rfl e1 (m0 i)) rfl).trans rfl) e2 (m1 _)
    refine (appE (evA2 (x := .int 0) (y := .int ((2 * i - 1) * h)) (st1 := st) (st2 := st) rfl e)).trans ?_
    show okD (if 0 < (2 * i - 1) * h then D.int ((2 * i - 1) * h) else D.int 0) st = _
    unfold loE
    split <;> rfl
  have mhi : ∀ (k : Nat) (i : Int) (ls : Ls), dVar k ls st = okD (.int i) st → dVar 1 ls st = okD (.int h) st → dApp fMin2D [(dC (.int 60)), (dBin fSub (dBin fMul (dBin fAdd (dBin fMul (dC (.int 2)) (dVar k)) (dC (.int 1))) (dVar 1)) (dC (.int 1)))] ls st = okD (.int (hiE h i)) st := fun k i ls e1 e2 => by
    have e0 : dBin fMul (dBin fAdd (dBin fMul (dC (.int 2)) (dVar k)) (dC (.int 1))) (dVar 1) ls st = okD (.int ((2 * i + 1) * h)) st := mul_eq ((bin_eq (x := .int (2 * i)) (y := .int 1) (st1 := st) (st2 := st) (mul_eq rfl e1 (m0 i)) rfl).trans rfl) e2 (m1 _)
    have e : dBin fSub (dBin fMul (dBin fAdd (dBin fMul (dC (.int 2)) (dVar k)) (dC (.int 1))) (dVar 1)) (dC (.int 1)) ls st = okD (.int ((2 * i + 1) * h - 1)) st := (bin_eq e0 rfl).trans rfl
    refine (appE (evA2 (x := .int 60) (y := .int ((2 * i + 1) * h - 1)) (st1 := st) (st2 := st) rfl e)).trans ?_
    show okD (if (2 * i + 1) * h - 1 < 60 then D.int ((2 * i + 1) * h - 1) else D.int 60) st = _
    unfold hiE
    split <;> rfl
  let l1 : Ls := [some (cD c), some (.int h), some (.int c.1), some (.int c.2), none, none, none]
  let l2 : Ls := [some (cD c), some (.int h), some (.int c.1), some (.int c.2), some (.tup [.int (loE h c.1), .int (loE h c.2)]), none, none]
  let l3 : Ls := [some (cD c), some (.int h), some (.int c.1), some (.int c.2), some (.tup [.int (loE h c.1), .int (loE h c.2)]), some (.int (hiE h c.1)), none]
  let l4 : Ls := [some (cD c), some (.int h), some (.int c.1), some (.int c.2), some (.tup [.int (loE h c.1), .int (loE h c.2)]), some (.int (hiE h c.1)), some (.int (hiE h c.2))]
  refine run_ret (ls := l4) ?_
  refine (dThen_next (ls1 := l1) (st1 := st) (dAsg_next (d := cD c) rfl rfl)).trans ?_
  refine (dThen_next (ls1 := l2) (st1 := st) (dAsg_next (d := .tup [.int (loE h c.1), .int (loE h c.2)]) (tup2_eq' (st1 := st) (mlo 2 c.1 l1 rfl rfl) (mlo 3 c.2 l1 rfl rfl)) rfl)).trans ?_
  refine (dThen_next (ls1 := l3) (st1 := st) (dAsg_next (mhi 2 c.1 l2 rfl rfl) rfl)).trans ?_
  refine (dThen_next (ls1 := l4) (st1 := st) (dAsg_next (mhi 3 c.2 l3 rfl rfl) rfl)).trans (dRet_ok ?_)
  exact tup2_eq' (st1 := st) rfl (tup2_eq' (st1 := st) rfl rfl)
/-! ### the numbers of a part -/
theorem head_of {l : List Nat} {a : Nat} (s : l.Pairwise (· < ·)) (ha : a ∈ l) (hm : ∀ x ∈ l, a ≤ x) : l.head? = some a := by
  cases l with
  | nil => simp at ha
  | cons b r =>
    rcases List.mem_cons.mp ha with e | e
    · rw [e]; rfl
    · have h1 := (List.pairwise_cons.mp s).1 a e
      have h2 := hm b List.mem_cons_self
      omega
theorem last_of {l : List Nat} {a : Nat} (s : l.Pairwise (· < ·)) (ha : a ∈ l) (hm : ∀ x ∈ l, x ≤ a) : l.getLast? = some a := by
  rcases List.eq_nil_or_concat l with hc | ⟨r, b, hc⟩
  · rw [hc] at ha; simp at ha
  · rw [List.concat_eq_append] at hc
    subst hc
    have hb : a = b := by
      rcases List.mem_append.mp ha with e | e
      · have h1 := (List.pairwise_append.mp s).2.2 a e b (by simp)
        have h2 := hm b (by simp)
        omega
      · exact List.mem_singleton.mp e
    rw [hb]
    simp
/-- all k up to 60 in the part q -/
def prt (h q : Int) : List Nat := (List.range 61).filter fun (k : Nat) => decide ((((0 : Int) + (k : Int)) + h) / (2 * h) = q)
theorem prt_iff {h q : Int} (h0 : 0 < h) (k : Int) : ((0 + k) + h) / (2 * h) = q ↔ (2 * q - 1) * h ≤ k ∧ k ≤ (2 * q + 1) * h - 1 := by
  have p : 0 < 2 * h := by omega
  have e1 : ((0 + k) + h) / (2 * h) < q + 1 ↔ (0 + k) + h < (q + 1) * (2 * h) := Int.ediv_lt_iff_lt_mul p
  have e2 : q ≤ ((0 + k) + h) / (2 * h) ↔ q * (2 * h) ≤ (0 + k) + h := Int.le_ediv_iff_mul_le p
  have f1 : (q + 1) * (2 * h) = (2 * q + 1) * h + h := by grind
  have f2 : q * (2 * h) = (2 * q - 1) * h + h := by grind
  rw [f1] at e1
  rw [f2] at e2
  constructor
  · intro e
    have a1 := e1.mp (by omega)
    have a2 := e2.mp (by omega)
    omega
  · intro e
    have a1 := e1.mpr (by omega)
    have a2 := e2.mpr (by omega)
    omega
theorem prt_mem {h q : Int} (h0 : 0 < h) {k : Nat} : k ∈ prt h q ↔ k ≤ 60 ∧ (2 * q - 1) * h ≤ (k : Int) ∧ (k : Int) ≤ (2 * q + 1) * h - 1 := by
  unfold prt
  rw [List.mem_filter, List.mem_range, decide_eq_true_eq, prt_iff h0]
  constructor
  · rintro ⟨a, b⟩
    exact ⟨by omega, b⟩
  · rintro ⟨a, b⟩
    exact ⟨by omega, b⟩
theorem prt_sorted (h q : Int) : (prt h q).Pairwise (· < ·) := List.pairwise_lt_range.filter _
theorem prt_ends {h x : Int} (h0 : 0 < h) (x0 : 0 ≤ x) (x1 : x ≤ 60) : ∃ a b : Nat, (prt h ((x + h * 1) / (2 * h * 1))).head? = some a ∧ (prt h ((x + h * 1) / (2 * h * 1))).getLast? = some b ∧ (a : Int) = loE h ((x + h * 1) / (2 * h * 1)) ∧ (b : Int) = hiE h ((x + h * 1) / (2 * h * 1)) := by
  obtain ⟨q, hq⟩ : ∃ q, q = (x + h * 1) / (2 * h * 1) := ⟨_, rfl⟩
  rw [← hq]
  have hx := (prt_iff (q := q) h0 x).mp (by rw [hq, Int.mul_one, Int.mul_one, Int.zero_add])
  have wide : (2 * q + 1) * h = (2 * q - 1) * h + 2 * h := by grind
  have a0 : 0 ≤ loE h q ∧ loE h q ≤ 60 := by unfold loE; split <;> omega
  have b0 : 0 ≤ hiE h q ∧ hiE h q ≤ 60 := by unfold hiE; split <;> omega
  refine ⟨(loE h q).toNat, (hiE h q).toNat, ?_, ?_, by omega, by omega⟩
  · refine head_of (prt_sorted h q) ((prt_mem h0).mpr ⟨by omega, ?_⟩) fun k hk => ?_
    · have : (((loE h q).toNat : Nat) : Int) = loE h q := by omega
      rw [this]
      unfold loE
      split <;> omega
    · have := (prt_mem h0).mp hk
      have : loE h q ≤ (k : Int) := by unfold loE; split <;> omega
      omega
  · refine last_of (prt_sorted h q) ((prt_mem h0).mpr ⟨by omega, ?_⟩) fun k hk => ?_
    · have : (((hiE h q).toNat : Nat) : Int) = hiE h q := by omega
      rw [this]
      unfold hiE
      split <;> omega
    · have := (prt_mem h0).mp hk
      have : (k : Int) ≤ hiE h q := by unfold hiE; split <;> omega
      omega
theorem ixo_first {st : Sto} {m : Nat} {ro : Bool} {l : List D} {x : D} (h : st[m]? = some (.lst ro l)) (hx : l.head? = some x) : fIx (.obj m) (.int 0) st = okD x st := ixk_eq (k := 0) h (by rw [← List.head?_eq_getElem?]; exact hx)
theorem ixo_last {st : Sto} {m : Nat} {ro : Bool} {l : List D} {x : D} (h : st[m]? = some (.lst ro l)) (hx : l.getLast? = some x) : fIx (.obj m) (.int (-1)) st = okD x st := by
  rcases List.eq_nil_or_concat l with hc | ⟨r, a, hc⟩
  · subst hc; simp at hx
  · rw [List.concat_eq_append] at hc
    subst hc
    simp at hx
    subst hx
    have e : L2.atI (r ++ [a]) (-1) = some a := by
      unfold L2.atI L2.ixN
      have e2 : ((-1 : Int) + (((r ++ [a]).length : Nat) : Int)).toNat = r.length := by simp; omega
      rw [if_neg (by decide), if_pos (by simp; omega), e2]
      simp
    simp only [fIx, h, e]
/-! ### halves at which two points are in one cell -/
theorem eq_c (c d : MG.C) (st : Sto) : fEq (cD c) (cD d) st = okD (.bl (decide (c = d))) st := by
  have t : ∀ c : MG.C, toP st DEEP (cD c) = some (cP c) := fun c => by simp [DEEP, cD, toP, mapO, cP]
  simp only [fEq, eqD, t, sh_c, Bool.and_self, if_true, eqv_c]
def samH (x y x2 y2 : Int) : List Int := (rgI 1 31).filter fun k => decide (cellT k (x, y, 1) = cellT k (x2, y2, 1))
theorem lay_i : ∀ l : List Int, PyData.canLayAll0 (l.map PyData.int) = true
  | [] => by simp [PyData.canLayAll0]
  | c :: l => by simp [PyData.canLayAll0, PyData.canLay0, lay_i l]
theorem dep_i : ∀ l : List Int, PyData.depthAll (l.map PyData.int) = 0
  | [] => by simp [PyData.depthAll]
  | c :: l => by simp [PyData.depthAll, PyData.depth, dep_i l]
theorem toP_is (st : Sto) (n : Nat) : ∀ l : List Int, mapO (toP st (n + 1)) (l.map D.int) = some (l.map PyData.int)
  | [] => rfl
  | c :: l => by
    rw [List.map_cons, mapO, toP_is st n l]
    rfl
theorem ne_ints {st : Sto} {n m : Nat} {a b : Bool} {l : List Int} (h1 : st[n]? = some (.lst a (l.map .int))) (h2 : st[m]? = some (.lst b (l.map .int))) : fNe (.obj n) (.obj m) st = okD (.bl false) st := by
  have e : ∀ {k : Nat} {c : Bool}, st[k]? = some (.lst c (l.map .int)) → toP st DEEP (.obj k) = some (.list (l.map PyData.int)) := fun {k c} h => by
    show toP st 8 (.obj k) = _
    simp only [toP, h, toP_is st 6 l]
  refine ne_self (e h1) (e h2) (by simp [PyData.canLay0, lay_i]) ?_
  have := dep_i l
  simp [PyData.depth]
  omega
theorem ne_cells2 {st : Sto} {n m : Nat} {a b : Bool} {l : List MG.C} (h1 : st[n]? = some (.lst a (l.map cD))) (h2 : st[m]? = some (.lst b (l.map cD))) : fNe (.obj n) (.obj m) st = okD (.bl false) st := by
  have e : ∀ {k : Nat} {c : Bool}, st[k]? = some (.lst c (l.map cD)) → toP st DEEP (.obj k) = some (.list (l.map cP)) := fun {k c} h => by
    show toP st 8 (.obj k) = _
    simp only [toP, h, toP_cs st 5 l]
  refine ne_self (e h1) (e h2) (by simp [PyData.canLay0, lay_cs]) ?_
  have := dep_cs l
  simp [PyData.depth]
  omega
end K35
end
section
set_option maxRecDepth 100000
set_option maxHeartbeats 1000000
namespace K35
open PySem L2 MP
end K35
end
section
set_option maxRecDepth 100000
set_option maxHeartbeats 1000000
namespace K35
open PySem L2 MP
/-! ### cells of the board, numbers of points in them -/
def lastN (h : Int) : Int := (60 + h) / (2 * h)
def OnB (h : Int) (c : MG.C) : Prop := 0 ≤ c.1 ∧ c.1 ≤ lastN h ∧ 0 ≤ c.2 ∧ c.2 ≤ lastN h
theorem lastN_bd {h : Int} (h0 : 0 < h) (h1 : h ≤ 30) : 1 ≤ lastN h ∧ lastN h ≤ 30 ∧ lastN h * (2 * h) ≤ 60 + h := by
  have e1 := Int.ediv_mul_le (60 + h) (show 2 * h ≠ 0 by omega)
  have e2 : 1 ≤ lastN h ↔ 1 * (2 * h) ≤ 60 + h := Int.le_ediv_iff_mul_le (show 0 < 2 * h by omega)
  have e3 : lastN h < 31 ↔ 60 + h < 31 * (2 * h) := Int.ediv_lt_iff_lt_mul (show 0 < 2 * h by omega)
  refine ⟨e2.mpr (by omega), ?_, e1⟩
  by_cases c : h = 1
  · subst c; decide
  · have := e3.mpr (by omega)
    omega
theorem half_ok {h : Int} {i : Nat} {ls : Ls} {st : Sto} (h0 : 0 < h) (h1 : h ≤ 30) (e : dVar i ls st = okD (.int h) st) : dExpr (dApp gcheck_half [(dVar i)]) ls st = some (.next, ls, st) := by
  unfold dExpr
  rw [app1_eq e, half_eq h0 h1]
  rfl
theorem last_eq {h : Int} (h0 : 0 < h) (h1 : h ≤ 30) (st : Sto) : glast_number [.int h] st = some (.ok (.int (lastN h)), st) := by
  have num : gcell_number [.tup [.int 60, .int 1], .int h] st = some (.ok (.int ((60 + h * 1) / (2 * h * 1))), st) := by
    have m1 : mulOk h 1 = true := mulOk_small (by omega) (by omega)
    have m2 : mulOk 2 h = true := mulOk_small (by omega) (by omega)
    have m3 : mulOk (2 * h) 1 = true := mulOk_small (by omega) (by omega)
    have p1 : 0 < 2 * h * 1 := by omega
    have p2 : 2 * h * 1 < 1073741824 := by omega
    simp only [Int.mul_one] at p1 p2
    simp [gcell_number, bcell_number, runD, startL, dRet, dBin, dVar, dC, bindR, bindS, okD, dThen, dAsg, asgK, asg, asgs, fAdd, fMul, fDiv, m1, m2, m3, p1, p2]
  rw [Int.mul_one, Int.mul_one] at num
  refine run_ret (ls := [some (.int h)]) (dRet_ok ?_)
  exact (appE (ds := [.tup [.int 60, .int 1], .int h]) (st1 := st) rfl).trans num
theorem onb_eq {h : Int} {c : MG.C} (h0 : 0 < h) (h1 : h ≤ 30) (b : OnB h c) (st : Sto) : ∃ st', gcheck_cell [cD c, .int h] st = some (.ok .non, st') ∧ Gr st st' := by
  obtain ⟨b0, b1, b2, b3⟩ := b
  refine ⟨st ++ [.lst false [.bl true, .bl true]], ?_, .push⟩
  have ln := fun st => last_eq (h := h) h0 h1 st
  simp [gcheck_cell, bcheck_cell, gis_on_board, bis_on_board, runD, startL, dRet, dBin, dUn, dVar, dC, bindR, bindS, okD, dAnd, fAnd, fNot, fEq, dThen, dIfS, ifK, dNext, dApp, evA, fLen, fAll, dLc, dSeq, bindI, fSeq, compD, gdB, asg, bindO, dYes, wipeL, isn_int, LINE, get_push, set_push, fTru, truD, blsOf, ln, b0, b1, b2, b3, eqD1]
theorem cell_ok {h : Int} {c : MG.C} {i j : Nat} {ls : Ls} {st : Sto} (h0 : 0 < h) (h1 : h ≤ 30) (b : OnB h c) (e : dVar i ls st = okD (cD c) st) (e2 : dVar j ls st = okD (.int h) st) : ∃ st', dExpr (dApp gcheck_cell [(dVar i), (dVar j)]) ls st = some (.next, ls, st') ∧ Gr st st' := by
  obtain ⟨st', e3, s⟩ := onb_eq h0 h1 b st
  refine ⟨st', ?_, s⟩
  unfold dExpr
  rw [appE (evA2 e e2), e3]
  rfl
def uN (h i : Int) : Int := hiE h i - loE h i + 1
def cntN (h : Int) (c : MG.C) : Int := uN h c.1 * uN h c.2
theorem lohi {h i : Int} (h0 : 0 < h) (h1 : h ≤ 30) (i0 : 0 ≤ i) (i1 : i ≤ lastN h) : 0 ≤ loE h i ∧ loE h i ≤ hiE h i ∧ hiE h i ≤ 60 ∧ (2 * i - 1) * h ≤ loE h i ∧ hiE h i ≤ (2 * i + 1) * h - 1 := by
  obtain ⟨_, _, l3⟩ := lastN_bd h0 h1
  have e1 : i * (2 * h) ≤ lastN h * (2 * h) := Int.mul_le_mul_of_nonneg_right i1 (by omega)
  have e2 : (2 * i - 1) * h = i * (2 * h) - h := by grind
  have e3 : (2 * i + 1) * h = i * (2 * h) + h := by grind
  have e4 : 0 ≤ i * (2 * h) := Int.mul_nonneg i0 (by omega)
  unfold loE hiE
  refine ⟨?_, ?_, ?_, ?_, ?_⟩ <;> (repeat' split) <;> omega
theorem uN_bd {h i : Int} (h0 : 0 < h) (h1 : h ≤ 30) (i0 : 0 ≤ i) (i1 : i ≤ lastN h) : 1 ≤ uN h i ∧ uN h i ≤ 61 := by
  have := lohi h0 h1 i0 i1
  unfold uN
  omega
theorem cntN_bd {h : Int} {c : MG.C} (h0 : 0 < h) (h1 : h ≤ 30) (b : OnB h c) : 1 ≤ cntN h c ∧ cntN h c ≤ 3721 := by
  obtain ⟨b0, b1, b2, b3⟩ := b
  have a1 := uN_bd h0 h1 b0 b1
  have a2 := uN_bd h0 h1 b2 b3
  unfold cntN
  have e1 : uN h c.1 * 1 ≤ uN h c.1 * uN h c.2 := Int.mul_le_mul_of_nonneg_left a2.1 (by omega)
  have e2 : uN h c.1 * uN h c.2 ≤ 61 * uN h c.2 := Int.mul_le_mul_of_nonneg_right a1.2 (by omega)
  omega
theorem cnt_eq {h : Int} {c : MG.C} (h0 : 0 < h) (h1 : h ≤ 30) (b : OnB h c) (st : Sto) : gend_count [cD c, .int h] st = some (.ok (.int (cntN h c)), st) := by
  obtain ⟨b0, b1, b2, b3⟩ := b
  have l1 := lohi h0 h1 b0 b1
  have l2 := lohi h0 h1 b2 b3
  let ls : Ls := [some (cD c), some (.int h), some (.int (loE h c.1)), some (.int (loE h c.2)), some (.int (hiE h c.1)), some (.int (hiE h c.2))]
  refine run_ret (ls := ls) ?_
  refine (dThen_next (ls1 := ls) (st1 := st) (dAsg_next (d := .tup [.tup [.int (loE h c.1), .int (loE h c.2)], .tup [.int (hiE h c.1), .int (hiE h c.2)]]) ((appE (ds := [cD c, .int h]) (st1 := st) rfl).trans (ends_in_eq h0 h1 st)) rfl)).trans (dRet_ok ?_)
  refine mul_eq (i := hiE h c.1 - loE h c.1 + 1) (j := hiE h c.2 - loE h c.2 + 1) ?_ ?_ (mulOk_small (by omega) (by omega))
  · exact (bin_eq (sub_eq rfl rfl) rfl).trans rfl
  · exact (bin_eq (sub_eq rfl rfl) rfl).trans rfl
def pcN (h : Int) (a b : MG.C) : Int := if a = b then cntN h a * (cntN h a - 1) else cntN h a * cntN h b
theorem pc_eq {h : Int} {a b : MG.C} (h0 : 0 < h) (h1 : h ≤ 30) (ha : OnB h a) (hb : OnB h b) (st : Sto) : ∃ st', gpiece_count [.int h, cD a, cD b] st = some (.ok (.int (pcN h a b)), st') ∧ Gr st st' := by
  let ls : Ls := [some (.int h), some (cD a), some (cD b)]
  obtain ⟨st1, e1, s1⟩ := cell_ok (i := 1) (j := 0) (ls := ls) (st := st) h0 h1 ha rfl rfl
  obtain ⟨st2, e2, s2⟩ := cell_ok (i := 2) (j := 0) (ls := ls) (st := st1) h0 h1 hb rfl rfl
  have na := cntN_bd h0 h1 ha
  have nb := cntN_bd h0 h1 hb
  refine ⟨st2, ?_, s1.trans s2⟩
  refine run_ret (ls := ls) ?_
  refine (dThen_next (half_ok h0 h1 rfl)).trans ((dThen_next e1).trans ((dThen_next e2).trans ?_))
  have ca : dApp gend_count [(dVar 1), (dVar 0)] ls st2 = okD (.int (cntN h a)) st2 := (appE (ds := [cD a, .int h]) (st1 := st2) rfl).trans (cnt_eq h0 h1 ha st2)
  have cb : dApp gend_count [(dVar 2), (dVar 0)] ls st2 = okD (.int (cntN h b)) st2 := (appE (ds := [cD b, .int h]) (st1 := st2) rfl).trans (cnt_eq h0 h1 hb st2)
  have q : dBin fEq (dVar 1) (dVar 2) ls st2 = okD (.bl (decide (a = b))) st2 := (bin_eq (x := cD a) (y := cD b) (st1 := st2) (st2 := st2) rfl rfl).trans (eq_c a b st2)
  unfold pcN
  by_cases c : a = b
  · rw [decide_eq_true c] at q
    rw [if_pos c]
    exact dThen_ret ((dIf_true q).trans (dRet_ok (mul_eq ca ((bin_eq ca rfl).trans rfl) (mulOk_small (by omega) (by omega)))))
  · rw [decide_eq_false c] at q
    rw [if_neg c]
    exact (dThen_next (if_no q)).trans (dRet_ok (mul_eq ca cb (mulOk_small (by omega) (by omega))))
theorem pcN_comm (h : Int) (a b : MG.C) : pcN h a b = pcN h b a := by
  unfold pcN
  by_cases c : a = b
  · rw [c]
  · rw [if_neg c, if_neg (Ne.symm c), Int.mul_comm]
theorem pcN_bd {h : Int} {a b : MG.C} (h0 : 0 < h) (h1 : h ≤ 30) (ha : OnB h a) (hb : OnB h b) : 0 ≤ pcN h a b ∧ pcN h a b ≤ 20000000 := by
  have na := cntN_bd h0 h1 ha
  have nb := cntN_bd h0 h1 hb
  unfold pcN
  split
  · have e1 : 0 ≤ cntN h a * (cntN h a - 1) := Int.mul_nonneg (by omega) (by omega)
    have e2 : cntN h a * (cntN h a - 1) ≤ cntN h a * 3721 := Int.mul_le_mul_of_nonneg_left (by omega) (by omega)
    omega
  · have e1 : 0 ≤ cntN h a * cntN h b := Int.mul_nonneg (by omega) (by omega)
    have e2 : cntN h a * cntN h b ≤ cntN h a * 3721 := Int.mul_le_mul_of_nonneg_left (by omega) (by omega)
    omega
/-! whole counts -/
theorem in12 (n : Int) (st : Sto) (h : n = 1 ∨ n = 2) : fNotInG (.int n) (.tup [.int 1, .int 2]) st = okD (.bl false) st := by
  rcases h with rfl | rfl <;> rfl
theorem wc1_eq {h : Int} {a : MG.C} {st : Sto} (h0 : 0 < h) (h1 : h ≤ 30) (ha : OnB h a) : ∃ st', gwhole_count [.int h, .tup [cD a]] st = some (.ok (.int (pcN h a a)), st') ∧ Gr st st' := by
  let ls : Ls := [some (.int h), some (.tup [cD a])]
  obtain ⟨st1, e1, s1⟩ := pc_eq h0 h1 ha ha st
  have pb := pcN_bd h0 h1 ha ha
  refine ⟨st1, ?_, s1⟩
  refine run_ret (ls := ls) ?_
  refine (dThen_next (half_ok h0 h1 rfl)).trans ?_
  have c0 : dOr (dBin fNotInG (dApp fLen [(dVar 1)]) (dApp fTup [(dC (.int 1)), (dC (.int 2))])) (dAnd (dBin fEq (dApp fLen [(dVar 1)]) (dC (.int 2))) (dBin fGeD (dBin fIx (dVar 1) (dC (.int 0))) (dBin fIx (dVar 1) (dC (.int 1))))) ls st = okD (.bl false) st := by
    unfold dOr
    rw [show dBin fNotInG (dApp fLen [(dVar 1)]) (dApp fTup [(dC (.int 1)), (dC (.int 2))]) ls st = okD (.bl false) st from (bin_eq (x := .int 1) (y := .tup [.int 1, .int 2]) (st1 := st) (st2 := st) rfl rfl).trans (in12 1 st (.inl rfl))]
    show dAnd (dBin fEq (dApp fLen [(dVar 1)]) (dC (.int 2))) (dBin fGeD (dBin fIx (dVar 1) (dC (.int 0))) (dBin fIx (dVar 1) (dC (.int 1)))) ls st = _
    unfold dAnd
    rw [show dBin fEq (dApp fLen [(dVar 1)]) (dC (.int 2)) ls st = okD (.bl false) st from (bin_eq (x := .int 1) (y := .int 2) (st1 := st) (st2 := st) rfl rfl).trans (by simp [fEq, eqD1])]
    rfl
  refine (dThen_next (if_no c0)).trans (dRet_ok ?_)
  have ec : dApp gpiece_count [(dVar 0), (dBin fIx (dVar 1) (dC (.int 0))), (dBin fIx (dVar 1) (dUn fNeg (dC (.int 1))))] ls st = okD (.int (pcN h a a)) st1 := (appE (ds := [.int h, cD a, cD a]) (st1 := st) rfl).trans e1
  refine (bin_eq (x := .int 1) (y := .int (pcN h a a)) (st1 := st) (st2 := st1) rfl ec).trans ?_
  simp only [fMul, mulOk_small (i := 1) (j := pcN h a a) (by decide) (by decide), if_true, Int.one_mul]
theorem geT_lt {a b : MG.C} (h : lt2 a b = true) : geT [a.1, a.2] [b.1, b.2] = false := by
  have := lt2_iff.mp h
  unfold geT
  simp only [List.length_cons, List.length_nil, Nat.min_self]
  simp only [Ob.lexAt]
  rcases this with c | ⟨c1, c2⟩
  · have n1 : ¬ a.1 = b.1 := by omega
    have n2 : ¬ b.1 ≤ a.1 := by omega
    simp [n1, n2]
  · have n1 : ¬ a.2 = b.2 := by omega
    have n2 : ¬ b.2 ≤ a.2 := by omega
    simp [c1, n1, n2]
theorem ge_c {a b : MG.C} (h : lt2 a b = true) (st : Sto) : fGeD (cD a) (cD b) st = okD (.bl false) st := by
  have e : fGeD (cD a) (cD b) st = okD (.bl (geT [a.1, a.2] [b.1, b.2])) st := rfl
  rw [e, geT_lt h]
theorem wc2_eq {h : Int} {a b : MG.C} {st : Sto} (h0 : 0 < h) (h1 : h ≤ 30) (ha : OnB h a) (hb : OnB h b) (hlt : lt2 a b = true) : ∃ st', gwhole_count [.int h, .tup [cD a, cD b]] st = some (.ok (.int (2 * pcN h a b)), st') ∧ Gr st st' := by
  let ls : Ls := [some (.int h), some (.tup [cD a, cD b])]
  obtain ⟨st1, e1, s1⟩ := pc_eq h0 h1 ha hb st
  refine ⟨st1, ?_, s1⟩
  refine run_ret (ls := ls) ?_
  refine (dThen_next (half_ok h0 h1 rfl)).trans ?_
  have c0 : dOr (dBin fNotInG (dApp fLen [(dVar 1)]) (dApp fTup [(dC (.int 1)), (dC (.int 2))])) (dAnd (dBin fEq (dApp fLen [(dVar 1)]) (dC (.int 2))) (dBin fGeD (dBin fIx (dVar 1) (dC (.int 0))) (dBin fIx (dVar 1) (dC (.int 1))))) ls st = okD (.bl false) st := by
    unfold dOr
    rw [show dBin fNotInG (dApp fLen [(dVar 1)]) (dApp fTup [(dC (.int 1)), (dC (.int 2))]) ls st = okD (.bl false) st from (bin_eq (x := .int 2) (y := .tup [.int 1, .int 2]) (st1 := st) (st2 := st) rfl rfl).trans (in12 2 st (.inr rfl))]
    show dAnd (dBin fEq (dApp fLen [(dVar 1)]) (dC (.int 2))) (dBin fGeD (dBin fIx (dVar 1) (dC (.int 0))) (dBin fIx (dVar 1) (dC (.int 1)))) ls st = _
    unfold dAnd
    rw [show dBin fEq (dApp fLen [(dVar 1)]) (dC (.int 2)) ls st = okD (.bl true) st from (bin_eq (x := .int 2) (y := .int 2) (st1 := st) (st2 := st) rfl rfl).trans (by simp [fEq, eqD1])]
    show dBin fGeD (dBin fIx (dVar 1) (dC (.int 0))) (dBin fIx (dVar 1) (dC (.int 1))) ls st = _
    exact (bin_eq (x := cD a) (y := cD b) (st1 := st) (st2 := st) rfl rfl).trans (ge_c hlt st)
  refine (dThen_next (if_no c0)).trans (dRet_ok ?_)
  have ec : dApp gpiece_count [(dVar 0), (dBin fIx (dVar 1) (dC (.int 0))), (dBin fIx (dVar 1) (dUn fNeg (dC (.int 1))))] ls st = okD (.int (pcN h a b)) st1 := (appE (ds := [.int h, cD a, cD b]) (st1 := st) rfl).trans e1
  refine (bin_eq (x := .int 2) (y := .int (pcN h a b)) (st1 := st) (st2 := st1) rfl ec).trans ?_
  simp only [fMul, mulOk_small (i := 2) (j := pcN h a b) (by decide) (by decide), if_true]
end K35
end
section
set_option maxRecDepth 100000
set_option maxHeartbeats 1000000
namespace K35
open PySem L2 MP
/-! ### the board -/
def rowC (h i : Int) : List MG.C := (rgI 0 (lastN h + 1)).map fun j => (i, j)
def boardL (h : Int) : List MG.C := (rgI 0 (lastN h + 1)).flatMap (rowC h)
theorem board_mem {h : Int} {c : MG.C} : c ∈ boardL h ↔ OnB h c := by
  obtain ⟨i, j⟩ := c
  unfold boardL rowC OnB
  simp only [List.mem_flatMap, List.mem_map, rgI_mem, Prod.mk.injEq]
  constructor
  · rintro ⟨a, ha, b, hb, rfl, rfl⟩
    omega
  · rintro ⟨h1, h2, h3, h4⟩
    exact ⟨i, by omega, j, by omega, rfl, rfl⟩
theorem nodup_mapI {α β : Type} {f : α → β} (hf : ∀ a b, f a = f b → a = b) : ∀ {l : List α}, l.Nodup → (l.map f).Nodup
  | [], _ => by simp
  | a :: l, h => by
    rw [List.nodup_cons] at h
    rw [List.map_cons, List.nodup_cons]
    refine ⟨fun z => ?_, nodup_mapI hf h.2⟩
    obtain ⟨b, hb, e⟩ := List.mem_map.mp z
    exact h.1 (hf _ _ e ▸ hb)
theorem nodup_flatI {α β γ : Type} {f : α → List β} {key : β → γ} {k2 : α → γ} (hk : ∀ a, ∀ b ∈ f a, key b = k2 a) (hi : ∀ a b, k2 a = k2 b → a = b) (hn : ∀ a, (f a).Nodup) : ∀ {l : List α}, l.Nodup → (l.flatMap f).Nodup
  | [], _ => by simp
  | a :: l, h => by
    rw [List.nodup_cons] at h
    rw [List.flatMap_cons, List.nodup_append]
    refine ⟨hn a, nodup_flatI hk hi hn h.2, fun x hx y hy e => ?_⟩
    obtain ⟨b, hb, hy⟩ := List.mem_flatMap.mp hy
    have := (hk a x hx).symm.trans ((congrArg key e).trans (hk b y hy))
    exact h.1 (hi _ _ this ▸ hb)
theorem rgI_ndI (a b : Int) : (rgI a b).Nodup := by
  unfold rgI
  exact nodup_mapI (fun x y h => by omega) List.nodup_range
theorem board_nd (h : Int) : (boardL h).Nodup := by
  unfold boardL
  refine nodup_flatI (key := fun x : MG.C => x.1) (k2 := fun i => i) (fun i x hx => ?_) (fun _ _ h => h) (fun i => nodup_mapI (fun x y h => by simpa using h) (rgI_ndI _ _)) (rgI_ndI _ _)
  obtain ⟨j, _, rfl⟩ := List.mem_map.mp hx
  rfl
theorem rowC_len {h : Int} (h0 : 0 < h) (h1 : h ≤ 30) (i : Int) : (rowC h i).length ≤ 31 := by
  have := lastN_bd h0 h1
  unfold rowC rgI
  rw [List.length_map, List.length_map, List.length_range]
  omega
abbrev bB : Ds := (dAsg (dBin fAdd (dVar 2) (dLc (dAppI fRange [(dBin fAdd (dVar 1) (dC (.int 1)))]) (.nm 4) dYes (dApp fTup [(dVar 3), (dVar 4)]) [4])) (.nm 2))
theorem bB_eq {h i : Int} {m : Nat} {acc : List MG.C} {a0 a4 : Option D} {st : Sto} (h0 : 0 < h) (h1 : h ≤ 30) (hm : st[m]? = some (.lst false (acc.map cD))) (hl : acc.length ≤ 1000) :
    ∃ m' st', bB [a0, some (.int (lastN h)), some (.obj m), some (.int i), none] st = some (.next, [a0, some (.int (lastN h)), some (.obj m'), some (.int i), none], st') ∧ st'[m']? = some (.lst false ((acc ++ rowC h i).map cD)) ∧ Gr st st' := by
  have lb := lastN_bd h0 h1
  have rl := rowC_len h0 h1 i
  obtain ⟨st1, e1, k1, s1⟩ := lc_gen (t := .nm 4) (dt := dYes) (de := (dApp fTup [(dVar 3), (dVar 4)])) (vs := [4]) (ls := [a0, some (.int (lastN h)), some (.obj m), some (.int i), none]) (di := dAppI fRange [(dBin fAdd (dVar 1) (dC (.int 1)))]) (gd := .no) (B := st) (st := st) (f := D.int) (P := fun _ => true) (g := fun j => cD (i, j)) (xs := rgI 0 (lastN h + 1))
    (range1_it (b := lastN h + 1) (evA1 ((bin_eq (x := .int (lastN h)) (y := .int 1) (st1 := st) (st2 := st) rfl rfl).trans rfl)) ⟨by omega, by omega⟩) (fun _ _ => rfl) (by unfold rgI LINE; rw [List.length_map, List.length_range]; omega)
    (fun j hj st s => ⟨[a0, some (.int (lastN h)), some (.obj m), some (.int i), some (.int j)], st, rfl, rfl, .refl _, fun _ => ⟨st, rfl, .refl _⟩⟩)
  rw [filt_all] at k1
  have k1' : st1[st.length]? = some (.lst false ((rowC h i).map cD)) := by
    rw [k1]
    unfold rowC
    rw [List.map_map]
    rfl
  have e2 := addl_eq (s1.at hm) k1' (by rw [List.length_map, List.length_map]; omega)
  refine ⟨st1.length, st1 ++ [Cell.lst false ((acc ++ rowC h i).map cD)], dAsg_next (d := .obj st1.length) ?_ rfl, get_push, s1.trans .push⟩
  refine (bin_eq (x := .obj m) (y := .obj st.length) (st1 := st) (st2 := st1) rfl e1).trans ?_
  rw [e2, List.map_append]
theorem bLoop {h : Int} {a0 : Option D} (h0 : 0 < h) (h1 : h ≤ 30) : ∀ (is : List Int) (m : Nat) (acc : List MG.C) (a3 : Option D) (st : Sto), st[m]? = some (.lst false (acc.map cD)) → acc.length + 31 * is.length ≤ 1000 →
    ∃ m' p3 st', forD .no (.nm 3) bB (is.map .int) [a0, some (.int (lastN h)), some (.obj m), a3, none] st = some (.next, [a0, some (.int (lastN h)), some (.obj m'), p3, none], st') ∧ st'[m']? = some (.lst false ((acc ++ is.flatMap (rowC h)).map cD)) ∧ Gr st st'
  | [], m, acc, a3, st, hm, _ => ⟨m, a3, st, by simp [forD, gdB], by simpa using hm, .refl _⟩
  | i :: is, m, acc, a3, st, hm, hl => by
    simp only [List.length_cons] at hl
    obtain ⟨m1, st1, e1, g1, s1⟩ := bB_eq (a0 := a0) (a4 := none) (i := i) h0 h1 hm (by omega)
    have rl := rowC_len h0 h1 i
    obtain ⟨m2, p3, st2, e2, g2, s2⟩ := bLoop (a0 := a0) h0 h1 is m1 (acc ++ rowC h i) (some (.int i)) st1 g1 (by rw [List.length_append]; omega)
    refine ⟨m2, p3, st2, (forD_next (xs := is.map .int) rfl rfl e1).trans e2, ?_, s1.trans s2⟩
    rw [g2, List.flatMap_cons, List.append_assoc]
theorem board_len {h : Int} (h0 : 0 < h) (h1 : h ≤ 30) : (boardL h).length ≤ 1000 := by
  have lb := lastN_bd h0 h1
  have : ∀ l : List Int, (l.flatMap (rowC h)).length ≤ 31 * l.length := fun l => by
    induction l with
    | nil => simp
    | cons a l ih =>
      rw [List.flatMap_cons, List.length_append, List.length_cons]
      have := rowC_len h0 h1 a
      omega
  have q := this (rgI 0 (lastN h + 1))
  have ql : (rgI 0 (lastN h + 1)).length ≤ 31 := by unfold rgI; rw [List.length_map, List.length_range]; omega
  unfold boardL
  omega
/-! ### sums -/
theorem all_points : (rgI 5 31).all (fun h => decide (((boardL h).map (cntN h)).sum = 3721)) = true := by decide +kernel
theorem points {h : Int} (h0 : 5 ≤ h) (h1 : h ≤ 30) : ((boardL h).map (cntN h)).sum = 3721 := by
  have := List.all_eq_true.mp all_points h (rgI_mem.mpr ⟨h0, by omega⟩)
  exact of_decide_eq_true this
theorem sum_pc (h : Int) (a : MG.C) : ∀ l : List MG.C, (l.map (pcN h a)).sum = cntN h a * (l.map (cntN h)).sum - cntN h a * (l.count a : Nat)
  | [] => by simp
  | c :: l => by
    rw [List.map_cons, List.sum_cons, List.map_cons, List.sum_cons, sum_pc h a l, List.count_cons]
    unfold pcN
    by_cases e : a = c
    · rw [if_pos e, e]
      simp only [beq_self_eq_true, if_true]
      rw [Int.natCast_add]
      grind
    · rw [if_neg e]
      have : (c == a) = false := beq_eq_false_iff_ne.mpr (Ne.symm e)
      rw [this]
      simp only [Bool.false_eq_true, if_false, Nat.add_zero]
      grind
theorem total_eq {h : Int} {a : MG.C} (h0 : 5 ≤ h) (h1 : h ≤ 30) (ha : OnB h a) : ((boardL h).map (pcN h a)).sum = 3720 * cntN h a := by
  rw [sum_pc, points h0 h1]
  have : (boardL h).count a = 1 := (board_nd h).count.trans (if_pos (board_mem.mpr ha))
  rw [this]
  grind
theorem filter_one {α : Type} {P : α → Bool} {a : α} : ∀ {l : List α}, l.Nodup → a ∈ l → (∀ x ∈ l, P x = true ↔ x = a) → l.filter P = [a]
  | [], _, h, _ => by simp at h
  | b :: l, nd, h, hp => by
    rw [List.nodup_cons] at nd
    rw [List.filter_cons]
    by_cases e : b = a
    · subst e
      rw [if_pos ((hp b List.mem_cons_self).mpr rfl)]
      have : l.filter P = [] := by
        rw [List.filter_eq_nil_iff]
        intro x hx hpx
        have := (hp x (List.mem_cons_of_mem _ hx)).mp hpx
        exact nd.1 (this ▸ hx)
      rw [this]
    · have : ¬ P b = true := fun z => e ((hp b List.mem_cons_self).mp z)
      rw [if_neg this]
      exact filter_one nd.2 (by rcases List.mem_cons.mp h with q | q; exact absurd q.symm e; exact q) (fun x hx => hp x (List.mem_cons_of_mem _ hx))
end K35
end
section
set_option maxRecDepth 100000
set_option maxHeartbeats 1000000
namespace K35
open PySem L2 MP
/-! ### first pieces -/
def loP (h : Int) (c : MG.C) : Int × Int := (loE h c.1, loE h c.2)
def nxP (h : Int) (c : MG.C) : Int × Int := if loE h c.2 < hiE h c.2 then (loE h c.1, loE h c.2 + 1) else (loE h c.1 + 1, loE h c.2)
def fp (h : Int) (a b : MG.C) : P4 := (loP h a, if a = b then nxP h b else loP h b)
theorem ne_c (c d : MG.C) (st : Sto) : fNe (cD c) (cD d) st = okD (.bl (!decide (c = d))) st := by
  have t : ∀ c : MG.C, toP st DEEP (cD c) = some (cP c) := fun c => by simp [DEEP, cD, toP, mapO, cP]
  simp only [fNe, eqD, t, sh_c, Bool.and_self, if_true, eqv_c]
theorem eqi (a b : Int) (st : Sto) : fEq (.int a) (.int b) st = okD (.bl (decide (a = b))) st := by
  simp only [fEq, eqD1]
  congr 2
theorem dIf_t {dc da db : De} {ls : Ls} {st st1 : Sto} (h : dc ls st = okD (.bl true) st1) : dIf dc da db ls st = da ls st1 := by
  unfold dIf
  rw [h]
  rfl
theorem dIf_f {dc da db : De} {ls : Ls} {st st1 : Sto} (h : dc ls st = okD (.bl false) st1) : dIf dc da db ls st = db ls st1 := by
  unfold dIf
  rw [h]
  rfl
theorem firstp_eq {h : Int} {a b : MG.C} (h0 : 0 < h) (h1 : h ≤ 30) (ha : OnB h a) (hb : OnB h b) (st : Sto) : ∃ st', gfirst_piece [.int h, cD a, cD b] st = some (.ok (if pcN h a b = 0 then .non else pd (fp h a b)), st') ∧ Gr st st' := by
  obtain ⟨st1, e1, s1⟩ := pc_eq h0 h1 ha hb st
  refine ⟨st1, ?_, s1⟩
  let l0 : Ls := [some (.int h), some (cD a), some (cD b), none, none, none, none, none]
  let l1 : Ls := [some (.int h), some (cD a), some (cD b), some (.tup [.int (loE h a.1), .int (loE h a.2)]), some (.tup [.int (hiE h a.1), .int (hiE h a.2)]), none, none, none]
  let l2 : Ls := [some (.int h), some (cD a), some (cD b), some (.tup [.int (loE h a.1), .int (loE h a.2)]), some (.int (hiE h b.1)), some (.int (loE h b.1)), some (.int (loE h b.2)), some (.int (hiE h b.2))]
  have c0 : dBin fEq (dApp gpiece_count [(dVar 0), (dVar 1), (dVar 2)]) (dC (.int 0)) l0 st = okD (.bl (decide (pcN h a b = 0))) st1 := (bin_eq (x := .int (pcN h a b)) (y := .int 0) (st1 := st1) (st2 := st1) ((appE (ds := [.int h, cD a, cD b]) (st1 := st) rfl).trans e1) rfl).trans (eqi _ _ _)
  by_cases hz : pcN h a b = 0
  · rw [if_pos hz]
    rw [decide_eq_true hz] at c0
    exact run_ret (ls := l0) (dThen_ret ((dIf_true c0).trans (dRet_ok rfl)))
  · rw [if_neg hz]
    rw [decide_eq_false hz] at c0
    refine run_ret (ls := l2) ?_
    refine (dThen_next (if_no c0)).trans ?_
    refine (dThen_next (ls1 := l1) (st1 := st1) (dAsg_next (d := .tup [.tup [.int (loE h a.1), .int (loE h a.2)], .tup [.int (hiE h a.1), .int (hiE h a.2)]]) ((appE (ds := [cD a, .int h]) (st1 := st1) rfl).trans (ends_in_eq h0 h1 st1)) rfl)).trans ?_
    refine (dThen_next (ls1 := l2) (st1 := st1) (dAsg_next (d := .tup [.tup [.int (loE h b.1), .int (loE h b.2)], .tup [.int (hiE h b.1), .int (hiE h b.2)]]) ((appE (ds := [cD b, .int h]) (st1 := st1) rfl).trans (ends_in_eq h0 h1 st1)) rfl)).trans ?_
    have q : dBin fNe (dVar 1) (dVar 2) l2 st1 = okD (.bl (!decide (a = b))) st1 := (bin_eq (x := cD a) (y := cD b) (st1 := st1) (st2 := st1) rfl rfl).trans (ne_c a b st1)
    unfold fp
    by_cases c : a = b
    · rw [decide_eq_true c] at q
      rw [if_pos c]
      refine (dThen_next (if_no q)).trans (dRet_ok ?_)
      have ql : dBin fLt (dVar 6) (dVar 7) l2 st1 = okD (.bl (decide (loE h b.2 < hiE h b.2))) st1 := (bin_eq (x := .int (loE h b.2)) (y := .int (hiE h b.2)) (st1 := st1) (st2 := st1) rfl rfl).trans rfl
      unfold nxP
      by_cases cl : loE h b.2 < hiE h b.2
      · rw [decide_eq_true cl] at ql
        rw [if_pos cl]
        exact (bin_eq (x := .tup [.int (loE h a.1), .int (loE h a.2)]) (y := .tup [.int (loE h b.1), .int (loE h b.2 + 1)]) (st1 := st1) (st2 := st1) rfl ((dIf_t ql).trans (tup2_eq' (st1 := st1) rfl ((bin_eq (x := .int (loE h b.2)) (y := .int 1) (st1 := st1) (st2 := st1) rfl rfl).trans rfl)))).trans rfl
      · rw [decide_eq_false cl] at ql
        rw [if_neg cl]
        exact (bin_eq (x := .tup [.int (loE h a.1), .int (loE h a.2)]) (y := .tup [.int (loE h b.1 + 1), .int (loE h b.2)]) (st1 := st1) (st2 := st1) rfl ((dIf_f ql).trans (tup2_eq' (st1 := st1) ((bin_eq (x := .int (loE h b.1)) (y := .int 1) (st1 := st1) (st2 := st1) rfl rfl).trans rfl) rfl))).trans rfl
    · rw [decide_eq_false c] at q
      rw [if_neg c]
      refine dThen_ret ((dIf_true q).trans (dRet_ok ?_))
      exact (bin_eq (x := .tup [.int (loE h a.1), .int (loE h a.2)]) (y := .tup [.int (loE h b.1), .int (loE h b.2)]) (st1 := st1) (st2 := st1) rfl rfl).trans rfl
/-! what such a piece is -/
theorem part_at {h i x : Int} (h0 : 0 < h) (l : (2 * i - 1) * h ≤ x) (r : x ≤ (2 * i + 1) * h - 1) : (x + h * 1) / (2 * h * 1) = i := by
  have := (prt_iff (q := i) h0 x).mpr ⟨l, r⟩
  rw [Int.zero_add] at this
  rw [Int.mul_one, Int.mul_one]
  exact this
theorem fp_facts {h : Int} {a b : MG.C} (h0 : 0 < h) (h1 : h ≤ 30) (ha : OnB h a) (hb : OnB h b) (hz : pcN h a b ≠ 0) : Pv (fp h a b) ∧ endC h (fp h a b) 0 = a ∧ endC h (fp h a b) 1 = b := by
  obtain ⟨a0, a1, a2, a3⟩ := ha
  obtain ⟨b0, b1, b2, b3⟩ := hb
  have la1 := lohi h0 h1 a0 a1
  have la2 := lohi h0 h1 a2 a3
  have lb1 := lohi h0 h1 b0 b1
  have lb2 := lohi h0 h1 b2 b3
  have ea : endC h (fp h a b) 0 = a := by
    show ((loE h a.1 + h * 1) / (2 * h * 1), (loE h a.2 + h * 1) / (2 * h * 1)) = a
    rw [part_at (i := a.1) h0 (by omega) (by omega), part_at (i := a.2) h0 (by omega) (by omega)]
  by_cases c : a = b
  · subst c
    have hn : ¬ (loE h a.1 = hiE h a.1 ∧ loE h a.2 = hiE h a.2) := by
      rintro ⟨q1, q2⟩
      apply hz
      unfold pcN
      rw [if_pos rfl]
      have u1 : uN h a.1 = 1 := by unfold uN; omega
      have u2 : uN h a.2 = 1 := by unfold uN; omega
      unfold cntN
      rw [u1, u2]
      rfl
    by_cases cl : loE h a.2 < hiE h a.2
    · have ef : fp h a a = ((loE h a.1, loE h a.2), (loE h a.1, loE h a.2 + 1)) := by
        unfold fp nxP loP
        rw [if_pos rfl, if_pos cl]
      refine ⟨?_, ea, ?_⟩
      · rw [ef]
        constructor <;> simp only <;> omega
      · rw [ef]
        show ((loE h a.1 + h * 1) / (2 * h * 1), (loE h a.2 + 1 + h * 1) / (2 * h * 1)) = a
        rw [part_at (i := a.1) h0 (by omega) (by omega), part_at (i := a.2) h0 (by omega) (by omega)]
    · have ef : fp h a a = ((loE h a.1, loE h a.2), (loE h a.1 + 1, loE h a.2)) := by
        unfold fp nxP loP
        rw [if_pos rfl, if_neg cl]
      refine ⟨?_, ea, ?_⟩
      · rw [ef]
        constructor <;> simp only <;> omega
      · rw [ef]
        show ((loE h a.1 + 1 + h * 1) / (2 * h * 1), (loE h a.2 + h * 1) / (2 * h * 1)) = a
        rw [part_at (i := a.1) h0 (by omega) (by omega), part_at (i := a.2) h0 (by omega) (by omega)]
  · have ef : fp h a b = ((loE h a.1, loE h a.2), (loE h b.1, loE h b.2)) := by
      unfold fp loP
      rw [if_neg c]
    have eb : endC h (fp h a b) 1 = b := by
      rw [ef]
      show ((loE h b.1 + h * 1) / (2 * h * 1), (loE h b.2 + h * 1) / (2 * h * 1)) = b
      rw [part_at (i := b.1) h0 (by omega) (by omega), part_at (i := b.2) h0 (by omega) (by omega)]
    refine ⟨?_, ea, eb⟩
    have hne : ¬ (loE h a.1 = loE h b.1 ∧ loE h a.2 = loE h b.2) := by
      rintro ⟨q1, q2⟩
      apply c
      have p1 := part_at (i := a.1) (x := loE h a.1) h0 (by omega) (by omega)
      have p2 := part_at (i := a.2) (x := loE h a.2) h0 (by omega) (by omega)
      have p3 := part_at (i := b.1) (x := loE h b.1) h0 (by omega) (by omega)
      have p4 := part_at (i := b.2) (x := loE h b.2) h0 (by omega) (by omega)
      rw [q1] at p1
      rw [q2] at p2
      exact Prod.ext (p1.symm.trans p3) (p2.symm.trans p4)
    rw [ef]
    constructor <;> simp only <;> first | omega | exact hne
/-! a drawing of one piece -/
theorem good_one {p : P4} (v : Pv p) : Good [p] := ⟨fun q hq => by rw [List.mem_singleton.mp hq]; exact v, by simp, fun i q hq => by
  cases i with
  | zero => simp
  | succ i => simp at hq⟩
theorem marks_one (h : Int) (p : P4) : marksL h [p] = [(endC h p 0, [0, 0]), (endC h p 1, [0, 1])] := rfl
theorem keys_one {a b : MG.C} : (ofM [(a, [0, 0]), (b, [0, 1])]).map (·.1) = if a = b then [a] else [a, b] := by
  unfold ofM foldE
  simp only [List.map_cons, List.map_nil, List.foldl_cons, List.foldl_nil, tE]
  rw [addV_keys, addV_keys]
  by_cases c : a = b
  · simp [c]
  · simp [c, Ne.symm c]
theorem keyL_one {a b : MG.C} : keyL [(a, [0, 0]), (b, [0, 1])] = if a = b then [a] else [mn a b, mx a b] := by
  unfold keyL
  rw [keys_one]
  by_cases c : a = b
  · rw [if_pos c, if_pos c]
    rfl
  · rw [if_neg c, if_neg c, sort_two]
theorem lexC2 (a b : MG.C) : HT.lexLt [a.1, a.2] [b.1, b.2] = lt2 a b := by
  rw [HT.lexLt_cons, HT.lexLt_cons, HT.lexLt_nil_nil]
  by_cases h : lt2 a b = true
  · rw [h]
    rcases lt2_iff.mp h with c | ⟨c1, c2⟩
    · rw [if_neg (by omega), decide_eq_true c]
    · rw [if_pos c1, if_neg (by omega), decide_eq_true c2]
  · have h' : lt2 a b = false := by simpa using h
    rw [h']
    rw [lt2_iff] at h
    by_cases c1 : a.1 = b.1
    · rw [if_pos c1]
      by_cases c2 : a.2 = b.2
      · rw [if_pos c2]
      · rw [if_neg c2, decide_eq_false (by omega)]
    · rw [if_neg c1, decide_eq_false (by omega)]
theorem sortU_two (a b : MG.C) : (sortU [row2c a, row2c b]).map tupI = (if a = b then [a] else [mn a b, mx a b]).map cD := by
  have e : sortU [row2c a, row2c b] = if row2c a = row2c b then [row2c b] else if HT.lexLt (row2c a) (row2c b) then [row2c a, row2c b] else [row2c b, row2c a] := by
    simp only [sortU, insU]
  have er : row2c a = row2c b ↔ a = b := by
    unfold row2c
    constructor
    · intro h
      simp only [List.cons.injEq, and_true] at h
      exact Prod.ext h.1 h.2
    · intro h
      rw [h]
  rw [e]
  by_cases c : a = b
  · rw [if_pos (er.mpr c), if_pos c, c]
    rfl
  · rw [if_neg (fun z => c (er.mp z)), if_neg c]
    have hl : HT.lexLt (row2c a) (row2c b) = lt2 a b := lexC2 a b
    rw [hl]
    cases h : lt2 a b with
    | true =>
      have h2 : lt2 b a = false := lt2_asym h
      have e1 : mn a b = a := by unfold mn; rw [h2]; rfl
      have e2 : mx a b = b := by unfold mx; rw [h]; rfl
      rw [e1, e2]
      rfl
    | false =>
      have h2 : lt2 b a = true := by
        have n1 : ¬ lt2 a b = true := by rw [h]; exact Bool.false_ne_true
        rw [lt2_iff] at n1
        rw [lt2_iff]
        obtain ⟨a1, a2⟩ := a
        obtain ⟨b1, b2⟩ := b
        simp only at n1 ⊢
        by_cases q1 : a1 = b1
        · by_cases q2 : a2 = b2
          · exact absurd (by rw [q1, q2]) c
          · omega
        · omega
      have e1 : mn a b = b := by unfold mn; rw [h2]; rfl
      have e2 : mx a b = a := by unfold mx; rw [h]; rfl
      rw [e1, e2]
      rfl
theorem two_of4 {l : List MG.C} {a b : MG.C} (nd : l.Nodup) (hh : l.head? = some a) (hl : l.getLast? = some b) (hm : ∀ x ∈ l, x = a ∨ x = b) : l = if a = b then [a] else [a, b] := by
  match l, nd, hh, hl, hm with
  | [x], nd, hh, hl, hm =>
    simp at hh hl
    subst hh
    rw [if_pos hl]
  | [x, y], nd, hh, hl, hm =>
    simp at hh hl nd
    subst hh hl
    rw [if_neg nd]
  | x :: y :: z :: r, nd, hh, hl, hm =>
    exfalso
    simp only [List.head?_cons, Option.some.injEq] at hh
    subst hh
    have ny := hm y (by simp)
    have nz := hm z (by simp)
    simp only [List.nodup_cons, List.mem_cons, not_or] at nd
    obtain ⟨⟨h1, h2, _⟩, ⟨h3, _⟩, _⟩ := nd
    rcases ny with q | q
    · exact h1 q.symm
    · rcases nz with w | w
      · exact h2 w.symm
      · exact h3 (q.trans w.symm)
theorem chain_one {h : Int} {p : P4} (v : Pv p) (h0 : 0 < h) : chP h [p] p = if endC h p 0 = endC h p 1 then [endC h p 0] else [endC h p 0, endC h p 1] := by
  refine two_of4 (chP_nd v h0) (chP_head (n := 0) v h0 rfl) (chP_last (n := 0) v h0 rfl) fun x hx => ?_
  have hm := ((chP_mem v h0).mp hx).2
  unfold hotL at hm
  rw [marks_one] at hm
  simpa using hm
end K35
end
section
set_option maxRecDepth 100000
set_option maxHeartbeats 1000000
namespace K35
open PySem L2 MP
/-! ### all ends of a cell -/
def pairsE (l r : List Nat) : List MG.C := l.flatMap fun x => r.map fun y => (((x : Nat) : Int), ((y : Nat) : Int))
def E (h : Int) (c : MG.C) : List MG.C := pairsE (prt h c.1) (prt h c.2)
theorem prt_range {h q : Int} (h0 : 0 < h) (h1 : h ≤ 30) (q0 : 0 ≤ q) (q1 : q ≤ lastN h) : prt h q = List.range' (loE h q).toNat (uN h q).toNat := by
  have l := lohi h0 h1 q0 q1
  have u := uN_bd h0 h1 q0 q1
  have hlo : loE h q = (2 * q - 1) * h ∨ (loE h q = 0 ∧ (2 * q - 1) * h ≤ 0) := by unfold loE; split <;> omega
  have hhi : hiE h q = (2 * q + 1) * h - 1 ∨ (hiE h q = 60 ∧ 60 ≤ (2 * q + 1) * h - 1) := by unfold hiE; split <;> omega
  have e : uN h q = hiE h q - loE h q + 1 := rfl
  refine MG.key_uniq (P := fun k : Nat => (k : Int)) ((prt_sorted h q).imp fun z => by omega) ?_ fun k => ?_
  · exact (List.pairwise_lt_range' (s := (loE h q).toNat) (n := (uN h q).toNat)).imp fun z => by omega
  · rw [prt_mem h0, List.mem_range'_1]
    omega
theorem pairsE_len (l r : List Nat) : (pairsE l r).length = l.length * r.length := by
  unfold pairsE
  induction l with
  | nil => simp
  | cons x l ih =>
    rw [List.flatMap_cons, List.length_append, ih, List.length_map, List.length_cons, Nat.succ_mul, Nat.add_comm]
theorem E_len {h : Int} {c : MG.C} (h0 : 0 < h) (h1 : h ≤ 30) (b : OnB h c) : ((E h c).length : Int) = cntN h c := by
  obtain ⟨b0, b1, b2, b3⟩ := b
  have u1 := uN_bd h0 h1 b0 b1
  have u2 := uN_bd h0 h1 b2 b3
  unfold E cntN
  rw [pairsE_len, prt_range h0 h1 b0 b1, prt_range h0 h1 b2 b3, List.length_range', List.length_range', Int.natCast_mul]
  have e1 : (((uN h c.1).toNat : Nat) : Int) = uN h c.1 := by omega
  have e2 : (((uN h c.2).toNat : Nat) : Int) = uN h c.2 := by omega
  rw [e1, e2]
/-- the first two of them -/
theorem E_two {h : Int} {c : MG.C} (h0 : 0 < h) (h1 : h ≤ 30) (b : OnB h c) : (E h c).take 2 = loP h c :: (if cntN h c = 1 then [] else [nxP h c]) := by
  obtain ⟨b0, b1, b2, b3⟩ := b
  have u1 := uN_bd h0 h1 b0 b1
  have u2 := uN_bd h0 h1 b2 b3
  have l1 := lohi h0 h1 b0 b1
  have l2 := lohi h0 h1 b2 b3
  have eu1 : uN h c.1 = hiE h c.1 - loE h c.1 + 1 := rfl
  have eu2 : uN h c.2 = hiE h c.2 - loE h c.2 + 1 := rfl
  unfold E cntN nxP loP
  rw [prt_range h0 h1 b0 b1, prt_range h0 h1 b2 b3]
  obtain ⟨a, ha⟩ : ∃ a, a = (loE h c.1).toNat := ⟨_, rfl⟩
  obtain ⟨d, hd⟩ : ∃ d, d = (loE h c.2).toNat := ⟨_, rfl⟩
  obtain ⟨m, hm⟩ : ∃ m, (uN h c.1).toNat = m + 1 := ⟨(uN h c.1).toNat - 1, by omega⟩
  obtain ⟨n, hn⟩ : ∃ n, (uN h c.2).toNat = n + 1 := ⟨(uN h c.2).toNat - 1, by omega⟩
  have ea : loE h c.1 = (a : Int) := by omega
  have ed : loE h c.2 = (d : Int) := by omega
  have em : uN h c.1 = ((m + 1 : Nat) : Int) := by omega
  have en : uN h c.2 = ((n + 1 : Nat) : Int) := by omega
  rw [hm, hn, ← ha, ← hd]
  have ex : hiE h c.2 = (d : Int) + (n : Int) := by omega
  rw [ea, ed, em, en, ex]
  cases n with
  | succ n =>
    have c1 : ¬ (((m + 1 : Nat) : Int) * ((n + 1 + 1 : Nat) : Int) = 1) := by
      intro z
      have z2 : (m + 1) * (n + 1 + 1) = 1 := by exact_mod_cast z
      have := Nat.mul_le_mul_right (n + 1 + 1) (show 1 ≤ m + 1 by omega)
      omega
    rw [if_neg c1, if_pos (by omega)]
    simp [pairsE, List.range'_succ]
  | zero =>
    cases m with
    | zero =>
      simp [pairsE, List.range'_succ]
    | succ m =>
      have c1 : ¬ (((m + 1 + 1 : Nat) : Int) * ((0 + 1 : Nat) : Int) = 1) := by omega
      rw [if_neg c1, if_neg (by omega)]
      simp [pairsE, List.range'_succ]
/-! ### the law's way to them -/
abbrev eC (k j : Nat) : De := (dBin fEq (dBin fDiv (dBin fAdd (dVar k) (dVar 0)) (dBin fMul (dC (.int 2)) (dVar 0))) (dBin fIx (dVar 1) (dC (.int j))))
theorem eC0 {h : Int} {c : MG.C} {k : Nat} {x : Int} {ls : Ls} {st : Sto} (h0 : 0 < h) (h1 : h ≤ 30) (e0 : dVar 0 ls st = okD (.int h) st) (e1 : dVar 1 ls st = okD (cD c) st) (ek : dVar k ls st = okD (.int x) st) : eC k 0 ls st = okD (.bl (decide (((0 + x) + h) / (2 * h) = c.1))) st ∧ eC k 1 ls st = okD (.bl (decide (((0 + x) + h) / (2 * h) = c.2))) st := by
  have ed : dBin fDiv (dBin fAdd (dVar k) (dVar 0)) (dBin fMul (dC (.int 2)) (dVar 0)) ls st = okD (.int ((x + h) / (2 * h))) st := by
    refine (bin_eq (x := .int (x + h)) (y := .int (2 * h)) (st1 := st) (st2 := st) ((bin_eq ek e0).trans rfl) (mul_eq rfl e0 (mulOk_small (by decide) (by decide)))).trans ?_
    simp only [fDiv]
    rw [if_pos ⟨by omega, by omega⟩]
  rw [Int.zero_add]
  exact ⟨(bin_eq ed ((bin_eq e1 rfl).trans rfl)).trans (eqi _ _ _), (bin_eq ed ((bin_eq e1 rfl).trans rfl)).trans (eqi _ _ _)⟩
abbrev eB : Ds := (dIfS (eC 3 0) (dAsg (dBin fAdd (dVar 2) (dLc (dAppI fRange [(dC (.int 61))]) (.nm 4) (eC 4 1) (dApp fTup [(dVar 3), (dVar 4)]) [4])) (.nm 2)) dNext)
theorem prt_len (h q : Int) : (prt h q).length ≤ 61 := by
  unfold prt
  exact Nat.le_trans (List.length_filter_le _ _) (by rw [List.length_range]; exact Nat.le_refl _)
theorem eB_yes {h : Int} {c : MG.C} {m : Nat} {x : Nat} {acc : List MG.C} {st : Sto} (h0 : 0 < h) (h1 : h ≤ 30) (hx : ((0 + (x : Int)) + h) / (2 * h) = c.1) (hm : st[m]? = some (.lst false (acc.map cD))) (hl : acc.length ≤ 5000) :
    ∃ m' st', eB [some (.int h), some (cD c), some (.obj m), some (.int x), none] st = some (.next, [some (.int h), some (cD c), some (.obj m'), some (.int x), none], st') ∧ st'[m']? = some (.lst false ((acc ++ (prt h c.2).map fun y => (((x : Nat) : Int), ((y : Nat) : Int))).map cD)) ∧ Gr st st' := by
  have c0 := (eC0 (h := h) (c := c) (k := 3) (x := x) (ls := [some (.int h), some (cD c), some (.obj m), some (.int x), none]) (st := st) h0 h1 rfl rfl rfl).1
  rw [decide_eq_true hx] at c0
  have pl := prt_len h c.2
  obtain ⟨st1, e1, k1, s1⟩ := lc_gen (t := .nm 4) (dt := eC 4 1) (de := (dApp fTup [(dVar 3), (dVar 4)])) (vs := [4]) (ls := [some (.int h), some (cD c), some (.obj m), some (.int x), none]) (di := dAppI fRange [(dC (.int 61))]) (gd := .no) (B := st) (st := st) (f := fun (y : Nat) => D.int (y : Int)) (P := fun (y : Nat) => decide ((((0 : Int) + (y : Int)) + h) / (2 * h) = c.2)) (g := fun (y : Nat) => cD (((x : Nat) : Int), ((y : Nat) : Int))) (xs := List.range 61)
    (range_at (k := 61) (i := 61) rfl (evA1 rfl) (by decide)) (fun _ _ => rfl) (by rw [List.length_range]; decide)
    (fun y hy st s => ⟨[some (.int h), some (cD c), some (.obj m), some (.int x), some (.int y)], st, rfl, (eC0 (h := h) (c := c) (k := 4) (x := (y : Int)) h0 h1 rfl rfl rfl).2, .refl _, fun _ => ⟨st, rfl, .refl _⟩⟩)
  have k1' : st1[st.length]? = some (.lst false (((prt h c.2).map fun y => (((x : Nat) : Int), ((y : Nat) : Int))).map cD)) := by
    rw [k1, List.map_map]
    rfl
  have e2 := addl_eq (s1.at hm) k1' (by rw [List.length_map, List.length_map, List.length_map]; omega)
  refine ⟨st1.length, st1 ++ [Cell.lst false ((acc ++ (prt h c.2).map fun y => (((x : Nat) : Int), ((y : Nat) : Int))).map cD)], (dIf_true c0).trans (dAsg_next (d := .obj st1.length) ?_ rfl), get_push, s1.trans .push⟩
  refine (bin_eq (x := .obj m) (y := .obj st.length) (st1 := st) (st2 := st1) rfl e1).trans ?_
  rw [e2, List.map_append]
theorem eLoop {h : Int} {c : MG.C} (h0 : 0 < h) (h1 : h ≤ 30) : ∀ (xs : List Nat) (m : Nat) (acc : List MG.C) (a3 : Option D) (st : Sto), st[m]? = some (.lst false (acc.map cD)) → acc.length + 61 * xs.length ≤ 5000 →
    ∃ m' p3 st', forD .no (.nm 3) eB (xs.map fun (x : Nat) => D.int x) [some (.int h), some (cD c), some (.obj m), a3, none] st = some (.next, [some (.int h), some (cD c), some (.obj m'), p3, none], st') ∧
      st'[m']? = some (.lst false ((acc ++ pairsE (xs.filter fun (k : Nat) => decide ((((0 : Int) + (k : Int)) + h) / (2 * h) = c.1)) (prt h c.2)).map cD)) ∧ Gr st st'
  | [], m, acc, a3, st, hm, _ => ⟨m, a3, st, by simp [forD, gdB], by simpa [pairsE] using hm, .refl _⟩
  | x :: xs, m, acc, a3, st, hm, hl => by
    simp only [List.length_cons] at hl
    have pl := prt_len h c.2
    by_cases hx : ((0 + (x : Int)) + h) / (2 * h) = c.1
    · obtain ⟨m1, st1, e1, g1, s1⟩ := eB_yes h0 h1 hx hm (by omega)
      obtain ⟨m2, p3, st2, e2, g2, s2⟩ := eLoop h0 h1 xs m1 _ (some (.int x)) st1 g1 (by rw [List.length_append, List.length_map]; omega)
      refine ⟨m2, p3, st2, (forD_next (xs := xs.map fun (x : Nat) => D.int x) rfl rfl e1).trans e2, ?_, s1.trans s2⟩
      rw [g2, List.filter_cons, if_pos (show decide ((((0 : Int) + (x : Int)) + h) / (2 * h) = c.1) = true from decide_eq_true hx), List.append_assoc]
      rfl
    · have c0 := (eC0 (h := h) (c := c) (k := 3) (x := x) (ls := [some (.int h), some (cD c), some (.obj m), some (.int x), none]) (st := st) h0 h1 rfl rfl rfl).1
      rw [decide_eq_false hx] at c0
      obtain ⟨m2, p3, st2, e2, g2, s2⟩ := eLoop h0 h1 xs m acc (some (.int x)) st hm (by omega)
      refine ⟨m2, p3, st2, (forD_next (xs := xs.map fun (x : Nat) => D.int x) rfl rfl (if_no c0)).trans e2, ?_, s2⟩
      rw [g2, List.filter_cons, if_neg (show ¬ decide ((((0 : Int) + (x : Int)) + h) / (2 * h) = c.1) = true from fun z => hx (of_decide_eq_true z))]
end K35
end
section
set_option maxRecDepth 100000
set_option maxHeartbeats 1000000
namespace K35
open PySem L2 MP
/-! ### a drawing that the law makes piece by piece, asking the program which pieces can stand -/
/-- the piece p can stand behind gs -/
def okN (gs : List P4) (p : P4) : Bool := !decide (p.1.1 = p.2.1 ∧ p.1.2 = p.2.2) && !gs.any (alongP p)
theorem Good.nil : Good [] := ⟨fun _ h => by simp at h, by simp, fun i p h => by simp at h⟩
theorem okN_pv {gs : List P4} {p : P4} (v : Pw p) (h : okN gs p = true) : Pv p := by
  unfold okN at h
  simp only [Bool.and_eq_true, Bool.not_eq_true', decide_eq_false_iff_not] at h
  exact v.pv h.1
theorem Good.snoc {gs : List P4} {p : P4} (g : Good gs) (v : Pw p) (hl : gs.length < 6) (h : okN gs p = true) : Good (gs ++ [p]) := by
  have pv := okN_pv v h
  unfold okN at h
  simp only [Bool.and_eq_true, Bool.not_eq_true'] at h
  refine ⟨fun q hq => ?_, by simp; omega, fun i q hq => ?_⟩
  · rcases List.mem_append.mp hq with hq | hq
    · exact g.pv q hq
    · rw [List.mem_singleton.mp hq]; exact pv
  · by_cases hi : i < gs.length
    · rw [List.getElem?_append_left hi] at hq
      rw [List.take_append_of_le_length (by omega)]
      exact g.apart i q hq
    · have hlt := lt_of_get hq
      simp at hlt
      have hi' : i = gs.length := by omega
      subst hi'
      simp at hq
      subst hq
      rw [List.take_append_of_le_length (Nat.le_refl _), List.take_of_length_le (Nat.le_refl _)]
      exact h.2
abbrev tblD : List (Str × Bool) := [("LineError", false), ("InvalidDrawing", true), ("UnknownPiece", false), ("SamePiece", false), ("InvalidHalf", false)]
theorem tbl_yes : tblD.lookup ("InvalidDrawing" : Str) = some true := by decide +kernel
/-- a row of draws, as a list comprehension makes it -/
theorem lc_draw {L : Nat} {wide : Int} (hL : 2 ≤ L) (w1 : 1 ≤ wide) (w2 : wide < 1073741824) {i j v : Nat} {lsw : Ls} {de : De}
    (hd : ∀ x st, de (lsw.set i (some x)) st = g_law_taken [.obj 1, .int wide] st) :
    ∀ (js : List D) (st : Sto) (acc : List Int), RowOk st → st[L]? = some (.lst false (acc.map D.int)) → acc.length + js.length < LINE →
    ∃ (ks : List Int) (st' : Sto), compD .no (.nm i) dYes de L lsw js st = okD (.obj L) st' ∧ st'[L]? = some (.lst false ((acc ++ ks).map D.int)) ∧ ks.length = js.length ∧ (∀ k ∈ ks, 0 ≤ k ∧ k < wide) ∧ StN L st st'
  | [], st, acc, h, hk, _ => ⟨[], st, rfl, by simpa using hk, rfl, fun k hk => by simp at hk, (Stp.refl h).n L⟩
  | x :: js, st, acc, h, hk, hl => by
    obtain ⟨k, st1, e1, k0, k1, s1, _⟩ := taken_eq (n := wide) h w1 w2
    have hk1 : st1[L]? = some (.lst false (acc.map D.int)) := (s1.old L (lt_of_get hk) (by omega)).trans hk
    have s2 : StN L st1 (st1.set L (.lst false ((acc ++ [k]).map D.int))) := .set s1.row hL
    obtain ⟨ks, st2, e2, g2, l2, b2, s3⟩ := lc_draw (j := j) (v := v) hL w1 w2 hd js (st1.set L (.lst false ((acc ++ [k]).map D.int))) (acc ++ [k]) s2.row (List.getElem?_set_self (lt_of_get hk1)) (by simp at hl ⊢; omega)
    refine ⟨k :: ks, st2, ?_, by rw [g2]; simp, by simp [l2], fun y hy => ?_, (s1.n L).trans (s2.trans s3)⟩
    · have hl' : (acc.map D.int).length < LINE := by simp at hl ⊢; omega
      rw [compD, if_pos (show gdB .no st = true from rfl)]
      simp only [asg, dYes, okD, bindO, hd, e1, hk1, if_pos hl']
      rw [show acc.map D.int ++ [D.int k] = (acc ++ [k]).map D.int by simp]
      exact e2
    · rcases List.mem_cons.mp hy with rfl | hy
      · exact ⟨k0, k1⟩
      · exact b2 y hy
end K35
end
section
set_option maxRecDepth 100000
set_option maxHeartbeats 1000000
namespace K35
open PySem L2 MP
theorem ixt_eq {st : Sto} {k : Nat} {l : List D} {x : D} (hx : l[k]? = some x) : fIx (.tup l) (.int k) st = okD x st := by
  have hk := lt_of_get hx
  have e : L2.atI l (k : Int) = some x := by
    unfold L2.atI L2.ixN
    rw [if_pos (Int.natCast_nonneg k), if_pos (by omega)]
    simpa using hx
  simp only [fIx, e]
abbrev T1 : Ds := dAsg (dApp fTuple [(dLc (dAppI fRange [(dC (.int 4))]) (.nm 6) dYes (dApp g_law_taken [(dVar 0), (dVar 3)]) [6])]) (.nm 5)
theorem half_eq34 {st : Sto} (h : RowOk st) : ∃ k st', g_law_half [.obj 1] st = some (.ok (.int k), st') ∧ 1 ≤ k ∧ k ≤ 30 ∧ Stp st st' := by
  obtain ⟨a, st1, e1, a0, a1, s1, l1⟩ := taken_eq (n := 30) h (by decide) (by decide)
  obtain ⟨b, st2, e2, b0, b1, s2, l2⟩ := taken_eq (n := 12) s1.row (by decide) (by decide)
  obtain ⟨c, st3, e3, c0, c1, s3, l3⟩ := taken_eq (n := 5) s2.row (by decide) (by decide)
  have s4 : Stp st3 (st3 ++ [.lst false [.int (1 + a), .int (5 + b), .int (3 + c)]]) := .push s3.row
  obtain ⟨i, st5, e5, i0, i1, s5, l5⟩ := taken_eq (n := 3) s4.row (by decide) (by decide)
  have hm : st5[st3.length]? = some (.lst false [.int (1 + a), .int (5 + b), .int (3 + c)]) := (s5.old _ (by simp) (by have := row_ge s3.row; omega)).trans get_push
  obtain ⟨k, k0, k1, ek⟩ : ∃ k : Int, 1 ≤ k ∧ k ≤ 30 ∧ fIx (.obj st3.length) (.int i) st5 = okD (.int k) st5 := by
    have hk : i = 0 ∨ i = 1 ∨ i = 2 := by omega
    rcases hk with rfl | rfl | rfl
    · exact ⟨1 + a, by omega, by omega, ixk_eq (k := 0) hm rfl⟩
    · exact ⟨5 + b, by omega, by omega, ixk_eq (k := 1) hm rfl⟩
    · exact ⟨3 + c, by omega, by omega, ixk_eq (k := 2) hm rfl⟩
  refine ⟨k, st5, ?_, k0, k1, s1.trans (s2.trans (s3.trans (s4.trans s5)))⟩
  refine run_ret (ls := [some (.obj 1)]) (dRet_ok ?_)
  refine (bin_eq (x := .obj st3.length) (y := .int i) (st1 := st3 ++ [.lst false [.int (1 + a), .int (5 + b), .int (3 + c)]]) (st2 := st5) ?_ ((appE (ds := [.obj 1, .int 3]) (st1 := st3 ++ [.lst false [.int (1 + a), .int (5 + b), .int (3 + c)]]) rfl).trans e5)).trans ek
  refine (appE (ds := [.int (1 + a), .int (5 + b), .int (3 + c)]) (st1 := st3) (evA3 (st1 := st1) (st2 := st2) ?_ ?_ ?_)).trans rfl
  · exact (bin_eq (x := .int 1) (y := .int a) (st1 := st) (st2 := st1) rfl ((appE (ds := [.obj 1, .int 30]) (st1 := st) rfl).trans e1)).trans rfl
  · exact (bin_eq (x := .int 5) (y := .int b) (st1 := st1) (st2 := st2) rfl ((appE (ds := [.obj 1, .int 12]) (st1 := st1) rfl).trans e2)).trans rfl
  · exact (bin_eq (x := .int 3) (y := .int c) (st1 := st2) (st2 := st3) rfl ((appE (ds := [.obj 1, .int 5]) (st1 := st2) rfl).trans e3)).trans rfl
end K35
end
section
set_option maxRecDepth 100000
set_option maxHeartbeats 1000000
namespace K35
open PySem L2 MP
/-! ### the law's dict of points -/
def cel (h : Int) (p : MG.C) : MG.C := ((p.1 + h) / (2 * h), (p.2 + h) / (2 * h))
def cont (h : Int) (P : List MG.C) (c : MG.C) : List MG.C := (P.filter fun p => decide (cel h p = c)).take 2
theorem cont_snoc (h : Int) (P : List MG.C) (p c : MG.C) : cont h (P ++ [p]) c = if cel h p = c ∧ (cont h P c).length < 2 then cont h P c ++ [p] else cont h P c := by
  unfold cont
  rw [List.filter_append]
  by_cases e : cel h p = c
  · have f1 : [p].filter (fun p => decide (cel h p = c)) = [p] := by simp [e]
    rw [f1]
    generalize P.filter (fun p => decide (cel h p = c)) = A
    match A with
    | [] => simp [e]
    | [a] => simp [e]
    | a :: b :: A => simp [e]
  · have f1 : [p].filter (fun p => decide (cel h p = c)) = [] := by simp [e]
    rw [f1, List.append_nil, if_neg (fun z => e z.1)]
abbrev gE : De := dMethD fGet2 (dVar 4) [(dVar 7), (dApp fLst [])]
def getN (L : List (MG.C × Nat)) (c : MG.C) (n : Nat) : Nat := match L.find? (fun y => decide (y.1 = c)) with
  | some y => y.2
  | none => n
theorem get_eq {kD : Nat} {L : List (MG.C × Nat)} {c : MG.C} {ls : Ls} {st : Sto} (hd : st[kD]? = some (.dct (L.map fun y => (cD y.1, D.obj y.2)))) (e4 : dVar 4 ls st = okD (.obj kD) st) (e7 : dVar 7 ls st = okD (cD c) st) :
    gE ls st = okD (.obj (getN L c st.length)) (st ++ [.lst false []]) := by
  have hkD := lt_of_get hd
  have e1 : (st ++ [Cell.lst false []])[kD]? = some (Cell.dct (L.map fun y => (cD y.1, D.obj y.2))) := by rw [List.getElem?_append_left hkD]; exact hd
  have hlk := look_gen (p := fun y : MG.C × Nat => y.1) (F := fun y => D.obj y.2) cKF c L
  have evk : evA [dVar 7, dApp fLst []] ls st = some (.ok [cD c, .obj st.length], st ++ [Cell.lst false []]) := evA2 e7 rfl
  have go : gE ls st = fGet2 (.obj kD) [cD c, .obj st.length] (st ++ [Cell.lst false []]) := by
    unfold gE dMethD
    rw [e4]
    simp only [okD, bindR, methDK, dctAt, hd]
    exact appE evk
  rw [go]
  unfold getN
  cases hf : L.find? fun y => decide (y.1 = c) with
  | some y0 =>
    rw [hf] at hlk
    simp only [Option.map_some] at hlk
    simp only [fGet2, e1, cKF.ok, if_true, hlk]
  | none =>
    rw [hf] at hlk
    simp only [Option.map_none] at hlk
    simp only [fGet2, e1, cKF.ok, if_true, hlk]
structure WI (h : Int) (kD : Nat) (P : List MG.C) (st : Sto) : Prop where
  ex : ∃ L : List (MG.C × Nat), st[kD]? = some (.dct (L.map fun y => (cD y.1, D.obj y.2))) ∧ (∀ y ∈ L, y.2 ≠ kD ∧ st[y.2]? = some (.lst false ((cont h P y.1).map cD))) ∧ (∀ c, c ∉ L.map (·.1) → cont h P c = []) ∧ L.length ≤ P.length
abbrev pV : De := (dIf (dBin fLt (dApp fLen [gE]) (dC (.int 2))) (dBin fAdd gE (dApp fLst [(dApp fTup [(dVar 5), (dVar 6)])])) (dBin fIxG (dVar 4) (dVar 7)))
abbrev pB : Ds := (dSetIxG pV (dVar 4) (dVar 7))
theorem find_key {L : List (MG.C × Nat)} {c : MG.C} : (L.find? (fun y => decide (y.1 = c)) = none ∧ c ∉ L.map (·.1)) ∨ ∃ y ∈ L, L.find? (fun y => decide (y.1 = c)) = some y ∧ y.1 = c := by
  cases hf : L.find? fun y => decide (y.1 = c) with
  | none =>
    refine .inl ⟨rfl, fun z => ?_⟩
    obtain ⟨y, hy, e⟩ := List.mem_map.mp z
    exact List.find?_eq_none.mp hf y hy (decide_eq_true e)
  | some y => exact .inr ⟨y, List.mem_of_find?_eq_some hf, rfl, by simpa using List.find?_some hf⟩
/-- the value that is stored -/
theorem pV_eq {h : Int} {kD : Nat} {P : List MG.C} {L : List (MG.C × Nat)} {p : MG.C} {ls : Ls} {st : Sto} (hd : st[kD]? = some (.dct (L.map fun y => (cD y.1, D.obj y.2)))) (hc : ∀ y ∈ L, y.2 ≠ kD ∧ st[y.2]? = some (.lst false ((cont h P y.1).map cD))) (hn : ∀ c, c ∉ L.map (·.1) → cont h P c = [])
    (e4 : ∀ st, dVar 4 ls st = okD (.obj kD) st) (e7 : ∀ st, dVar 7 ls st = okD (cD (cel h p)) st) (e5 : ∀ st, dVar 5 ls st = okD (.int p.1) st) (e6 : ∀ st, dVar 6 ls st = okD (.int p.2) st) :
    ∃ n st', pV ls st = okD (.obj n) st' ∧ n ≠ kD ∧ st'[n]? = some (.lst false ((cont h (P ++ [p]) (cel h p)).map cD)) ∧ Gr st st' := by
  have hkD := lt_of_get hd
  obtain ⟨c, hcc⟩ : ∃ c, c = cel h p := ⟨_, rfl⟩
  rw [← hcc] at e7 ⊢
  obtain ⟨st1, hst1⟩ : ∃ st1, st1 = st ++ [Cell.lst false []] := ⟨_, rfl⟩
  have s1 : Gr st st1 := by rw [hst1]; exact .push
  have n1 : st1[st.length]? = some (.lst false []) := by rw [hst1]; exact get_push
  have g1 := get_eq (c := c) (ls := ls) hd (e4 st) (e7 st)
  rw [← hst1] at g1
  have hd1 := s1.at hd
  -- what get gives
  have hk : ∀ (st0 : Sto), Gr st st0 → ∀ st0', Gr st0 st0' → st0'[st0.length]? = some (.lst false []) → st0'[getN L c st0.length]? = some (.lst false ((cont h P c).map cD)) := fun st0 s0 st0' s0' hne => by
    unfold getN
    rcases find_key (L := L) (c := c) with ⟨z1, z2⟩ | ⟨y, hy, z1, z2⟩
    · rw [z1, hn c z2]
      exact hne
    · rw [z1, ← z2]
      exact s0'.at (s0.at (hc y hy).2)
  have k1 := hk st (.refl _) st1 s1 n1
  have el : dApp fLen [gE] ls st = okD (.int ((cont h P c).length : Nat)) st1 := by
    refine (app1_eq g1).trans ?_
    simp only [fLen, k1]
    rw [List.length_map]
  have ec : dBin fLt (dApp fLen [gE]) (dC (.int 2)) ls st = okD (.bl (decide (((cont h P c).length : Int) < 2))) st1 := (bin_eq (x := .int ((cont h P c).length : Nat)) (y := .int 2) (st1 := st1) (st2 := st1) el rfl).trans rfl
  rw [cont_snoc, ← hcc]
  by_cases hlt : (cont h P c).length < 2
  · rw [if_pos ⟨rfl, hlt⟩]
    rw [decide_eq_true (by omega)] at ec
    obtain ⟨st2, hst2⟩ : ∃ st2, st2 = st1 ++ [Cell.lst false []] := ⟨_, rfl⟩
    have s2 : Gr st1 st2 := by rw [hst2]; exact .push
    have n2 : st2[st1.length]? = some (.lst false []) := by rw [hst2]; exact get_push
    have g2 := get_eq (c := c) (ls := ls) hd1 (e4 st1) (e7 st1)
    rw [← hst2] at g2
    have k2 := hk st1 s1 st2 s2 n2
    obtain ⟨st3, hst3⟩ : ∃ st3, st3 = st2 ++ [Cell.lst false ([p].map cD)] := ⟨_, rfl⟩
    have s3 : Gr st2 st3 := by rw [hst3]; exact .push
    have n3 : st3[st2.length]? = some (.lst false ([p].map cD)) := by rw [hst3]; exact get_push
    have e3 : dApp fLst [(dApp fTup [(dVar 5), (dVar 6)])] ls st2 = okD (.obj st2.length) st3 := by
      rw [hst3]
      exact (app1_eq (x := cD p) (st1 := st2) (tup2_eq' (e5 st2) (e6 st2))).trans rfl
    have ea := addl_eq (s3.at k2) n3 (by rw [List.length_map, List.length_map]; simp; omega)
    have ll : kD < st3.length := lt_of_get ((s1.trans (s2.trans s3)).at hd)
    refine ⟨st3.length, st3 ++ [Cell.lst false ((cont h P c ++ [p]).map cD)], ?_, by omega, get_push, s1.trans (s2.trans (s3.trans .push))⟩
    refine (dIf_t ec).trans ((bin_eq g2 e3).trans ?_)
    rw [ea, List.map_append]
  · rw [if_neg (fun z => hlt z.2)]
    rw [decide_eq_false (by omega)] at ec
    rcases find_key (L := L) (c := c) with ⟨z1, z2⟩ | ⟨y, hy, z1, z2⟩
    · rw [hn c z2] at hlt
      exact absurd (by decide) hlt
    · refine ⟨y.2, st1, (dIf_f ec).trans ?_, (hc y hy).1, by rw [← z2]; exact s1.at (hc y hy).2, s1⟩
      refine (bin_eq (x := .obj kD) (y := cD c) (st1 := st1) (st2 := st1) (e4 st1) (e7 st1)).trans ?_
      have hlk := look_gen (p := fun y : MG.C × Nat => y.1) (F := fun y => D.obj y.2) cKF c L
      rw [z1] at hlk
      simp only [Option.map_some] at hlk
      simp only [fIxG, dctAt, hd1, cKF.ok, if_true, hlk]
theorem pB_eq {h : Int} {kD : Nat} {P : List MG.C} {p : MG.C} {ls : Ls} {st : Sto} (w : WI h kD P st) (hP : P.length ≤ 5000) (e4 : ∀ st, dVar 4 ls st = okD (.obj kD) st) (e7 : ∀ st, dVar 7 ls st = okD (cD (cel h p)) st) (e5 : ∀ st, dVar 5 ls st = okD (.int p.1) st) (e6 : ∀ st, dVar 6 ls st = okD (.int p.2) st) :
    ∃ st', pB ls st = some (.next, ls, st') ∧ WI h kD (P ++ [p]) st' ∧ GrN kD st st' := by
  obtain ⟨L, hd, hc, hn, hl⟩ := w.ex
  obtain ⟨n, st1, ev, nk, gn, s1⟩ := pV_eq (p := p) hd hc hn e4 e7 e5 e6
  have hd1 := s1.at hd
  obtain ⟨c, hcc⟩ : ∃ c, c = cel h p := ⟨_, rfl⟩
  rw [← hcc] at e7 gn
  obtain ⟨L', hL'⟩ : ∃ L' : List (MG.C × Nat), L' = if c ∈ L.map (·.1) then L.map (fun y => if y.1 = c then (y.1, n) else y) else L ++ [(c, n)] := ⟨_, rfl⟩
  have hput : putP (L.map fun y => (cD y.1, D.obj y.2)) (cD c) (.obj n) = L'.map fun y => (cD y.1, D.obj y.2) := by
    have hlk := look_gen (p := fun y : MG.C × Nat => y.1) (F := fun y => D.obj y.2) cKF c L
    unfold putP
    rcases find_key (L := L) (c := c) with ⟨z1, z2⟩ | ⟨y, hy, z1, z2⟩
    · rw [z1] at hlk
      rw [hlk, hL', if_neg z2]
      simp
    · rw [z1] at hlk
      have hm : c ∈ L.map (·.1) := by rw [← z2]; exact List.mem_map_of_mem hy
      rw [hlk, hL', if_pos hm]
      simp only [Option.map_some, Option.isSome_some, if_true, List.map_map]
      refine List.map_congr_left fun y _ => ?_
      simp only [Function.comp]
      rw [cKF.beq]
      by_cases q : y.1 = c
      · simp [q]
      · simp [q]
  refine ⟨st1.set kD (.dct (L'.map fun y => (cD y.1, D.obj y.2))), ?_, ⟨L', List.getElem?_set_self (lt_of_get hd1), ?_, ?_, ?_⟩, (s1.n kD).trans .set⟩
  · unfold pB dSetIxG
    rw [ev]
    show bindS (dVar 4 ls st1) ls (fun o st2 => bindS (dVar 7 ls st2) ls (setKG ls (.obj n) o)) = _
    rw [e4 st1]
    show bindS (dVar 7 ls st1) ls (setKG ls (.obj n) (.obj kD)) = _
    rw [e7 st1]
    show setKG ls (.obj n) (.obj kD) (cD c) st1 = _
    unfold setKG
    have h5 : dctAt st1 (.obj kD) = some (L.map fun y => (cD y.1, D.obj y.2)) := by simp only [dctAt, hd1]
    have ok := cKF.ok c
    have hp : (L.map fun y => (cD y.1, D.obj y.2)).length < LINE := by
      unfold LINE
      rw [List.length_map]
      omega
    rw [h5]
    simp only [ok, if_true, if_pos hp]
    rw [hput]
  · intro y hy
    have old : ∀ y ∈ L, y.1 ≠ c → y.2 ≠ kD ∧ (st1.set kD (.dct (L'.map fun y => (cD y.1, D.obj y.2))))[y.2]? = some (.lst false ((cont h (P ++ [p]) y.1).map cD)) := fun y hy q => by
      obtain ⟨a1, a2⟩ := hc y hy
      refine ⟨a1, ?_⟩
      rw [List.getElem?_set_ne (Ne.symm a1), cont_snoc, if_neg (fun z => q (z.1.symm.trans hcc.symm))]
      exact s1.at a2
    have new : n ≠ kD ∧ (st1.set kD (.dct (L'.map fun y => (cD y.1, D.obj y.2))))[n]? = some (.lst false ((cont h (P ++ [p]) c).map cD)) := ⟨nk, by rw [List.getElem?_set_ne (Ne.symm nk)]; exact gn⟩
    by_cases hk : c ∈ L.map (·.1)
    · rw [hL', if_pos hk] at hy
      obtain ⟨z, hz, rfl⟩ := List.mem_map.mp hy
      by_cases q : z.1 = c
      · rw [if_pos q, q]
        exact new
      · rw [if_neg q]
        exact old z hz q
    · rw [hL', if_neg hk] at hy
      rcases List.mem_append.mp hy with hy | hy
      · exact old y hy fun z => hk (by rw [← z]; exact List.mem_map_of_mem hy)
      · rw [List.mem_singleton.mp hy]
        exact new
  · intro c' hc'
    have hsub : c' ∉ L.map (·.1) ∧ c' ≠ c := by
      by_cases hk : c ∈ L.map (·.1)
      · rw [hL', if_pos hk, List.map_map] at hc'
        have e : (L.map ((fun y : MG.C × Nat => y.1) ∘ fun y => if y.1 = c then (y.1, n) else y)) = L.map (·.1) := List.map_congr_left fun y _ => by
          simp only [Function.comp]
          split <;> rfl
        rw [e] at hc'
        exact ⟨hc', fun z => hc' (z ▸ hk)⟩
      · rw [hL', if_neg hk, List.map_append] at hc'
        exact ⟨fun z => hc' (List.mem_append_left _ z), fun z => hc' (List.mem_append_right _ (by simp [z]))⟩
    rw [cont_snoc, if_neg (fun z => hsub.2 (z.1.symm.trans hcc.symm)), hn c' hsub.1]
  · rw [hL', List.length_append]
    split
    · rw [List.length_map]; simp; omega
    · rw [List.length_append]; simp; omega
end K35
end
section
set_option maxRecDepth 100000
set_option maxHeartbeats 1000000
namespace K35
open PySem L2 MP
/-! ### the law's word of a first piece -/
theorem not_bl (b : Bool) (st : Sto) : fNot (.bl b) st = okD (.bl (!b)) st := rfl
theorem nb_eq (a b : Bool) (st : Sto) : fNe (.bl a) (.bl b) st = okD (.bl (a != b)) st := by cases a <;> cases b <;> rfl
theorem toP_pc (st : Sto) (x y z w : Int) : toP st DEEP (pcD x y z w) = some (.tuple [.int x, .int y, .int z, .int w]) := by simp [DEEP, toP, mapO]
theorem ne_pc (st : Sto) (x y z w : Int) : fNe (pcD x y z w) (pcD x y z w) st = okD (.bl false) st :=
  ne_self (toP_pc st x y z w) (toP_pc st x y z w) (by simp [PyData.canLay0, PyData.canLayAll0]) (by simp [PyData.depth, PyData.depthAll])
theorem and_t {da db : De} {ls : Ls} {st st1 : Sto} (h : da ls st = okD (.bl true) st1) : dAnd da db ls st = db ls st1 := by
  unfold dAnd
  rw [h]
  rfl
theorem and_f {da db : De} {ls : Ls} {st st1 : Sto} (h : da ls st = okD (.bl false) st1) : dAnd da db ls st = okD (.bl false) st1 := by
  unfold dAnd
  rw [h]
  rfl
theorem sortset_two {st : Sto} {n : Nat} {a b : MG.C} (h : st[n]? = some (.lst false ([a, b].map cD))) (pa : 0 ≤ a.1 ∧ 0 ≤ a.2) (pb : 0 ≤ b.1 ∧ 0 ≤ b.2) :
    fSortSetG (.obj n) st = okD (.obj st.length) (st ++ [Cell.lst false ((if a = b then [a] else [mn a b, mx a b]).map cD)]) := by
  have e0 : intsOf ([a, b].map cD) = none := rfl
  have e1 : MP.rowsOf ([a, b].map cD) = some ([a, b].map row2c) := rowsOf_cs _
  have e2 : rowsOk ([a, b].map row2c) = true := by
    unfold rowsOk row2c
    simp [pa.1, pa.2, pb.1, pb.2]
  simp only [fSortSetG, h, e0, fSortSet, e1, e2, if_true]
  show okL ((sortU [row2c a, row2c b]).map tupI) st = _
  rw [sortU_two]
  rfl
theorem mvS_one (a : MG.C) : mvS [a] = 0 := rfl
theorem mvS_two (a b : MG.C) : mvS [a, b] = mvP (a, b) := by
  unfold mvS prs
  simp
theorem mvP_self (a : MG.C) : mvP (a, a) = 0 := by
  unfold mvP mxI ab
  simp
theorem row_gr {st st' : Sto} (s : Gr st st') (r : RowOk st) : RowOk st' := (s.stp r).row
abbrev G6 (h a b p d q : Option D) : Ls := [h, a, b, p, d, q]
abbrev X1 : Ds := (dAsg (dApp gfirst_piece [(dVar 0), (dVar 1), (dVar 2)]) (.nm 3))
abbrev X2 : Ds := (dIfS (dBin fNe (dBin fIs (dVar 3) (dC .non)) (dBin fEq (dApp gpiece_count [(dVar 0), (dVar 1), (dVar 2)]) (dC (.int 0)))) (dRet (dC (.bl false))) dNext)
abbrev Y5 : Ds := (dAsg (dApp gfirst_piece [(dVar 0), (dVar 2), (dVar 1)]) (.nm 5))
abbrev Y6 : Ds := (dIfS (dAnd (dBin fNe (dVar 1) (dVar 2)) (dBin fNe (dVar 5) (dBin fAdd (dSl (dVar 3) (some (dC (.int 2))) none) (dSl (dVar 3) none (some (dC (.int 2))))))) (dRet (dC (.bl false))) dNext)
abbrev Y7 : Ds := (dIfS (dAnd (dBin fEq (dVar 1) (dVar 2)) (dBin fGeD (dSl (dVar 3) none (some (dC (.int 2)))) (dSl (dVar 3) (some (dC (.int 2))) none))) (dRet (dC (.bl false))) dNext)
end K35
end
section
set_option maxRecDepth 100000
set_option maxHeartbeats 1000000
namespace K35
open PySem L2 MP
abbrev P19 (a0 a2 a3 a4 a5 a6 a7 : Option D) (R : Ls) : Ls := a0 :: some (.obj 1) :: a2 :: a3 :: a4 :: a5 :: a6 :: a7 :: R
abbrev dvH (k : Nat) : De := (dBin fDiv (dBin fAdd (dVar k) (dVar 3)) (dBin fMul (dC (.int 2)) (dVar 3)))
theorem dvH_eq {h x : Int} {k : Nat} {ls : Ls} {st : Sto} (h0 : 0 < h) (h1 : h ≤ 30) (e3 : dVar 3 ls st = okD (.int h) st) (ek : dVar k ls st = okD (.int x) st) : dvH k ls st = okD (.int ((x + h) / (2 * h))) st := by
  refine (bin_eq (x := .int (x + h)) (y := .int (2 * h)) (st1 := st) (st2 := st) ((bin_eq ek e3).trans rfl) (mul_eq rfl e3 (mulOk_small (by decide) (by decide)))).trans ?_
  simp only [fDiv]
  rw [if_pos ⟨by omega, by omega⟩]
abbrev iB1 : Ds := dThen (dAsg (dApp fTup [dvH 5, dvH 6]) (.nm 7)) pB
theorem inner {h : Int} {kD : Nat} {x : Nat} {a0 a2 : Option D} {R : Ls} (h0 : 0 < h) (h1 : h ≤ 30) : ∀ (ys : List Nat) (P : List MG.C) (a6 a7 : Option D) (st : Sto), WI h kD P st → P.length + ys.length ≤ 5000 →
    ∃ p6 p7 st', forD .no (.nm 6) iB1 (ys.map fun (y : Nat) => D.int y) (P19 a0 a2 (some (.int h)) (some (.obj kD)) (some (.int x)) a6 a7 R) st = some (.next, P19 a0 a2 (some (.int h)) (some (.obj kD)) (some (.int x)) p6 p7 R, st') ∧
      WI h kD (P ++ ys.map fun y => (((x : Nat) : Int), ((y : Nat) : Int))) st' ∧ GrN kD st st'
  | [], P, a6, a7, st, w, _ => ⟨a6, a7, st, by simp [forD, gdB], by simpa using w, .refl _⟩
  | y :: ys, P, a6, a7, st, w, hl => by
    simp only [List.length_cons] at hl
    let c : MG.C := cel h (((x : Nat) : Int), ((y : Nat) : Int))
    let l1 : Ls := P19 a0 a2 (some (.int h)) (some (.obj kD)) (some (.int x)) (some (.int y)) a7 R
    let l2 : Ls := P19 a0 a2 (some (.int h)) (some (.obj kD)) (some (.int x)) (some (.int y)) (some (cD c)) R
    obtain ⟨st1, e1, w1, s1⟩ := pB_eq (h := h) (kD := kD) (P := P) (p := (((x : Nat) : Int), ((y : Nat) : Int))) (ls := l2) w (by omega) (fun _ => rfl) (fun _ => rfl) (fun _ => rfl) (fun _ => rfl)
    obtain ⟨p6, p7, st2, e2, w2, s2⟩ := inner (x := x) (a0 := a0) (a2 := a2) (R := R) h0 h1 ys (P ++ [(((x : Nat) : Int), ((y : Nat) : Int))]) (some (.int y)) (some (cD c)) st1 w1 (by rw [List.length_append]; simp; omega)
    refine ⟨p6, p7, st2, ?_, by rw [List.map_cons]; rw [List.append_assoc] at w2; exact w2, s1.trans s2⟩
    have eb : iB1 l1 st = some (.next, l2, st1) := (dThen_next (ls1 := l2) (st1 := st) (dAsg_next (d := cD c) (tup2_eq' (st1 := st) (dvH_eq h0 h1 rfl rfl) (dvH_eq h0 h1 rfl rfl)) rfl)).trans e1
    exact (forD_next (xs := ys.map fun (y : Nat) => D.int y) rfl rfl eb).trans e2
abbrev iB2 : Ds := dFor (dAppI fRange [(dC (.int 61))]) (.nm 6) iB1
theorem outer {h : Int} {kD : Nat} {a0 a2 : Option D} {R : Ls} (h0 : 0 < h) (h1 : h ≤ 30) : ∀ (xs : List Nat) (P : List MG.C) (a5 a6 a7 : Option D) (st : Sto), WI h kD P st → P.length + 61 * xs.length ≤ 5000 →
    ∃ p5 p6 p7 st', forD .no (.nm 5) iB2 (xs.map fun (x : Nat) => D.int x) (P19 a0 a2 (some (.int h)) (some (.obj kD)) a5 a6 a7 R) st = some (.next, P19 a0 a2 (some (.int h)) (some (.obj kD)) p5 p6 p7 R, st') ∧
      WI h kD (P ++ pairsE xs (List.range 61)) st' ∧ GrN kD st st'
  | [], P, a5, a6, a7, st, w, _ => ⟨a5, a6, a7, st, by simp [forD, gdB], by simpa [pairsE] using w, .refl _⟩
  | x :: xs, P, a5, a6, a7, st, w, hl => by
    simp only [List.length_cons] at hl
    obtain ⟨p6, p7, st1, e1, w1, s1⟩ := inner (x := x) (a0 := a0) (a2 := a2) (R := R) h0 h1 (List.range 61) P a6 a7 st w (by rw [List.length_range]; omega)
    obtain ⟨q5, q6, q7, st2, e2, w2, s2⟩ := outer (a0 := a0) (a2 := a2) (R := R) h0 h1 xs _ (some (.int x)) p6 p7 st1 w1 (by rw [List.length_append, List.length_map, List.length_range]; omega)
    refine ⟨q5, q6, q7, st2, ?_, by rw [List.append_assoc] at w2; exact w2, s1.trans s2⟩
    exact (forD_next (xs := xs.map fun (x : Nat) => D.int x) rfl rfl (for_eq (range_at (k := 61) (i := 61) rfl (evA1 rfl) (by decide)) e1)).trans e2
theorem filter_pairs (h : Int) (c : MG.C) (r : List Nat) : ∀ l : List Nat, (pairsE l r).filter (fun p => decide (cel h p = c)) = pairsE (l.filter fun (k : Nat) => decide ((((0 : Int) + (k : Int)) + h) / (2 * h) = c.1)) (r.filter fun (k : Nat) => decide ((((0 : Int) + (k : Int)) + h) / (2 * h) = c.2))
  | [] => rfl
  | x :: l => by
    have e : pairsE (x :: l) r = (r.map fun y => (((x : Nat) : Int), ((y : Nat) : Int))) ++ pairsE l r := rfl
    rw [e, List.filter_append, filter_pairs h c r l, List.filter_map, List.filter_cons]
    by_cases hx : (((0 : Int) + (x : Int)) + h) / (2 * h) = c.1
    · rw [if_pos (decide_eq_true hx)]
      have : (r.filter ((fun p => decide (cel h p = c)) ∘ fun y => (((x : Nat) : Int), ((y : Nat) : Int)))) = r.filter fun (k : Nat) => decide ((((0 : Int) + (k : Int)) + h) / (2 * h) = c.2) := by
        refine List.filter_congr fun y _ => ?_
        simp only [Function.comp, cel]
        refine decide_eq_decide.mpr ⟨fun z => ?_, fun z => ?_⟩
        · rw [← z, Int.zero_add]
        · rw [Int.zero_add] at hx z
          exact Prod.ext hx z
      rw [this]
      rfl
    · rw [if_neg (by simpa using hx)]
      have : (r.filter ((fun p => decide (cel h p = c)) ∘ fun y => (((x : Nat) : Int), ((y : Nat) : Int)))) = [] := by
        rw [List.filter_eq_nil_iff]
        intro y _ z
        have z : cel h (((x : Nat) : Int), ((y : Nat) : Int)) = c := of_decide_eq_true z
        exact hx (by rw [← z, Int.zero_add]; rfl)
      rw [this]
      rfl
theorem cont_E (h : Int) (c : MG.C) : cont h (pairsE (List.range 61) (List.range 61)) c = (E h c).take 2 := by
  unfold cont
  rw [filter_pairs]
  rfl
/-! ### the law's dict of counts -/
theorem lookI_put (ps : List (Int × Int)) (k v j : Int) : lookI (putI ps k v) j = if j = k then some v else lookI ps j := by
  have e1 := look_kiP (putI ps k v) j
  rw [← put_kiP, valV_put, look_kiP] at e1
  have inj : ∀ a b : Option Int, a.map V.int = b.map V.int → a = b := fun a b z => by
    cases a <;> cases b <;> simp_all
  apply inj
  rw [← e1]
  by_cases q : j = k
  · rw [if_pos ((inl_iff _ _).mpr q), if_pos q]
    rfl
  · rw [if_neg (fun z => q ((inl_iff _ _).mp z)), if_neg q]
theorem putI_len (ps : List (Int × Int)) (k v : Int) : (putI ps k v).length ≤ ps.length + 1 := by
  unfold putI
  split
  · rw [List.length_map]; omega
  · simp
def cntL (h : Int) (xs : List Nat) (q : Int) : List Nat := xs.filter fun (k : Nat) => decide ((((0 : Int) + (k : Int)) + h) / (2 * h) = q)
def CI (h : Int) (xs : List Nat) (ps : List (Int × Int)) : Prop := (∀ q, lookI ps q = if cntL h xs q = [] then none else some ((cntL h xs q).length : Int)) ∧ ps.length ≤ xs.length
abbrev Q19 (a0 a2 a3 a4 a5 a6 a7 a8 a9 a10 : Option D) (R : Ls) : Ls := a0 :: some (.obj 1) :: a2 :: a3 :: a4 :: a5 :: a6 :: a7 :: a8 :: a9 :: a10 :: R
abbrev cB : Ds := dThen (dAsg (dvH 5) (.nm 10)) (dSetK (dBin fAdd (dGetK (dVar 9) (dVar 10) (dC (.int 0))) (dC (.int 1))) (dVar 9) (dVar 10))
theorem cB_eq {h : Int} {kC : Nat} {x : Nat} {xs : List Nat} {ps : List (Int × Int)} {a0 a2 a4 a6 a7 a8 a10 : Option D} {R : Ls} {st : Sto} (h0 : 0 < h) (h1 : h ≤ 30) (hc : CI h xs ps) (hx : xs.length ≤ 1000) (hd : st[kC]? = some (.dki ps)) :
    ∃ ps' p10, cB (Q19 a0 a2 (some (.int h)) a4 (some (.int x)) a6 a7 a8 (some (.obj kC)) a10 R) st = some (.next, Q19 a0 a2 (some (.int h)) a4 (some (.int x)) a6 a7 a8 (some (.obj kC)) p10 R, st.set kC (.dki ps')) ∧ CI h (xs ++ [x]) ps' := by
  obtain ⟨q, hq⟩ : ∃ q, q = ((x : Int) + h) / (2 * h) := ⟨_, rfl⟩
  refine ⟨putI ps q ((lookI ps q).getD 0 + 1), some (.int q), ?_, ?_, ?_⟩
  · let l1 : Ls := Q19 a0 a2 (some (.int h)) a4 (some (.int x)) a6 a7 a8 (some (.obj kC)) (some (.int q)) R
    refine (dThen_next (ls1 := l1) (st1 := st) (dAsg_next (d := .int q) (by rw [hq]; exact dvH_eq h0 h1 rfl rfl) rfl)).trans ?_
    have hk : dkiAt st (.obj kC) = some ps := by simp only [dkiAt, hd]
    have eg : dGetK (dVar 9) (dVar 10) (dC (.int 0)) l1 st = okD (.int ((lookI ps q).getD 0)) st := by
      show getK1 (dVar 10) (dC (.int 0)) l1 (.obj kC) st = _
      unfold getK1
      rw [hk]
      show getK (.obj kC) (.int q) (.int 0) st = _
      unfold getK
      rw [hk]
    have ea : dBin fAdd (dGetK (dVar 9) (dVar 10) (dC (.int 0))) (dC (.int 1)) l1 st = okD (.int ((lookI ps q).getD 0 + 1)) st := (bin_eq eg rfl).trans rfl
    unfold dSetK
    rw [ea]
    show setK3 l1 (.int ((lookI ps q).getD 0 + 1)) (.obj kC) (.int q) st = _
    have hl : ps.length < LINE := by have := hc.2; unfold LINE; omega
    simp only [setK3, hk, if_pos hl]
    rfl
  · intro j
    rw [lookI_put, hc.1 q, hc.1 j]
    have e1y : q = j → cntL h (xs ++ [x]) j = cntL h xs j ++ [x] := fun z => by
      unfold cntL
      rw [List.filter_append, List.filter_cons, if_pos (decide_eq_true (by rw [Int.zero_add, ← hq]; exact z))]
      rfl
    have e1n : q ≠ j → cntL h (xs ++ [x]) j = cntL h xs j := fun z => by
      unfold cntL
      rw [List.filter_append, List.filter_cons, if_neg (by rw [Int.zero_add, ← hq]; simpa using z)]
      simp
    by_cases z : j = q
    · subst z
      have ne : cntL h xs j ++ [x] ≠ [] := by simp
      rw [e1y rfl, if_pos rfl, if_neg ne, List.length_append]
      by_cases c : cntL h xs j = []
      · rw [if_pos c, c]; rfl
      · rw [if_neg c]; rfl
    · rw [if_neg z, e1n (fun y => z y.symm)]
  · have := putI_len ps q ((lookI ps q).getD 0 + 1)
    have := hc.2
    rw [List.length_append]
    simp
    omega
theorem cLoop {h : Int} {kC : Nat} {a0 a2 a4 a6 a7 a8 : Option D} {R : Ls} (h0 : 0 < h) (h1 : h ≤ 30) : ∀ (ys xs : List Nat) (ps : List (Int × Int)) (a5 a10 : Option D) (st : Sto), CI h xs ps → xs.length + ys.length ≤ 1000 → st[kC]? = some (.dki ps) →
    ∃ ps' p5 p10 st', forD .no (.nm 5) cB (ys.map fun (x : Nat) => D.int x) (Q19 a0 a2 (some (.int h)) a4 a5 a6 a7 a8 (some (.obj kC)) a10 R) st = some (.next, Q19 a0 a2 (some (.int h)) a4 p5 a6 a7 a8 (some (.obj kC)) p10 R, st') ∧
      CI h (xs ++ ys) ps' ∧ st'[kC]? = some (.dki ps') ∧ GrN kC st st'
  | [], xs, ps, a5, a10, st, hc, _, hd => ⟨ps, a5, a10, st, by simp [forD, gdB], by simpa using hc, hd, .refl _⟩
  | y :: ys, xs, ps, a5, a10, st, hc, hl, hd => by
    simp only [List.length_cons] at hl
    obtain ⟨ps1, p10, e1, c1⟩ := cB_eq (x := y) (a0 := a0) (a2 := a2) (a4 := a4) (a6 := a6) (a7 := a7) (a8 := a8) (a10 := a10) (R := R) h0 h1 hc (by omega) hd
    have g1 : (st.set kC (.dki ps1))[kC]? = some (.dki ps1) := List.getElem?_set_self (lt_of_get hd)
    obtain ⟨ps2, q5, q10, st2, e2, c2, g2, s2⟩ := cLoop (a0 := a0) (a2 := a2) (a4 := a4) (a6 := a6) (a7 := a7) (a8 := a8) (R := R) h0 h1 ys (xs ++ [y]) ps1 (some (.int y)) p10 (st.set kC (.dki ps1)) c1 (by rw [List.length_append]; simp; omega) g1
    rw [List.append_assoc] at c2
    exact ⟨ps2, q5, q10, st2, (forD_next (xs := ys.map fun (x : Nat) => D.int x) rfl rfl e1).trans e2, c2, g2, GrN.set.trans s2⟩
end K35
end
section
set_option maxRecDepth 100000
set_option maxHeartbeats 1000000
namespace K35
open PySem L2 MP
/-! ### numbers of pieces -/
/-! ### the first piece -/
theorem lo_inj {h i j : Int} (h0 : 0 < h) (h1 : h ≤ 30) (i0 : 0 ≤ i) (i1 : i ≤ lastN h) (j0 : 0 ≤ j) (j1 : j ≤ lastN h) (e : loE h i = loE h j) : i = j := by
  have a := lohi h0 h1 i0 i1
  have b := lohi h0 h1 j0 j1
  have q1 := (prt_iff (q := i) h0 (loE h i)).mpr ⟨a.2.2.2.1, by omega⟩
  have q2 := (prt_iff (q := j) h0 (loE h j)).mpr ⟨b.2.2.2.1, by omega⟩
  rw [e] at q1
  exact q1.symm.trans q2
theorem loP_inj {h : Int} {a b : MG.C} (h0 : 0 < h) (h1 : h ≤ 30) (ha : OnB h a) (hb : OnB h b) (e : loP h a = loP h b) : a = b := by
  obtain ⟨a0, a1, a2, a3⟩ := ha
  obtain ⟨b0, b1, b2, b3⟩ := hb
  unfold loP at e
  exact Prod.ext (lo_inj h0 h1 a0 a1 b0 b1 (congrArg Prod.fst e)) (lo_inj h0 h1 a2 a3 b2 b3 (congrArg Prod.snd e))
def lotsE (h : Int) (a b : MG.C) : List MG.C := ((E h b).take 2).filter fun e => !decide (loP h a = e)
theorem lots_eq {h : Int} {a b : MG.C} (h0 : 0 < h) (h1 : h ≤ 30) (ha : OnB h a) (hb : OnB h b) : (pcN h a b = 0 ∧ lotsE h a b = []) ∨ (pcN h a b ≠ 0 ∧ ∃ r, lotsE h a b = (fp h a b).2 :: r) := by
  have ca := cntN_bd h0 h1 ha
  have cb := cntN_bd h0 h1 hb
  unfold lotsE
  rw [E_two h0 h1 hb]
  by_cases c : a = b
  · subst c
    have e1 : (fp h a a).2 = nxP h a := by unfold fp; rw [if_pos rfl]
    have en : loP h a ≠ nxP h a := by
      unfold loP nxP
      intro z
      split at z
      · have := congrArg Prod.snd z
        simp only at this
        omega
      · have := congrArg Prod.fst z
        simp only at this
        omega
    rw [List.filter_cons, if_neg (show ¬ (!decide (loP h a = loP h a)) = true by simp)]
    by_cases c1 : cntN h a = 1
    · refine .inl ⟨?_, by rw [if_pos c1]; rfl⟩
      unfold pcN
      rw [if_pos rfl, c1]
      decide
    · refine .inr ⟨?_, [], ?_⟩
      · unfold pcN
        rw [if_pos rfl]
        intro z
        rcases Int.mul_eq_zero.mp z with q | q <;> omega
      · rw [if_neg c1, List.filter_cons, if_pos (show (!decide (loP h a = nxP h a)) = true by rw [decide_eq_false en]; rfl), e1]
        rfl
  · have en : loP h a ≠ loP h b := fun z => c (loP_inj h0 h1 ha hb z)
    have e1 : (fp h a b).2 = loP h b := by unfold fp; rw [if_neg c]
    refine .inr ⟨?_, (if cntN h b = 1 then [] else [nxP h b]).filter (fun e => !decide (loP h a = e)), ?_⟩
    · unfold pcN
      rw [if_neg c]
      intro z
      rcases Int.mul_eq_zero.mp z with q | q <;> omega
    · rw [List.filter_cons, if_pos (show (!decide (loP h a = loP h b)) = true by rw [decide_eq_false en]; rfl), e1]
theorem ne_non (st : Sto) : fNe .non .non st = okD (.bl false) st := rfl
theorem ne_pd2 (p : P4) (st : Sto) : fNe (pd p) (pd p) st = okD (.bl false) st := by
  refine ne_self (p := .tuple [.int p.1.1, .int p.1.2, .int p.2.1, .int p.2.2]) ?_ ?_ ?_ ?_
  · simp [DEEP, toP, mapO]
  · simp [DEEP, toP, mapO]
  · simp [PyData.canLay0, PyData.canLayAll0]
  · simp [PyData.depth, PyData.depthAll]
theorem ne_nilL {gs : List P4} {n k : Nat} {ls : Ls} {st : Sto} (h : dVar k ls st = okD (.obj n) st) (h3 : st[n]? = some (.lst false (gs.map pd))) :
    dBin fNe (dVar k) (dApp fLst []) ls st = okD (.bl (!gs.isEmpty)) (st ++ [.lst false []]) := by
  have e := eqD_nil (st := st ++ [.lst false []]) (n := n) (m := st.length) (rows := gs.map row4) (by rw [List.getElem?_append_left (lt_of_get h3), ← map_row4]; exact h3) get_push
  have ie : (gs.map row4).isEmpty = gs.isEmpty := by cases gs <;> rfl
  rw [ie] at e
  refine (bin_eq (x := .obj n) (y := .obj st.length) (st1 := st) (st2 := st ++ [.lst false []]) h rfl).trans ?_
  simp [fNe, e]
end K35
end
section
set_option maxRecDepth 100000
set_option maxHeartbeats 1000000
namespace K35
open PySem L2 MP
theorem mnmx {a b : MG.C} (hne : a ≠ b) : lt2 (mn a b) (mx a b) = true ∧ ((mn a b = a ∧ mx a b = b) ∨ (mn a b = b ∧ mx a b = a)) := by
  cases h : lt2 a b with
  | true =>
    have h2 : lt2 b a = false := lt2_asym h
    have e1 : mn a b = a := by unfold mn; rw [h2]; rfl
    have e2 : mx a b = b := by unfold mx; rw [h]; rfl
    exact ⟨by rw [e1, e2]; exact h, .inl ⟨e1, e2⟩⟩
  | false =>
    have h2 : lt2 b a = true := by
      have n1 : ¬ lt2 a b = true := by rw [h]; exact Bool.false_ne_true
      rw [lt2_iff] at n1
      rw [lt2_iff]
      obtain ⟨a1, a2⟩ := a
      obtain ⟨b1, b2⟩ := b
      simp only at n1 ⊢
      by_cases q1 : a1 = b1
      · by_cases q2 : a2 = b2
        · exact absurd (by rw [q1, q2]) hne
        · omega
      · omega
    have e1 : mn a b = b := by unfold mn; rw [h2]; rfl
    have e2 : mx a b = a := by unfold mx; rw [h]; rfl
    exact ⟨by rw [e1, e2]; exact h2, .inr ⟨e1, e2⟩⟩
theorem GrN.rowOk {k : Nat} {a b : Sto} (h : GrN k a b) (hk : 2 ≤ k) (r : RowOk a) : RowOk b := by
  obtain ⟨ro, ns, x, y, z, e0, e1, q⟩ := r.ex
  exact ⟨ro, ns, x, y, z, h.at e0 (by omega), h.at e1 (by omega), q⟩
/-- what is asked of the store: the points and the counts -/
structure PC (h : Int) (kD kC : Nat) (ps : List (Int × Int)) (st : Sto) : Prop where
  pts : ∀ c, OnB h c → ∃ n, fIxG (.obj kD) (cD c) st = okD (.obj n) st ∧ st[n]? = some (.lst false (((E h c).take 2).map cD))
  cnt : st[kC]? = some (.dki ps)
  has : ∃ L : List (MG.C × Nat), st[kD]? = some (.dct (L.map fun y => (cD y.1, D.obj y.2))) ∧ ∀ c, OnB h c → ∃ y ∈ L, L.find? (fun y => decide (y.1 = c)) = some y ∧ y.1 = c ∧ st[y.2]? = some (.lst false (((E h c).take 2).map cD))
theorem PC.mk' {h : Int} {kD kC : Nat} {ps : List (Int × Int)} {st : Sto} (cnt : st[kC]? = some (.dki ps)) (has : ∃ L : List (MG.C × Nat), st[kD]? = some (.dct (L.map fun y => (cD y.1, D.obj y.2))) ∧ ∀ c, OnB h c → ∃ y ∈ L, L.find? (fun y => decide (y.1 = c)) = some y ∧ y.1 = c ∧ st[y.2]? = some (.lst false (((E h c).take 2).map cD))) : PC h kD kC ps st := by
  refine ⟨fun c hc => ?_, cnt, has⟩
  obtain ⟨L, hd, hL⟩ := has
  obtain ⟨y, hy, z1, z2, z3⟩ := hL c hc
  refine ⟨y.2, ?_, z3⟩
  have hlk := look_gen (p := fun y : MG.C × Nat => y.1) (F := fun y => D.obj y.2) cKF c L
  rw [z1] at hlk
  simp only [Option.map_some] at hlk
  simp only [fIxG, dctAt, hd, cKF.ok, if_true, hlk]
theorem PC.of {h : Int} {kD kC : Nat} {ps : List (Int × Int)} {a b : Sto} (w : PC h kD kC ps a) (k : ∀ (n : Nat) (c : Cell), a[n]? = some c → n ≠ 1 → b[n]? = some c) (hD : kD ≠ 1) (hC : kC ≠ 1) (h1 : ∀ l : List MG.C, a[1]? ≠ some (.lst false (l.map cD))) : PC h kD kC ps b := by
  obtain ⟨L, hd, hL⟩ := w.has
  refine PC.mk' (k _ _ w.cnt hC) ⟨L, k _ _ hd hD, fun c hc => ?_⟩
  obtain ⟨y, hy, z1, z2, z3⟩ := hL c hc
  exact ⟨y, hy, z1, z2, k _ _ z3 fun z => h1 _ (by rw [← z]; exact z3)⟩
theorem row_no {st : Sto} (r : RowOk st) : ∀ l : List MG.C, st[1]? ≠ some (.lst false (l.map cD)) := fun l z => by
  obtain ⟨ro, ns, x, y, w, e0, e1, q⟩ := r.ex
  rw [e1] at z
  cases l with
  | nil => simp at z
  | cons c l => simp at z
theorem PC.stp {h : Int} {kD kC : Nat} {ps : List (Int × Int)} {a b : Sto} (w : PC h kD kC ps a) (s : Stp a b) (r : RowOk a) (hD : kD ≠ 1) (hC : kC ≠ 1) : PC h kD kC ps b :=
  w.of (fun n c e hn => (s.old n (lt_of_get e) hn).trans e) hD hC (row_no r)
theorem PC.gr {h : Int} {kD kC : Nat} {ps : List (Int × Int)} {a b : Sto} (w : PC h kD kC ps a) (s : Gr a b) (r : RowOk a) (hD : kD ≠ 1) (hC : kC ≠ 1) : PC h kD kC ps b :=
  w.of (fun n c e hn => s.at e) hD hC (row_no r)
theorem prt_cnt {h q : Int} (h0 : 0 < h) (h1 : h ≤ 30) (q0 : 0 ≤ q) (q1 : q ≤ lastN h) : ((cntL h (List.range 61) q).length : Int) = uN h q ∧ cntL h (List.range 61) q ≠ [] := by
  have u := uN_bd h0 h1 q0 q1
  have e : cntL h (List.range 61) q = prt h q := rfl
  rw [e, prt_range h0 h1 q0 q1]
  constructor
  · rw [List.length_range']; omega
  · intro z
    have := congrArg List.length z
    rw [List.length_range'] at this
    simp at this
    omega
theorem count_at {h q : Int} {kC : Nat} {ps : List (Int × Int)} {st : Sto} (h0 : 0 < h) (h1 : h ≤ 30) (hc : CI h (List.range 61) ps) (hd : st[kC]? = some (.dki ps)) (q0 : 0 ≤ q) (q1 : q ≤ lastN h) : ixK (.obj kC) (.int q) st = okD (.int (uN h q)) st := by
  have hk : dkiAt st (.obj kC) = some ps := by simp only [dkiAt, hd]
  obtain ⟨c1, c2⟩ := prt_cnt h0 h1 q0 q1
  have e := hc.1 q
  rw [if_neg c2, c1] at e
  unfold ixK
  rw [hk]
  simp only [e]
theorem mulI {da db : De} {ls : Ls} {st : Sto} {i j : Int} (h : da ls st = okD (.int i) st) (h2 : db ls st = okD (.int j) st) (h3 : -1000000000 ≤ i) (h4 : i ≤ 1000000000) : dBin fMul da db ls st = okD (.int (i * j)) st := mul_eq h h2 (mulOk_small h3 h4)
abbrev ctE (i : Nat) : De := dBin fMul (dIxK (dVar 9) (dBin fIx (dVar i) (dC (.int 0)))) (dIxK (dVar 9) (dBin fIx (dVar i) (dC (.int 1))))
theorem ct_eq {h : Int} {kC i : Nat} {c : MG.C} {ps : List (Int × Int)} {ls : Ls} {st : Sto} (h0 : 0 < h) (h1 : h ≤ 30) (hc : CI h (List.range 61) ps) (hd : st[kC]? = some (.dki ps)) (b : OnB h c) (e9 : dVar 9 ls st = okD (.obj kC) st) (ei : dVar i ls st = okD (cD c) st) : ctE i ls st = okD (.int (cntN h c)) st := by
  obtain ⟨b0, b1, b2, b3⟩ := b
  have u1 := uN_bd h0 h1 b0 b1
  have ix : ∀ (j q : Int), dBin fIx (dVar i) (dC (.int j)) ls st = okD (.int q) st → 0 ≤ q → q ≤ lastN h → dIxK (dVar 9) (dBin fIx (dVar i) (dC (.int j))) ls st = okD (.int (uN h q)) st := fun j q e q0 q1 => by
    unfold dIxK
    rw [e9]
    show bindR (dBin fIx (dVar i) (dC (.int j)) ls st) _ = _
    rw [e]
    exact count_at h0 h1 hc hd q0 q1
  exact mulI (ix 0 c.1 (ix_c0 ei) b0 b1) (ix 1 c.2 (ix_c1 ei) b2 b3) (by omega) (by omega)
end K35
end
section
set_option maxRecDepth 100000
set_option maxHeartbeats 1000000
namespace K35
open PySem L2 MP
abbrev F19 (a0 a2 a3 a4 a5 a6 a7 a8 a9 a10 a11 a12 a13 a14 a15 a16 a17 a18 : Option D) : Ls := [a0, some (.obj 1), a2, a3, a4, a5, a6, a7, a8, a9, a10, a11, a12, a13, a14, a15, a16, a17, a18]
abbrev TT1 : Ds := dAsg (dApp fTup [(dApp g_law_half [(dVar 1)]), dDNew]) (.tp [(.nm 3), (.nm 4)])
abbrev TT2 : Ds := dFor (dAppI fRange [(dC (.int 61))]) (.nm 5) iB2
abbrev TT3 : Ds := dAsg (dApp fTup [(dBin fDiv (dBin fAdd (dC (.int 60)) (dVar 3)) (dBin fMul (dC (.int 2)) (dVar 3))), dDNewK]) (.tp [.nm 8, .nm 9])
abbrev TT4 : Ds := dFor (dAppI fRange [(dC (.int 61))]) (.nm 5) cB
abbrev tk2 : De := dApp fTup [(dApp g_law_taken [(dVar 1), (dBin fAdd (dVar 8) (dC (.int 1)))]), (dApp g_law_taken [(dVar 1), (dBin fAdd (dVar 8) (dC (.int 1)))])]
abbrev TT5 : Ds := dAsg tk2 (.nm 11)
abbrev TT6 : Ds := dAsg (dVar 11) (.nm 12)
abbrev TT7 : Ds := dIfS (dBin fGt (dApp g_law_taken [(dVar 1), (dC (.int 3))]) (dC (.int 0))) (dAsg tk2 (.nm 12)) dNext
abbrev TT8 : Ds := dAsg (ctE 11) (.nm 13)
abbrev TT9 : Ds := dAsg (ctE 12) (.nm 14)
abbrev TT10 : Ds := dAsg (dIf (dBin fEq (dVar 11) (dVar 12)) (dBin fMul (dVar 13) (dBin fSub (dVar 13) (dC (.int 1)))) (dBin fMul (dVar 13) (dVar 14))) (.nm 15)
abbrev TT11 : Ds := dIfS (dBin fNe (dApp gpiece_count [(dVar 3), (dVar 11), (dVar 12)]) (dVar 15)) (dRet (dC (.bl false))) dNext
abbrev lcE : De := (dLc (dSeq (dBin fIxG (dVar 4) (dVar 12))) (.nm 18) (dBin fNe (dVar 18) (dBin fIx (dBin fIxG (dVar 4) (dVar 11)) (dC (.int 0)))) (dVar 18) [18])
abbrev TT12 : Ds := dAsg lcE (.nm 16)
abbrev TT13 : Ds := dIfS (dBin fNe (dApp gfirst_piece [(dVar 3), (dVar 11), (dVar 12)]) (dIf (dBin fGt (dVar 15) (dC (.int 0))) (dBin fAdd (dBin fIx (dBin fIxG (dVar 4) (dVar 11)) (dC (.int 0))) (dBin fIx (dVar 16) (dC (.int 0)))) (dC .non))) (dRet (dC (.bl false))) dNext
abbrev TT14 : Ds := dAsg (dApp fTuple [(dUn fSortSetG (dApp fLst [(dVar 11), (dVar 12)]))]) (.nm 17)
abbrev TT15 : Ds := dIfS (dBin fNe (dApp gwhole_count [(dVar 3), (dVar 17)]) (dIf (dBin fEq (dApp fLen [(dVar 17)]) (dC (.int 1))) (dVar 15) (dBin fMul (dC (.int 2)) (dVar 15)))) (dRet (dC (.bl false))) dNext
abbrev endB : Ds := dRet (dBin fEq (dApp gpiece_count [(dC (.int 30)), (dApp fTup [(dC (.int 1)), (dC (.int 1))]), (dApp fTup [(dC (.int 1)), (dC (.int 1))])]) (dBin fMul (dC (.int 961)) (dC (.int 960))))
abbrev tail1 : Ds := dThen TT8 (dThen TT9 (dThen TT10 (dThen TT11 (dThen TT12 (dThen TT13 (dThen TT14 TT15))))))
abbrev turnB : Ds := dThen TT1 (dThen TT2 (dThen TT3 (dThen TT4 (dThen TT5 (dThen TT6 (dThen TT7 tail1))))))
theorem blaw_eq : blaw = dThen (dAsg (dApp fLst [(dVar 0), (dC (.int 0)), (dC (.int 0)), (dC (.int 0))]) (.nm 1)) (dThen (dFor (dAppI fRange [(dC (.int 4))]) (.nm 2) turnB) endB) := rfl
/-- two numbers drawn -/
theorem tk2_eq {h : Int} {ls : Ls} {st : Sto} (h0 : 0 < h) (h1 : h ≤ 30) (r : RowOk st) (e1 : ∀ st, dVar 1 ls st = okD (.obj 1) st) (e8 : ∀ st, dVar 8 ls st = okD (.int (lastN h)) st) : ∃ c st', tk2 ls st = okD (cD c) st' ∧ OnB h c ∧ Stp st st' := by
  have lb := lastN_bd h0 h1
  obtain ⟨i, st1, g1, i0, i1, s1, _⟩ := taken_eq (n := lastN h + 1) r (by omega) (by omega)
  obtain ⟨j, st2, g2, j0, j1, s2, _⟩ := taken_eq (n := lastN h + 1) s1.row (by omega) (by omega)
  refine ⟨(i, j), st2, ?_, ⟨i0, by simp only; omega, j0, by simp only; omega⟩, s1.trans s2⟩
  have ea : ∀ st, dBin fAdd (dVar 8) (dC (.int 1)) ls st = okD (.int (lastN h + 1)) st := fun st => (bin_eq (x := .int (lastN h)) (y := .int 1) (st1 := st) (st2 := st) (e8 st) rfl).trans rfl
  refine (appE (evA2 (x := .int i) (y := .int j) (st1 := st1) (st2 := st2) ?_ ?_)).trans rfl
  · exact (appE (evA2 (x := .obj 1) (y := .int (lastN h + 1)) (st1 := st) (st2 := st) (e1 st) (ea st))).trans g1
  · exact (appE (evA2 (x := .obj 1) (y := .int (lastN h + 1)) (st1 := st1) (st2 := st1) (e1 st1) (ea st1))).trans g2
theorem tail_eq {h : Int} {kD kC : Nat} {a b : MG.C} {ps : List (Int × Int)} {st : Sto} {a0 a2 a5 a6 a7 a10 a13 a14 a15 a16 a17 : Option D} (h0 : 0 < h) (h1 : h ≤ 30) (oa : OnB h a) (ob : OnB h b) (w : PC h kD kC ps st) (hc : CI h (List.range 61) ps) (r : RowOk st) (hD : kD ≠ 1) (hC : kC ≠ 1) :
    ∃ p13 p14 p15 p16 p17 st', tail1 (F19 a0 a2 (some (.int h)) (some (.obj kD)) a5 a6 a7 (some (.int (lastN h))) (some (.obj kC)) a10 (some (cD a)) (some (cD b)) a13 a14 a15 a16 a17 none) st = some (.next, F19 a0 a2 (some (.int h)) (some (.obj kD)) a5 a6 a7 (some (.int (lastN h))) (some (.obj kC)) a10 (some (cD a)) (some (cD b)) p13 p14 p15 p16 p17 none, st') ∧ RowOk st' := by
  have ca := cntN_bd h0 h1 oa
  have cb := cntN_bd h0 h1 ob
  have ta := E_two h0 h1 oa
  have pb := pcN_bd h0 h1 oa ob
  let fr (x13 x14 x15 x16 x17 x18 : Option D) : Ls := F19 a0 a2 (some (.int h)) (some (.obj kD)) a5 a6 a7 (some (.int (lastN h))) (some (.obj kC)) a10 (some (cD a)) (some (cD b)) x13 x14 x15 x16 x17 x18
  let l0 := fr a13 a14 a15 a16 a17 none
  let l1 := fr (some (.int (cntN h a))) a14 a15 a16 a17 none
  let l2 := fr (some (.int (cntN h a))) (some (.int (cntN h b))) a15 a16 a17 none
  let l3 := fr (some (.int (cntN h a))) (some (.int (cntN h b))) (some (.int (pcN h a b))) a16 a17 none
  obtain ⟨st1, e1, s1⟩ := pc_eq h0 h1 oa ob st
  have w1 := w.gr s1 r hD hC
  have r1 := (s1.stp r).row
  -- the ends of the second cell
  obtain ⟨nb, hb1, hb2⟩ := w1.pts b ob
  obtain ⟨xs, hxs⟩ : ∃ xs, xs = (E h b).take 2 := ⟨_, rfl⟩
  rw [← hxs] at hb2
  have xl : xs.length ≤ 2 := by rw [hxs]; exact List.length_take_le _ _
  have fa : ∀ (st2 : Sto), Gr st1 st2 → ∀ x18, dBin fIx (dBin fIxG (dVar 4) (dVar 11)) (dC (.int 0)) (fr (some (.int (cntN h a))) (some (.int (cntN h b))) (some (.int (pcN h a b))) a16 a17 x18) st2 = okD (cD (loP h a)) st2 := fun st2 s2 x18 => by
    obtain ⟨na, ha1, ha2⟩ := (w1.gr s2 r1 hD hC).pts a oa
    refine (bin_eq (x := .obj na) (y := .int 0) (st1 := st2) (st2 := st2) ((bin_eq (x := .obj kD) (y := cD a) (st1 := st2) (st2 := st2) rfl rfl).trans ha1) rfl).trans (ixo_first ha2 ?_)
    rw [ta]
    rfl
  have fa' : ∀ (st2 : Sto), Gr st1 st2 → ∀ x16, dBin fIx (dBin fIxG (dVar 4) (dVar 11)) (dC (.int 0)) (fr (some (.int (cntN h a))) (some (.int (cntN h b))) (some (.int (pcN h a b))) x16 a17 none) st2 = okD (cD (loP h a)) st2 := fun st2 s2 x16 => by
    obtain ⟨na, ha1, ha2⟩ := (w1.gr s2 r1 hD hC).pts a oa
    refine (bin_eq (x := .obj na) (y := .int 0) (st1 := st2) (st2 := st2) ((bin_eq (x := .obj kD) (y := cD a) (st1 := st2) (st2 := st2) rfl rfl).trans ha1) rfl).trans (ixo_first ha2 ?_)
    rw [ta]
    rfl
  have hseq : dSeq (dBin fIxG (dVar 4) (dVar 12)) l3 st1 = some (.it (xs.map cD) (.one nb (xs.map cD)), st1) := by
    have e : dBin fIxG (dVar 4) (dVar 12) l3 st1 = okD (.obj nb) st1 := (bin_eq (x := .obj kD) (y := cD b) (st1 := st1) (st2 := st1) rfl rfl).trans hb1
    unfold dSeq
    rw [e]
    simp only [okD, bindI, fSeq, hb2]
  obtain ⟨st2, e2, g2, s2⟩ := lc_gen (t := .nm 18) (dt := (dBin fNe (dVar 18) (dBin fIx (dBin fIxG (dVar 4) (dVar 11)) (dC (.int 0))))) (de := dVar 18) (vs := [18]) (ls := l3) (gd := .one nb (xs.map cD)) (B := st1) (st := st1) (f := cD) (P := fun e => !decide (e = loP h a)) (g := cD) (xs := xs)
    hseq (fun st s => gdB_of (s.at hb2)) (by unfold LINE; omega) (fun e he st s => ⟨fr (some (.int (cntN h a))) (some (.int (cntN h b))) (some (.int (pcN h a b))) a16 a17 (some (cD e)), st, rfl, (bin_eq (x := cD e) (y := cD (loP h a)) (st1 := st) (st2 := st) rfl (fa st s _)).trans (ne_c _ _ _), .refl _, fun _ => ⟨st, rfl, .refl _⟩⟩)
  obtain ⟨m2, hm2⟩ : ∃ m2, m2 = st1.length := ⟨_, rfl⟩
  rw [← hm2] at e2 g2
  have hlots : xs.filter (fun e => !decide (e = loP h a)) = lotsE h a b := by
    unfold lotsE
    rw [hxs]
    refine List.filter_congr fun e _ => ?_
    congr 1
    exact decide_eq_decide.mpr ⟨fun z => z.symm, fun z => z.symm⟩
  rw [hlots] at g2
  let l4 := fr (some (.int (cntN h a))) (some (.int (cntN h b))) (some (.int (pcN h a b))) (some (.obj m2)) a17 none
  obtain ⟨st3, e3, s3⟩ := firstp_eq h0 h1 oa ob st2
  have g3 := s3.at g2
  have eg : dBin fGt (dVar 15) (dC (.int 0)) l4 st3 = okD (.bl (decide (0 < pcN h a b))) st3 := (bin_eq (x := .int (pcN h a b)) (y := .int 0) (st1 := st3) (st2 := st3) rfl rfl).trans rfl
  have e4 : dIf (dBin fGt (dVar 15) (dC (.int 0))) (dBin fAdd (dBin fIx (dBin fIxG (dVar 4) (dVar 11)) (dC (.int 0))) (dBin fIx (dVar 16) (dC (.int 0)))) (dC .non) l4 st3 = okD (if pcN h a b = 0 then .non else pd (fp h a b)) st3 := by
    rcases lots_eq h0 h1 oa ob with ⟨z1, z2⟩ | ⟨z1, rr, z2⟩
    · rw [decide_eq_false (by omega)] at eg
      rw [dIf_f eg, if_pos z1]
      rfl
    · rw [decide_eq_true (by omega)] at eg
      rw [dIf_t eg, if_neg z1]
      have hx : dBin fIx (dVar 16) (dC (.int 0)) l4 st3 = okD (cD (fp h a b).2) st3 := (bin_eq (x := .obj m2) (y := .int 0) (st1 := st3) (st2 := st3) rfl rfl).trans (ixo_first g3 (by rw [z2]; rfl))
      exact (bin_eq (fa' st3 (s2.trans s3) _) hx).trans rfl
  -- the two cells
  obtain ⟨st4, hst4⟩ : ∃ st4, st4 = st3 ++ [Cell.lst false ([a, b].map cD)] := ⟨_, rfl⟩
  have s4 : Gr st3 st4 := by rw [hst4]; exact .push
  have g4 : st4[st3.length]? = some (.lst false ([a, b].map cD)) := by rw [hst4]; exact get_push
  have e5 := sortset_two g4 ⟨oa.1, oa.2.2.1⟩ ⟨ob.1, ob.2.2.1⟩
  obtain ⟨W, hW⟩ : ∃ W : List MG.C, W = if a = b then [a] else [mn a b, mx a b] := ⟨_, rfl⟩
  rw [← hW] at e5
  obtain ⟨st5, hst5⟩ : ∃ st5, st5 = st4 ++ [Cell.lst false (W.map cD)] := ⟨_, rfl⟩
  have s5 : Gr st4 st5 := by rw [hst5]; exact .push
  have g5 : st5[st4.length]? = some (.lst false (W.map cD)) := by rw [hst5]; exact get_push
  rw [← hst5] at e5
  let l5 := fr (some (.int (cntN h a))) (some (.int (cntN h b))) (some (.int (pcN h a b))) (some (.obj m2)) (some (csD W)) none
  have e6 : ∃ st6, TT15 l5 st5 = some (.next, l5, st6) ∧ Gr st5 st6 := by
    have ell : dApp fLen [(dVar 17)] l5 = fun st => okD (.int (W.length : Nat)) st := by
      funext st
      refine (app1_eq (x := csD W) (st1 := st) rfl).trans ?_
      simp [fLen, csD]
    have eql : ∀ st, dBin fEq (dApp fLen [(dVar 17)]) (dC (.int 1)) l5 st = okD (.bl (decide ((W.length : Int) = 1))) st := fun st => (bin_eq (x := .int (W.length : Nat)) (y := .int 1) (st1 := st) (st2 := st) (congrFun ell st) rfl).trans (eqi _ _ _)
    by_cases q : a = b
    · have hw : W = [a] := by rw [hW, if_pos q]
      obtain ⟨st6, e, s⟩ := wc1_eq (st := st5) h0 h1 oa
      refine ⟨st6, if_no ?_, s⟩
      have eq1 := eql st6
      rw [hw] at eq1
      refine (bin_eq (x := .int (pcN h a a)) (y := .int (pcN h a b)) (st1 := st6) (st2 := st6) ((appE (ds := [.int h, csD W]) (st1 := st5) rfl).trans (by rw [hw]; exact e)) ((dIf_t eq1).trans rfl)).trans ((ni_eq _ _).trans ?_)
      rw [← q]
      simp
    · have hw : W = [mn a b, mx a b] := by rw [hW, if_neg q]
      obtain ⟨ml, mc⟩ := mnmx q
      have om : OnB h (mn a b) ∧ OnB h (mx a b) ∧ pcN h (mn a b) (mx a b) = pcN h a b := by
        rcases mc with ⟨z1, z2⟩ | ⟨z1, z2⟩
        · rw [z1, z2]; exact ⟨oa, ob, rfl⟩
        · rw [z1, z2]; exact ⟨ob, oa, pcN_comm _ _ _⟩
      obtain ⟨st6, e, s⟩ := wc2_eq (st := st5) h0 h1 om.1 om.2.1 ml
      refine ⟨st6, if_no ?_, s⟩
      have eq1 := eql st6
      rw [hw] at eq1
      refine (bin_eq (x := .int (2 * pcN h (mn a b) (mx a b))) (y := .int (2 * pcN h a b)) (st1 := st6) (st2 := st6) ((appE (ds := [.int h, csD W]) (st1 := st5) rfl).trans (by rw [hw]; exact e)) ((dIf_f eq1).trans (mul_eq rfl rfl (mulOk_small (by decide) (by decide))))).trans ((ni_eq _ _).trans ?_)
      rw [om.2.2]
      simp
  obtain ⟨st6, e6, s6⟩ := e6
  refine ⟨some (.int (cntN h a)), some (.int (cntN h b)), some (.int (pcN h a b)), some (.obj m2), some (csD W), st6, ?_, ((s1.trans (s2.trans (s3.trans (s4.trans (s5.trans s6))))).stp r).row⟩
  refine (dThen_next (ls1 := l1) (st1 := st) (dAsg_next (ct_eq (i := 11) (ls := l0) h0 h1 hc w.cnt oa rfl rfl) rfl)).trans ?_
  refine (dThen_next (ls1 := l2) (st1 := st) (dAsg_next (ct_eq (i := 12) (ls := l1) h0 h1 hc w.cnt ob rfl rfl) rfl)).trans ?_
  refine (dThen_next (ls1 := l3) (st1 := st) (dAsg_next (d := .int (pcN h a b)) ?_ rfl)).trans ?_
  · have ee : dBin fEq (dVar 11) (dVar 12) l2 st = okD (.bl (decide (a = b))) st := (bin_eq (x := cD a) (y := cD b) (st1 := st) (st2 := st) rfl rfl).trans (eq_c a b st)
    unfold pcN
    by_cases q : a = b
    · rw [decide_eq_true q] at ee
      rw [dIf_t ee, if_pos q]
      exact mulI rfl ((bin_eq (x := .int (cntN h a)) (y := .int 1) (st1 := st) (st2 := st) rfl rfl).trans rfl) (by omega) (by omega)
    · rw [decide_eq_false q] at ee
      rw [dIf_f ee, if_neg q]
      exact mulI rfl rfl (by omega) (by omega)
  refine (dThen_next (ls1 := l3) (st1 := st1) (if_no ?_)).trans ?_
  · refine (bin_eq (x := .int (pcN h a b)) (y := .int (pcN h a b)) (st1 := st1) (st2 := st1) ((appE (ds := [.int h, cD a, cD b]) (st1 := st) rfl).trans e1) rfl).trans ((ni_eq _ _).trans ?_)
    simp
  refine (dThen_next (ls1 := l4) (st1 := st2) (dAsg_next (d := .obj m2) e2 rfl)).trans ?_
  refine (dThen_next (ls1 := l4) (st1 := st3) (if_no ?_)).trans ?_
  · refine (bin_eq (x := if pcN h a b = 0 then .non else pd (fp h a b)) (y := if pcN h a b = 0 then .non else pd (fp h a b)) (st1 := st3) (st2 := st3) ((appE (ds := [.int h, cD a, cD b]) (st1 := st2) rfl).trans e3) e4).trans ?_
    by_cases z : pcN h a b = 0
    · rw [if_pos z]; exact ne_non _
    · rw [if_neg z]; exact ne_pd2 _ _
  refine (dThen_next (ls1 := l5) (st1 := st5) (dAsg_next (d := csD W) ?_ rfl)).trans e6
  have el : dApp fLst [(dVar 11), (dVar 12)] l4 st3 = okD (.obj st3.length) st4 := by
    rw [hst4]
    exact (appE (evA2 (x := cD a) (y := cD b) (st1 := st3) (st2 := st3) rfl rfl)).trans rfl
  refine (app1_eq ((un_eq el).trans e5)).trans ?_
  simp only [fTuple, g5]
end K35
end
section
set_option maxRecDepth 100000
set_option maxHeartbeats 1000000
namespace K35
open PySem L2 MP
theorem lastD {h : Int} {ls : Ls} {st : Sto} (h0 : 0 < h) (h1 : h ≤ 30) (e3 : dVar 3 ls st = okD (.int h) st) : dBin fDiv (dBin fAdd (dC (.int 60)) (dVar 3)) (dBin fMul (dC (.int 2)) (dVar 3)) ls st = okD (.int (lastN h)) st := by
  refine (bin_eq (x := .int (60 + h)) (y := .int (2 * h)) (st1 := st) (st2 := st) ((bin_eq (x := .int 60) (y := .int h) (st1 := st) (st2 := st) rfl e3).trans rfl) (mul_eq rfl e3 (mulOk_small (by decide) (by decide)))).trans ?_
  simp only [fDiv]
  rw [if_pos ⟨by omega, by omega⟩]
  rfl
theorem WI.pc {h : Int} {kD kC : Nat} {ps : List (Int × Int)} {st : Sto} (h0 : 0 < h) (h1 : h ≤ 30) (w : WI h kD (pairsE (List.range 61) (List.range 61)) st) (cnt : st[kC]? = some (.dki ps)) : PC h kD kC ps st := by
  obtain ⟨L, hd, hc, hn, hl⟩ := w.ex
  refine PC.mk' cnt ⟨L, hd, fun c b => ?_⟩
  have two := E_two h0 h1 b
  rcases find_key (L := L) (c := c) with ⟨z1, z2⟩ | ⟨y, hy, z1, z2⟩
  · have e := hn c z2
    rw [cont_E, two] at e
    cases e
  · refine ⟨y, hy, z1, z2, ?_⟩
    have e := (hc y hy).2
    rw [z2, cont_E] at e
    exact e
theorem turnB_eq {st : Sto} {a0 a2 a3 a4 a5 a6 a7 a8 a9 a10 a11 a12 a13 a14 a15 a16 a17 : Option D} (r : RowOk st) :
    ∃ p3 p4 p5 p6 p7 p8 p9 p10 p11 p12 p13 p14 p15 p16 p17 st', turnB (F19 a0 a2 a3 a4 a5 a6 a7 a8 a9 a10 a11 a12 a13 a14 a15 a16 a17 none) st = some (.next, F19 a0 a2 p3 p4 p5 p6 p7 p8 p9 p10 p11 p12 p13 p14 p15 p16 p17 none, st') ∧ RowOk st' := by
  obtain ⟨h, st1, e1, h1, h30, s1⟩ := half_eq34 r
  have h0 : 0 < h := by omega
  have r1 := s1.row
  have hge := row_ge r1
  obtain ⟨kD, hkD⟩ : ∃ kD, kD = st1.length := ⟨_, rfl⟩
  obtain ⟨st2, hst2⟩ : ∃ st2, st2 = st1 ++ [Cell.dct []] := ⟨_, rfl⟩
  have s2 : Gr st1 st2 := by rw [hst2]; exact .push
  have w2 : WI h kD [] st2 := ⟨[], by rw [hst2, hkD]; exact get_push, fun y hy => by simp at hy, fun c _ => rfl, Nat.le_refl _⟩
  obtain ⟨p5, p6, p7, st3, e3, w3, s3⟩ := outer (a0 := a0) (a2 := a2) (R := [a8, a9, a10, a11, a12, a13, a14, a15, a16, a17, none]) h0 h30 (List.range 61) [] a5 a6 a7 st2 w2 (by rw [List.length_range]; decide)
  rw [List.nil_append] at w3
  have r3 : RowOk st3 := s3.rowOk (by omega) (s2.stp r1).row
  obtain ⟨kC, hkC⟩ : ∃ kC, kC = st3.length := ⟨_, rfl⟩
  obtain ⟨st4, hst4⟩ : ∃ st4, st4 = st3 ++ [Cell.dki []] := ⟨_, rfl⟩
  have s4 : Gr st3 st4 := by rw [hst4]; exact .push
  have g4 : st4[kC]? = some (.dki []) := by rw [hst4, hkC]; exact get_push
  have c4 : CI h [] [] := ⟨fun q => rfl, Nat.le_refl _⟩
  obtain ⟨ps, q5, q10, st5, e5, c5, g5, s5⟩ := cLoop (a0 := a0) (a2 := a2) (a4 := some (.obj kD)) (a6 := p6) (a7 := p7) (a8 := some (.int (lastN h))) (R := [a11, a12, a13, a14, a15, a16, a17, none]) h0 h30 (List.range 61) [] [] p5 a10 st4 c4 (by rw [List.length_range]; decide) g4
  rw [List.nil_append] at c5
  have hge3 := row_ge r3
  have r5 : RowOk st5 := s5.rowOk (by omega) (s4.stp r3).row
  -- the points stand behind the counts
  have w5 : WI h kD (pairsE (List.range 61) (List.range 61)) st5 := by
    obtain ⟨L, hd, hc, hn, hl⟩ := w3.ex
    refine ⟨L, s5.at (s4.at hd) (by have := lt_of_get hd; omega), fun y hy => ⟨(hc y hy).1, ?_⟩, hn, hl⟩
    have e := (hc y hy).2
    exact s5.at (s4.at e) (by have := lt_of_get e; omega)
  have pc5 := w5.pc h0 h30 g5
  have hD : kD ≠ 1 := by omega
  have hC : kC ≠ 1 := by omega
  let fr (x11 x12 : Option D) : Ls := F19 a0 a2 (some (.int h)) (some (.obj kD)) q5 p6 p7 (some (.int (lastN h))) (some (.obj kC)) q10 x11 x12 a13 a14 a15 a16 a17 none
  obtain ⟨a, st6, e6, oa, s6⟩ := tk2_eq (ls := fr a11 a12) h0 h30 r5 (fun _ => rfl) (fun _ => rfl)
  obtain ⟨k, st7, e7, k0, k1, s7, _⟩ := taken_eq (n := 3) s6.row (by decide) (by decide)
  have e7' : dBin fGt (dApp g_law_taken [(dVar 1), (dC (.int 3))]) (dC (.int 0)) (fr (some (cD a)) (some (cD a))) st6 = okD (.bl (decide (0 < k))) st7 :=
    (bin_eq (x := .int k) (y := .int 0) (st1 := st7) (st2 := st7) ((appE (ds := [.obj 1, .int 3]) (st1 := st6) rfl).trans e7) rfl).trans rfl
  obtain ⟨b, st8, e8, ob, s8⟩ : ∃ b st8, TT7 (fr (some (cD a)) (some (cD a))) st6 = some (.next, fr (some (cD a)) (some (cD b)), st8) ∧ OnB h b ∧ Stp st7 st8 := by
    by_cases q : 0 < k
    · obtain ⟨b, st8, e8, ob, s8⟩ := tk2_eq (ls := fr (some (cD a)) (some (cD a))) h0 h30 s7.row (fun _ => rfl) (fun _ => rfl)
      rw [decide_eq_true q] at e7'
      exact ⟨b, st8, (dIf_true e7').trans (dAsg_next (d := cD b) e8 rfl), ob, s8⟩
    · rw [decide_eq_false q] at e7'
      exact ⟨a, st7, if_no e7', oa, .refl s7.row⟩
  have pc8 : PC h kD kC ps st8 := ((pc5.stp s6 r5 hD hC).stp s7 s6.row hD hC).stp s8 s7.row hD hC
  obtain ⟨p13, p14, p15, p16, p17, st9, e9, r9⟩ := tail_eq (a0 := a0) (a2 := a2) (a5 := q5) (a6 := p6) (a7 := p7) (a10 := q10) (a13 := a13) (a14 := a14) (a15 := a15) (a16 := a16) (a17 := a17) h0 h30 oa ob pc8 c5 s8.row hD hC
  refine ⟨some (.int h), some (.obj kD), q5, p6, p7, some (.int (lastN h)), some (.obj kC), q10, some (cD a), some (cD b), p13, p14, p15, p16, p17, st9, ?_, r9⟩
  let l1 : Ls := F19 a0 a2 (some (.int h)) (some (.obj kD)) a5 a6 a7 a8 a9 a10 a11 a12 a13 a14 a15 a16 a17 none
  let l2 : Ls := F19 a0 a2 (some (.int h)) (some (.obj kD)) p5 p6 p7 a8 a9 a10 a11 a12 a13 a14 a15 a16 a17 none
  let l3 : Ls := F19 a0 a2 (some (.int h)) (some (.obj kD)) p5 p6 p7 (some (.int (lastN h))) (some (.obj kC)) a10 a11 a12 a13 a14 a15 a16 a17 none
  refine (dThen_next (ls1 := l1) (st1 := st2) (dAsg_next (d := .tup [.int h, .obj kD]) ?_ rfl)).trans ?_
  · refine tup2_eq' (st1 := st1) ((appE (ds := [.obj 1]) (st1 := st) rfl).trans e1) ?_
    rw [hst2, hkD]
    rfl
  refine (dThen_next (ls1 := l2) (st1 := st3) (for_eq (range_at (k := 61) (i := 61) rfl (evA1 rfl) (by decide)) e3)).trans ?_
  refine (dThen_next (ls1 := l3) (st1 := st4) (dAsg_next (d := .tup [.int (lastN h), .obj kC]) ?_ rfl)).trans ?_
  · refine tup2_eq' (st1 := st3) (lastD h0 h30 rfl) ?_
    rw [hst4, hkC]
    rfl
  refine (dThen_next (ls1 := fr a11 a12) (st1 := st5) (for_eq (range_at (k := 61) (i := 61) rfl (evA1 rfl) (by decide)) e5)).trans ?_
  refine (dThen_next (ls1 := fr (some (cD a)) a12) (st1 := st6) (dAsg_next (d := cD a) e6 rfl)).trans ?_
  refine (dThen_next (ls1 := fr (some (cD a)) (some (cD a))) (st1 := st6) (dAsg_next (d := cD a) rfl rfl)).trans ?_
  exact (dThen_next (ls1 := fr (some (cD a)) (some (cD b))) (st1 := st8) e8).trans e9
theorem loopT {a0 : Option D} : ∀ (xs : List D) (a2 a3 a4 a5 a6 a7 a8 a9 a10 a11 a12 a13 a14 a15 a16 a17 : Option D) (st : Sto), RowOk st →
    ∃ p2 p3 p4 p5 p6 p7 p8 p9 p10 p11 p12 p13 p14 p15 p16 p17 st', forD .no (.nm 2) turnB xs (F19 a0 a2 a3 a4 a5 a6 a7 a8 a9 a10 a11 a12 a13 a14 a15 a16 a17 none) st = some (.next, F19 a0 p2 p3 p4 p5 p6 p7 p8 p9 p10 p11 p12 p13 p14 p15 p16 p17 none, st') ∧ RowOk st'
  | [], a2, a3, a4, a5, a6, a7, a8, a9, a10, a11, a12, a13, a14, a15, a16, a17, st, r => ⟨a2, a3, a4, a5, a6, a7, a8, a9, a10, a11, a12, a13, a14, a15, a16, a17, st, by simp [forD, gdB], r⟩
  | x :: xs, a2, a3, a4, a5, a6, a7, a8, a9, a10, a11, a12, a13, a14, a15, a16, a17, st, r => by
    obtain ⟨p3, p4, p5, p6, p7, p8, p9, p10, p11, p12, p13, p14, p15, p16, p17, st1, e1, r1⟩ := turnB_eq (a0 := a0) (a2 := some x) (a3 := a3) (a4 := a4) (a5 := a5) (a6 := a6) (a7 := a7) (a8 := a8) (a9 := a9) (a10 := a10) (a11 := a11) (a12 := a12) (a13 := a13) (a14 := a14) (a15 := a15) (a16 := a16) (a17 := a17) r
    obtain ⟨q2, q3, q4, q5, q6, q7, q8, q9, q10, q11, q12, q13, q14, q15, q16, q17, st2, e2, r2⟩ := loopT (a0 := a0) xs (some x) p3 p4 p5 p6 p7 p8 p9 p10 p11 p12 p13 p14 p15 p16 p17 st1 r1
    exact ⟨q2, q3, q4, q5, q6, q7, q8, q9, q10, q11, q12, q13, q14, q15, q16, q17, st2, (forD_next (xs := xs) rfl rfl e1).trans e2, r2⟩
theorem thirty : pcN 30 (1, 1) (1, 1) = 961 * 960 := by decide
theorem says : Says glaw := by
  intro ro ns hn
  have h0 : RowOk [.lst ro (ns.map .int), .lst false [.obj 0, .int 0, .int 0, .int 0]] := ⟨ro, ns, 0, 0, 0, rfl, rfl, by decide, by decide, by decide, by decide⟩
  obtain ⟨p2, p3, p4, p5, p6, p7, p8, p9, p10, p11, p12, p13, p14, p15, p16, p17, st1, e1, r1⟩ := loopT (a0 := some (.obj 0)) (rgD 0 4) none none none none none none none none none none none none none none none none _ h0
  have ob : OnB 30 (1, 1) := by unfold OnB lastN; decide
  obtain ⟨st2, e2, s2⟩ := pc_eq (h := 30) (by decide) (by decide) ob ob st1
  have r2 := (s2.stp r1).row
  have hge := row_ge r2
  refine ⟨st2, by omega, ?_⟩
  show runD 19 blaw _ _ = _
  let l1 : Ls := F19 (some (.obj 0)) p2 p3 p4 p5 p6 p7 p8 p9 p10 p11 p12 p13 p14 p15 p16 p17 none
  refine run_ret (ls := l1) ?_
  rw [blaw_eq]
  refine (dThen_next (ls1 := F19 (some (.obj 0)) none none none none none none none none none none none none none none none none none) (st1 := [.lst ro (ns.map .int), .lst false [.obj 0, .int 0, .int 0, .int 0]]) (dAsg_next (d := .obj 1) rfl rfl)).trans ?_
  refine (dThen_next (ls1 := l1) (st1 := st1) (for_eq (range_it (i := 4) (evA1 rfl) (by decide) (by decide)) e1)).trans (dRet_ok ?_)
  refine (bin_eq (x := .int (pcN 30 (1, 1) (1, 1))) (y := .int (961 * 960)) (st1 := st2) (st2 := st2) ((appE (ds := [.int 30, cD (1, 1), cD (1, 1)]) (st1 := st1) rfl).trans e2) (mul_eq rfl rfl (mulOk_small (by decide) (by decide)))).trans ((eqi _ _ _).trans ?_)
  rw [thirty, decide_eq_true rfl]
end K35
end
open PySem PySem.W PyProof.Rows in
set_option maxRecDepth 100000 in
set_option maxHeartbeats 0 in
theorem PySem.Challenge.cw_ledlines_k35_pieces_told_by_cells_holds : PySem.Challenge.rw_ledlines_k35_pieces_told_by_cells.Holds := by
  w_on; o_law; k_head; (case hw => w_witness2)
  k_fill
  refine LamX.walk_ofTs (l := PySem.Challenge.rw_ledlines_k35_pieces_told_by_cells) (n := 63) (k := 7) (x := "_law_script") (CX := fun w => L2.CX (PySem.Challenge.rw_ledlines_k35_pieces_told_by_cells).prog w) rfl (by decide) rfl ⟨rfl, by decide, by decide⟩ (fun w h Y => PySem.W.kIn_of Y) ?F (fun w H s e s' z => by obtain ⟨_, _, _, _, _, _, _, _, _, _, _, _, z⟩ := z; exact z.elim)
  case F =>
    intro w mg fa h Y KX G hmg
    refine' K35.all_mk K35.says KX G hmg ?a_InvalidHalf ?a_InvalidCell ?a_f_is_number ?l_is_number ?c_is_number ?k_is_number ?c_GREATEST_HALF ?b1 ?a_f_check_half ?l_check_half ?c_check_half ?k_check_half ?a_f_cell_number ?l_cell_number ?c_cell_number ?k_cell_number ?c_GREATEST_COORDINATE ?a_f_ends_in ?l_ends_in ?c_ends_in ?k_ends_in ?a_f_last_number ?l_last_number ?c_last_number ?k_last_number ?a_f_is_on_board ?l_is_on_board ?c_is_on_board ?k_is_on_board ?b2 ?a_f_check_cell ?l_check_cell ?c_check_cell ?k_check_cell ?a_f_end_count ?l_end_count ?c_end_count ?k_end_count ?a_f_piece_count ?l_piece_count ?c_piece_count ?k_piece_count ?a_f_first_piece ?l_first_piece ?c_first_piece ?k_first_piece ?a_f_whole_count ?l_whole_count ?c_whole_count ?k_whole_count ?a_f__law_taken ?l__law_taken ?c__law_taken ?k__law_taken ?a_f__law_half ?l__law_half ?c__law_half ?k__law_half ?b0 ?a_law ?l_law ?c_law
    (case a_InvalidHalf => k_is)
    (case a_InvalidCell => k_is)
    (case a_f_is_number => k_is)
    (case l_is_number => k_is)
    (case c_is_number => k_is)
    (case k_is_number => k_is)
    (case c_GREATEST_HALF => k_is)
    (case b1 => kernel_rfl)
    (case a_f_check_half => k_is)
    (case l_check_half => k_is)
    (case c_check_half => k_is)
    (case k_check_half => k_is)
    (case a_f_cell_number => k_is)
    (case l_cell_number => k_is)
    (case c_cell_number => k_is)
    (case k_cell_number => k_is)
    (case c_GREATEST_COORDINATE => k_is)
    (case a_f_ends_in => k_is)
    (case l_ends_in => k_is)
    (case c_ends_in => k_is)
    (case k_ends_in => k_is)
    (case a_f_last_number => k_is)
    (case l_last_number => k_is)
    (case c_last_number => k_is)
    (case k_last_number => k_is)
    (case a_f_is_on_board => k_is)
    (case l_is_on_board => k_is)
    (case c_is_on_board => k_is)
    (case k_is_on_board => k_is)
    (case b2 => kernel_rfl)
    (case a_f_check_cell => k_is)
    (case l_check_cell => k_is)
    (case c_check_cell => k_is)
    (case k_check_cell => k_is)
    (case a_f_end_count => k_is)
    (case l_end_count => k_is)
    (case c_end_count => k_is)
    (case k_end_count => k_is)
    (case a_f_piece_count => k_is)
    (case l_piece_count => k_is)
    (case c_piece_count => k_is)
    (case k_piece_count => k_is)
    (case a_f_first_piece => k_is)
    (case l_first_piece => k_is)
    (case c_first_piece => k_is)
    (case k_first_piece => k_is)
    (case a_f_whole_count => k_is)
    (case l_whole_count => k_is)
    (case c_whole_count => k_is)
    (case k_whole_count => k_is)
    (case a_f__law_taken => k_is)
    (case l__law_taken => k_is)
    (case c__law_taken => k_is)
    (case k__law_taken => k_is)
    (case a_f__law_half => k_is)
    (case l__law_half => k_is)
    (case c__law_half => k_is)
    (case k__law_half => k_is)
    (case b0 => kernel_rfl)
    (case a_law => k_is)
    (case l_law => k_is)
    (case c_law => k_is)
