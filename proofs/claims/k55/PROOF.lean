import PyProof.Rows.All
import Wide.All
import OpenK.AllK
import Wide.FinOn
import HandS.ForMost
import HandS.Walk
import HandS.Strs
import HandS.Zip
import HandS.TupAny
import HandS.Deep
import HandS.Star
import HandS.SortKw
import KE.SortKeyHeap
import HandS.SetFor
import HandS.Iter
import KE.GoesEnum
import HandS.Conv
import PyProof.TupleOfGen
import PyProof.Rows.SeqMore
import HandS.Codes
import HandS.Text
import HandS.Flow
import HandS.Style
import HandS.ReCall
import HandS.FStr
import HandS.IsInst
import HandS.DictComp
import HandS.More
import PyProof.Rows.StrMeet
import KE.KDictZip
import HandS.MapObj
import KE.KUnpackStar
import HandS.Small
import HandS.Defaults
import HandS.Head0
import HandS.Head1
import HandS.Head2
import HandS.HeadEnd
import HandS.HeadHook1
import HandS.HeadHook2
import PySem.Challenge.RW_streamsure_k55_whole_sets
set_option Elab.async false
set_option linter.all false
set_option maxRecDepth 100000
set_option maxHeartbeats 0
/-! Rf, part A: plain data, where they stand in a heap, what an evaluation may change, slots. -/
namespace Rf
open PySem PySem.Spec L2

/-- plain data -/
inductive D where
  | non | bl (b : Bool) | int (i : Int) | str (s : Str)
  | tup (l : List D) | lst (l : List D)
  | obj (c : Str) (fs : List Str) (l : List D) | dic (ks : List Key) (l : List D)
  /-- a tuple of texts whose index is asked for -/
  | tpx (ys : List Str)
  /-- a dict that stands still for now: read by its keys -/
  | dio (ks : List Key) (l : List D)

/-- the written part, where each class stands, the names of its fields in order -/
structure KC where
  K : PySem.W.Frag
  cl : Str → Addr
  fl : Str → List Str

/-- all of S is in H -/
def Sub (S H : Hp) : Prop := ∀ a o, S a = some o → H a = some o
theorem Sub.refl (S : Hp) : Sub S S := fun _ _ h => h
theorem Sub.trans {A B C : Hp} (x : Sub A B) (y : Sub B C) : Sub A C := fun a o h => y a o (x a o h)

theorem sub_rd {S H : Hp} {a : Addr} {u : HO} (s : Sub S H) (h : Rd S a u) : Rd H a u := by
  rcases h with h | ⟨o, h⟩
  · exact .inl (s a _ h)
  · exact .inr ⟨o, s a _ h⟩
theorem sub_l {K : PySem.W.Frag} {S H : Hp} {a : Addr} {xs : List V} (s : Sub S H) (h : SqL K S a xs) : SqL K H a xs := by
  rcases h with h | h
  · exact .inl (sub_rd s h)
  · exact .inr h
theorem sub_t {K : PySem.W.Frag} {S H : Hp} {a : Addr} {xs : List V} (s : Sub S H) (h : SqT K S a xs) : SqT K H a xs := by
  rcases h with h | h
  · exact .inl (sub_rd s h)
  · exact .inr h

/-- at a stands u, and nobody changes it any more -/
def Fz (S : Hp) (a : Addr) (u : HO) : Prop := ∃ o, S a = some (.frz o u)
theorem Fz.rd {S : Hp} {a : Addr} {u : HO} (h : Fz S a u) : Rd S a u := .inr h
theorem sub_fz {S H : Hp} {a : Addr} {u : HO} (s : Sub S H) (h : Fz S a u) : Fz H a u := by
  obtain ⟨o, h⟩ := h
  exact ⟨o, s a _ h⟩
theorem upd2 {H : Hp} {w : Addr} {x y : HO} : upd (upd H w x) w y = upd H w y := by
  funext b
  unfold upd
  split <;> rfl
/-- a new thing that nobody changes any more -/
def tFrz (t : TE) : TE := fun σ H Q => t σ H fun v H1 => ∃ d u, v = .ref d ∧ H1 d = some u ∧ Mut (some u) ∧ ∀ od, Q v (upd H1 d (.frz od u))
theorem pe_frz {X : Cx} {e : Expr} {t : TE} (h : PE X e t) : PE X e (tFrz t) := by
  refine ⟨fun pins s σ H Q I q => ?_⟩
  refine thn (h.run pins s σ H _ I q) fun v s1 ⟨x, H1, I1, r, d, u, ex, hd, mu, k⟩ => ?_
  obtain ⟨od, I2⟩ := I1.lock hd mu
  exact ⟨x, _, I2, r, k od⟩
theorem ps_frz {X : Cx} {st : Stmt} {t : TS} (h : PS X st t) : PS X st (fun D σ H => t { D with rt := fun v H1 => ∃ d u, v = .ref d ∧ H1 d = some u ∧ Mut (some u) ∧ ∀ od, D.rt v (upd H1 d (.frz od u)) } σ H) := by
  refine ⟨fun pins s σ H D I q => ?_⟩
  refine thn (h.run pins s σ H _ I q) fun f s1 z => ?_
  cases f with
  | next => exact z
  | brk => exact z
  | cont => exact z
  | ret v =>
    obtain ⟨x, σ', H', I2, r, d, u, ex, hd, mu, k⟩ := z
    obtain ⟨od, I3⟩ := I2.lock hd mu
    exact ⟨x, σ', _, I3, r, k od⟩
mutual
/-- the value v stands for the datum in the heap S -/
inductive At (Z : KC) (S : Hp) : V → D → Prop
  | non : At Z S .non .non
  | bl (b : Bool) : At Z S (.bl b) (.bl b)
  | int (i : Int) : At Z S (.int i) (.int i)
  | str (x : Str) : At Z S (.str x) (.str x)
  | tup {a : Addr} {vs : List V} {ds : List D} : SqT Z.K S a vs → Ats Z S vs ds → At Z S (.ref a) (.tup ds)
  | lst {a : Addr} {vs : List V} {ds : List D} : SqL Z.K S a vs → Ats Z S vs ds → At Z S (.ref a) (.lst ds)
  | obj {a dx : Addr} {c : Str} {fs : List Str} {vs : List V} {ds : List D} : S a = some (.ins (Z.cl c) dx (fs.zip vs)) → vs.length = fs.length → Ats Z S vs ds → At Z S (.ref a) (.obj c fs ds)
  | dic {a : Addr} {ks : List Key} {vs : List V} {ds : List D} : Fz S a (.dK (ks.zip vs)) → vs.length = ks.length → Ats Z S vs ds → At Z S (.ref a) (.dic ks ds)
  | tpx {a : Addr} {o : Obj} {ys : List Str} : S a = some (.frz o (.tup (ys.map V.str))) → o.dict = none → At Z S (.ref a) (.tpx ys)
  | dio {a : Addr} {ks : List Key} {vs : List V} {ds : List D} : S a = some (.dK (ks.zip vs)) → vs.length = ks.length → Ats Z S vs ds → At Z S (.ref a) (.dio ks ds)
inductive Ats (Z : KC) (S : Hp) : List V → List D → Prop
  | nil : Ats Z S [] []
  | cons {v : V} {vs : List V} {d : D} {ds : List D} : At Z S v d → Ats Z S vs ds → Ats Z S (v :: vs) (d :: ds)
end

section
variable {Z : KC} {S S' : Hp}
mutual
theorem At.sub (s : Sub S S') : ∀ {v : V} {d : D}, At Z S v d → At Z S' v d
  | _, _, .non => .non
  | _, _, .bl b => .bl b
  | _, _, .int i => .int i
  | _, _, .str x => .str x
  | _, _, .tup h r => .tup (sub_t s h) (Ats.sub s r)
  | _, _, .lst h r => .lst (sub_l s h) (Ats.sub s r)
  | _, _, .obj h l r => .obj (s _ _ h) l (Ats.sub s r)
  | _, _, .dic h l r => .dic (sub_fz s h) l (Ats.sub s r)
  | _, _, .tpx h e => .tpx (s _ _ h) e
  | _, _, .dio h l r => .dio (s _ _ h) l (Ats.sub s r)
theorem Ats.sub (s : Sub S S') : ∀ {vs : List V} {ds : List D}, Ats Z S vs ds → Ats Z S' vs ds
  | _, _, .nil => .nil
  | _, _, .cons h r => .cons (At.sub s h) (Ats.sub s r)
end
theorem Ats.len : ∀ {vs : List V} {ds : List D}, Ats Z S vs ds → vs.length = ds.length
  | _, _, .nil => rfl
  | _, _, .cons _ r => by rw [List.length_cons, List.length_cons, r.len]
theorem Ats.get : ∀ {vs : List V} {ds : List D} {i : Nat} {d : D}, Ats Z S vs ds → ds[i]? = some d → ∃ v, vs[i]? = some v ∧ At Z S v d
  | _, _, _, _, .nil, e => by simp at e
  | _, _, 0, _, .cons h _, e => by simp at e; subst e; exact ⟨_, rfl, h⟩
  | _, _, i + 1, d, .cons _ r, e => by
    obtain ⟨v, h1, h2⟩ := r.get (i := i) (d := d) (by simpa using e)
    exact ⟨v, by simpa using h1, h2⟩
theorem Ats.getV : ∀ {vs : List V} {ds : List D} {i : Nat} {v : V}, Ats Z S vs ds → vs[i]? = some v → ∃ d, ds[i]? = some d ∧ At Z S v d
  | _, _, _, _, .nil, e => by simp at e
  | _, _, 0, _, .cons h _, e => by simp at e; subst e; exact ⟨_, rfl, h⟩
  | _, _, i + 1, v, .cons _ r, e => by
    obtain ⟨d, h1, h2⟩ := r.getV (i := i) (v := v) (by simpa using e)
    exact ⟨d, by simpa using h1, h2⟩
theorem Ats.append : ∀ {vs ws : List V} {ds es : List D}, Ats Z S vs ds → Ats Z S ws es → Ats Z S (vs ++ ws) (ds ++ es)
  | _, _, _, _, .nil, r => r
  | _, _, _, _, .cons h t, r => .cons h (t.append r)
theorem Ats.take : ∀ {vs : List V} {ds : List D} (n : Nat), Ats Z S vs ds → Ats Z S (vs.take n) (ds.take n)
  | _, _, 0, _ => .nil
  | _, _, _ + 1, .nil => .nil
  | _, _, n + 1, .cons h t => .cons h (t.take n)
theorem Ats.drop : ∀ {vs : List V} {ds : List D} (n : Nat), Ats Z S vs ds → Ats Z S (vs.drop n) (ds.drop n)
  | _, _, 0, r => r
  | _, _, _ + 1, .nil => .nil
  | _, _, n + 1, .cons _ t => t.drop n
theorem Ats.set {v : V} {d : D} (h : At Z S v d) : ∀ {vs : List V} {ds : List D} (i : Nat), Ats Z S vs ds → Ats Z S (vs.set i v) (ds.set i d)
  | _, _, _, .nil => .nil
  | _, _, 0, .cons _ t => .cons h t
  | _, _, i + 1, .cons q t => .cons q (t.set h i)
theorem Ats.snoc {v : V} {d : D} {vs : List V} {ds : List D} (r : Ats Z S vs ds) (h : At Z S v d) : Ats Z S (vs ++ [v]) (ds ++ [d]) := r.append (.cons h .nil)
/-- a list of ints -/
theorem Ats.ints : ∀ {vs : List V} {ns : List Int}, Ats Z S vs (ns.map D.int) → vs = ns.map V.int
  | _, [], .nil => rfl
  | _, n :: ns, .cons h r => by
    cases h
    rw [List.map_cons, r.ints]
theorem Ats.strs : ∀ {vs : List V} {ns : List Str}, Ats Z S vs (ns.map D.str) → vs = ns.map V.str
  | _, [], .nil => rfl
  | _, n :: ns, .cons h r => by
    cases h
    rw [List.map_cons, r.strs]
theorem Ats.of_ints : ∀ (ns : List Int), Ats Z S (ns.map V.int) (ns.map D.int)
  | [] => .nil
  | n :: ns => .cons (.int n) (Ats.of_ints ns)
theorem Ats.bls : ∀ {vs : List V} {bs : List Bool}, Ats Z S vs (bs.map D.bl) → vs = bs.map V.bl
  | _, [], .nil => rfl
  | _, b :: bs, .cons h r => by
    cases h
    rw [List.map_cons, r.bls]
end

/-! ### scalars -/
def D.scal : D → Bool
  | .non | .bl _ | .int _ | .str _ => true
  | _ => false
/-- the value of a scalar -/
def D.v : D → V
  | .non => .non
  | .bl b => .bl b
  | .int i => .int i
  | .str s => .str s
  | _ => .non
theorem At.scal {Z : KC} {S : Hp} {v : V} {d : D} (h : At Z S v d) (s : d.scal = true) : v = d.v := by
  cases h <;> first | rfl | cases s
theorem At.of_scal {Z : KC} {S : Hp} {d : D} (s : d.scal = true) : At Z S d.v d := by
  cases d <;> first | exact .non | exact .bl _ | exact .int _ | exact .str _ | cases s

/-! ### as the library's data -/
mutual
def D.pd : D → Option PyData
  | .non => some .none
  | .bl b => some (.bool b)
  | .int i => some (.int i)
  | .str s => some (.str s)
  | .tup l => (D.pds l).map .tuple
  | .lst l => (D.pds l).map .list
  | .obj _ _ _ => none
  | .dic _ _ => none
  | .tpx _ => none
  | .dio _ _ => none
def D.pds : List D → Option (List PyData)
  | [] => some []
  | d :: r => match D.pd d, D.pds r with
    | some e, some es => some (e :: es)
    | _, _ => none
end
section
variable {Z : KC} {S : Hp}
mutual
theorem At.dp : ∀ {v : V} {d : D} {e : PyData}, At Z S v d → d.pd = some e → Dp Z.K S v e
  | _, _, _, .non, q => by cases q; exact .non
  | _, _, _, .bl b, q => by cases q; exact .bl b
  | _, _, _, .int i, q => by cases q; exact .int i
  | _, _, _, .str x, q => by cases q; exact .str x
  | _, .tup ds, e, .tup h r, q => by
    unfold D.pd at q
    cases e1 : D.pds ds with
    | none => rw [e1] at q; cases q
    | some es => rw [e1] at q; cases q; exact .tup h (Ats.dp r e1)
  | _, .lst ds, e, .lst h r, q => by
    unfold D.pd at q
    cases e1 : D.pds ds with
    | none => rw [e1] at q; cases q
    | some es => rw [e1] at q; cases q; exact .lst h (Ats.dp r e1)
  | _, _, _, .obj .., q => by cases q
  | _, _, _, .dic .., q => by cases q
  | _, _, _, .tpx .., q => by cases q
  | _, _, _, .dio .., q => by cases q
theorem Ats.dp : ∀ {vs : List V} {ds : List D} {es : List PyData}, Ats Z S vs ds → D.pds ds = some es → DpAll Z.K S vs es
  | _, _, _, .nil, q => by cases q; exact .nil
  | _, d :: ds, es, .cons h r, q => by
    unfold D.pds at q
    cases e1 : D.pd d with
    | none => rw [e1] at q; cases q
    | some e =>
      cases e2 : D.pds ds with
      | none => rw [e1, e2] at q; cases q
      | some er => rw [e1, e2] at q; cases q; exact .cons (At.dp h e1) (Ats.dp r e2)
end
end

/-! ### what an evaluation may change: nothing but the draw list's count; S is what is known to stand still -/
structure Ext (g : Option Addr) (H S H' S' : Hp) : Prop where
  kp : ∀ a o, some a ≠ g → H a = some o → H' a = some o
  st : ∀ a, H a ≠ none → H' a ≠ none
  ss : Sub S S'
  no : ∀ a, S a = none → H a ≠ none → S' a = none
  sub : Sub S' H'
section
variable {g : Option Addr} {H S H1 S1 H2 S2 : Hp}
theorem Ext.refl (s : Sub S H) : Ext g H S H S := ⟨fun _ _ _ h => h, fun _ h => h, Sub.refl S, fun _ h _ => h, s⟩
theorem Ext.trans (x : Ext g H S H1 S1) (y : Ext g H1 S1 H2 S2) : Ext g H S H2 S2 :=
  ⟨fun a o n h => y.kp a o n (x.kp a o n h), fun a h => y.st a (x.st a h), x.ss.trans y.ss, fun a h n => y.no a (x.no a h n) (x.st a n), y.sub⟩
theorem Ext.free (x : Ext g H S H1 S1) {a : Addr} (h : H1 a = none) : H a = none := by
  cases e : H a with
  | none => rfl
  | some o => exact absurd h (x.st a (by rw [e]; intro z; cases z))
/-- a new object that stands still from now on -/
theorem Ext.new (s : Sub S H) {p : Addr} {o : HO} (n : H p = none) : Ext g H S (upd H p o) (upd S p o) where
  kp := fun a u _ h => by rw [upd_ne (ne_of_none h n)]; exact h
  st := fun a h => by
    by_cases e : a = p
    · subst e; exact absurd n h
    · rw [upd_ne e]; exact h
  ss := fun a u h => by rw [upd_ne (ne_of_none (s a u h) n)]; exact h
  no := fun a h h' => by
    have e : a ≠ p := fun e => by subst e; exact h' n
    rw [upd_ne e]; exact h
  sub := fun a u h => by
    by_cases e : a = p
    · subst e; rw [upd_same] at h ⊢; exact h
    · rw [upd_ne e] at h ⊢; exact s a u h
/-- a new object that is somebody's own -/
theorem Ext.newOwn (s : Sub S H) {p : Addr} {o : HO} (n : H p = none) : Ext g H S (upd H p o) S where
  kp := fun a u _ h => by rw [upd_ne (ne_of_none h n)]; exact h
  st := fun a h => by
    by_cases e : a = p
    · subst e; exact absurd n h
    · rw [upd_ne e]; exact h
  ss := Sub.refl S
  no := fun a h _ => h
  sub := fun a u h => by rw [upd_ne (ne_of_none (s a u h) n)]; exact s a u h
theorem Ext.none_any (x : Ext none H S H1 S1) : Ext g H S H1 S1 := ⟨fun a o _ h => x.kp a o (by intro z; cases z) h, x.st, x.ss, x.no, x.sub⟩
end

/-! ### slots -/
inductive Slot where
  | no
  /-- a datum that nobody changes -/
  | sh (d : D)
  /-- a list of the frame's own: only this slot knows it -/
  | ow (ds : List D)
  /-- a set of ints of the frame's own -/
  | st (ns : List Int)
  /-- an object that is made: its attributes so far -/
  | ob (c : Str) (fs : List Str) (ds : List D)
  /-- a dict of the frame's own -/
  | od (ks : List Key) (ds : List D)
  /-- the draw list [script, count] -/
  | dr (scr : D)
  /-- just this place in the heap: nothing is read of it, it is kept -/
  | pin (a : Addr)
  /-- a dict of the frame's own, at a known place -/
  | oda (a : Addr) (ks : List Key) (ds : List D)

/-- what stays fixed while a frame runs: the written part, the world, the draw list and the script, the heap at the entry and what stood still there -/
structure Par where
  Z : KC
  w : World
  dg : Option (Addr × Addr)
  H0 : Hp
  S0 : Hp
  sf : Option Addr
abbrev Par.g (p : Par) : Option Addr := p.dg.map (·.1)

def SlotOk (p : Par) (σ : L2.St) (H S : Hp) (i : Nat) : Slot → Prop
  | .no => True
  | .sh d => ∃ v, σ[i]? = some (some v) ∧ At p.Z S v d
  | .ow ds => ∃ a vs, σ[i]? = some (some (.ref a)) ∧ H a = some (.lst vs) ∧ S a = none ∧ p.H0 a = none ∧ Ats p.Z S vs ds
  | .st ns => ∃ a, σ[i]? = some (some (.ref a)) ∧ H a = some (.set (fun k => decide (k ∈ ns)) ns.length) ∧ S a = none ∧ p.H0 a = none
  | .ob c fs ds => ∃ a dx vs, p.sf = some a ∧ σ[i]? = some (some (.ref a)) ∧ H a = some (.ins (p.Z.cl c) dx (fs.zip vs)) ∧ S a = none ∧ p.H0 a = none ∧ vs.length = fs.length ∧ Ats p.Z S vs ds
  | .od ks ds => ∃ a vs, σ[i]? = some (some (.ref a)) ∧ H a = some (.dK (ks.zip vs)) ∧ S a = none ∧ p.H0 a = none ∧ vs.length = ks.length ∧ Ats p.Z S vs ds
  | .dr scr => ∃ g sc, p.dg = some (g, sc) ∧ σ[i]? = some (some (.ref g)) ∧ At p.Z S (.ref sc) scr
  | .pin a => σ[i]? = some (some (.ref a))
  | .oda a ks ds => ∃ vs, σ[i]? = some (some (.ref a)) ∧ H a = some (.dK (ks.zip vs)) ∧ S a = none ∧ p.H0 a = none ∧ vs.length = ks.length ∧ Ats p.Z S vs ds
def DrawOk (p : Par) (H S : Hp) (c : Int) : Prop := ∀ g sc, p.dg = some (g, sc) → H g = some (.lst [.ref sc, .int c]) ∧ S g = none ∧ p.H0 g ≠ none
def Slot.own : Slot → Bool
  | .ow _ => true
  | .st _ => true
  | .ob _ _ _ => true
  | .od _ _ => true
  | .oda _ _ _ => true
  | _ => false

structure Rel (p : Par) (σ : L2.St) (H S : Hp) (ρ : List Slot) (c : Int) : Prop where
  ext : Ext p.g p.H0 p.S0 H S
  slot : ∀ (i : Nat) (sl : Slot), ρ[i]? = some sl → SlotOk p σ H S i sl
  apart : ∀ (i j : Nat) (si sj : Slot) (a : Addr), ρ[i]? = some si → ρ[j]? = some sj → si.own = true → sj.own = true → σ[i]? = some (some (.ref a)) → σ[j]? = some (some (.ref a)) → i = j
  dr : DrawOk p H S c
  len : σ.length = ρ.length

section
variable {p : Par} {σ : L2.St} {H S H1 S1 : Hp} {ρ : List Slot} {c c1 : Int}
/-- behind the evaluation of an expression -/
theorem Rel.step (R : Rel p σ H S ρ c) (x : Ext p.g H S H1 S1) (d : ∀ g sc, p.dg = some (g, sc) → H1 g = some (.lst [.ref sc, .int c1])) : Rel p σ H1 S1 ρ c1 where
  ext := R.ext.trans x
  slot := fun i sl e => by
    have h := R.slot i sl e
    have own : ∀ a, p.H0 a = none → some a ≠ p.g := fun a ha z => by
      cases hd : p.dg with
      | none => unfold Par.g at z; rw [hd] at z; cases z
      | some q =>
        obtain ⟨g, sc⟩ := q
        unfold Par.g at z; rw [hd] at z
        have z' : a = g := Option.some.inj z
        subst z'
        exact (R.dr a sc hd).2.2 ha
    cases sl with
    | no => trivial
    | sh d =>
      obtain ⟨v, h1, h2⟩ := h
      exact ⟨v, h1, h2.sub x.ss⟩
    | ow ds =>
      obtain ⟨a, vs, h1, h2, h3, h4, h5⟩ := h
      exact ⟨a, vs, h1, x.kp a _ (own a h4) h2, x.no a h3 (by rw [h2]; intro z; cases z), h4, h5.sub x.ss⟩
    | st ns =>
      obtain ⟨a, h1, h2, h3, h4⟩ := h
      exact ⟨a, h1, x.kp a _ (own a h4) h2, x.no a h3 (by rw [h2]; intro z; cases z), h4⟩
    | ob k fs ds =>
      obtain ⟨a, dx, vs, h0, h1, h2, h3, h4, h5, h6⟩ := h
      exact ⟨a, dx, vs, h0, h1, x.kp a _ (own a h4) h2, x.no a h3 (by rw [h2]; intro z; cases z), h4, h5, h6.sub x.ss⟩
    | od ks ds =>
      obtain ⟨a, vs, h1, h2, h3, h4, h5, h6⟩ := h
      exact ⟨a, vs, h1, x.kp a _ (own a h4) h2, x.no a h3 (by rw [h2]; intro z; cases z), h4, h5, h6.sub x.ss⟩
    | dr scr =>
      obtain ⟨g, sc, h1, h2, h3⟩ := h
      exact ⟨g, sc, h1, h2, h3.sub x.ss⟩
    | pin a => exact h
    | oda a ks ds =>
      obtain ⟨vs, h1, h2, h3, h4, h5, h6⟩ := h
      exact ⟨vs, h1, x.kp a _ (own a h4) h2, x.no a h3 (by rw [h2]; intro z; cases z), h4, h5, h6.sub x.ss⟩
  apart := R.apart
  dr := fun g sc e => by
    obtain ⟨h1, h2, h3⟩ := R.dr g sc e
    exact ⟨d g sc e, x.no g h2 (by rw [h1]; intro z; cases z), h3⟩
  len := R.len
/-- .. where nothing was drawn -/
theorem Rel.step0 (R : Rel p σ H S ρ c) (x : Ext none H S H1 S1) : Rel p σ H1 S1 ρ c :=
  R.step x.none_any fun g sc e => x.kp g _ (by intro z; cases z) (R.dr g sc e).1
theorem Rel.ne_g (R : Rel p σ H S ρ c) {a : Addr} (ha : p.H0 a = none) : some a ≠ p.g := fun z => by
  cases hd : p.dg with
  | none => unfold Par.g at z; rw [hd] at z; cases z
  | some q =>
    obtain ⟨g, sc⟩ := q
    unfold Par.g at z; rw [hd] at z
    have z' : a = g := Option.some.inj z
    subst z'
    exact (R.dr a sc hd).2.2 ha
theorem Rel.sub (R : Rel p σ H S ρ c) : Sub S H := R.ext.sub
end
end Rf

/-! Rf, part P: set(xs) of texts, as many as one likes. -/
namespace Rf
open PySem PySem.Spec L2 PyProof.Rows
/-- the unlike ones, each where it came first -/
def uniq {K : Type} [DecidableEq K] : List K → List K
  | [] => []
  | x :: r => x :: (uniq r).filter fun y => !decide (y = x)
/-- .. told from the right -/
def grow {K : Type} [DecidableEq K] (l : List K) (x : K) : List K := if l.any (fun y => decide (y = x)) = true then l else l ++ [x]
def grown {K : Type} [DecidableEq K] (l : List K) : List K := l.foldl grow []
section
variable {K : Type} [DecidableEq K]
theorem grow_any (l : List K) (x k : K) : (grow l x).any (fun y => decide (y = k)) = (l.any (fun y => decide (y = k)) || decide (k = x)) := by
  unfold grow
  by_cases h : l.any (fun y => decide (y = x)) = true
  · rw [if_pos h]
    by_cases e : k = x
    · subst e; rw [h]; rfl
    · rw [decide_eq_false e, Bool.or_false]
  · rw [if_neg h, List.any_append]
    by_cases e : k = x
    · subst e; simp
    · have e' : ¬ x = k := fun z => e z.symm
      simp [e, e']
theorem grow_len (l : List K) (x : K) : (grow l x).length = if l.any (fun y => decide (y = x)) = true then l.length else l.length + 1 := by
  unfold grow
  split
  · rfl
  · rw [List.length_append, List.length_singleton]
theorem grow_le (l : List K) (x : K) : (grow l x).length ≤ l.length + 1 := by
  rw [grow_len]; split <;> omega
theorem fold_le : ∀ (xs l : List K), (xs.foldl grow l).length ≤ l.length + xs.length
  | [], l => Nat.le_refl _
  | x :: xs, l => by
    have h1 := fold_le xs (grow l x)
    have h2 := grow_le l x
    rw [List.foldl_cons, List.length_cons]
    omega
theorem grown_le (xs : List K) : (grown xs).length ≤ xs.length := by
  have := fold_le xs ([] : List K)
  rw [List.length_nil, Nat.zero_add] at this
  exact this
theorem grown_succ (xs : List K) (i : Nat) (x : K) (h : xs[i]? = some x) : grown (xs.take (i + 1)) = grow (grown (xs.take i)) x := by
  unfold grown
  rw [List.take_add_one, h, Option.toList_some, List.foldl_append, List.foldl_cons, List.foldl_nil]
end
section
variable {prog : Program} {w : World} {A : Around} {R : Result → Shared → Prop} {I : Addr} {fp wr : List Addr} {G : Array GenState → Array GenState → Prop} {n : Nat} {P : Nat → Value → Prop} {St : Nat → Shared → Prop} {K : Type} [DecidableEq K] {knd : KeyKind prog w K}
/-- the set of the first i items -/
def Upto (knd : KeyKind prog w K) (xs : List K) (S : Addr) (i : Nat) (h : Heap) : Prop := h.SetOf knd S (fun k => (grown (xs.take i)).any fun y => decide (y = k)) (grown (xs.take i)).length
theorem Upto.at {xs : List K} {S : Addr} {i : Nat} {h h' : Heap} (u : Upto knd xs S i h) (k : ∀ o, h.get? S = some o → h'.get? S = some o) : Upto knd xs S i h' := by
  obtain ⟨o, es, ep, t, ho, rest⟩ := u; exact ⟨o, es, ep, t, k o ho, rest⟩
theorem fill_set (W : WalksS prog w A.in1 I fp wr G n P St) (S : Addr) (nf : S ∉ fp) (xs : List K) (hz : xs.length = n) (small : n + 1 < scanBound) (item : ∀ i v, P i v → ∃ k, xs[i]? = some k ∧ knd.is k v = true ∧ v.scannable = true) :
    ∀ (m i : Nat) (s : Shared), n - i = m → i ≤ n → St i s → Upto knd xs S i s.heap → (∀ s', Moved (S :: wr) G s s' → Upto knd xs S n s'.heap → R (.ok (.ret .none)) s') →
      codeAny (model prog w) A (.builtin "set.update.loop" ⟨[.ref S, .ref I], []⟩) R s := by
  have nw : S ∉ wr := fun h => nf (W.sub _ h)
  have more : ∀ b ∈ wr, b ∈ S :: wr := fun b h => List.mem_cons_of_mem _ h
  have quiet := F.plain_set_update_loop
  intro m; induction m with
  | zero =>
    intro i s e1 e2 st u fin; obtain rfl : i = n := by omega
    refine codeAny_builtin F.entry_set_update_loop ?_; rw [Around.under_plainId quiet _]
    exact wpAny_bind (W.done s _ _ st fun s' mv => wpAny_pure (fin s' (mv.mono more) (u.at fun o e => mv.heap S o nw e)))
  | succ m ih =>
    intro i s e1 e2 st u fin; have lt : i < n := by omega
    refine codeAny_builtin F.entry_set_update_loop ?_; rw [Around.under_plainId quiet _]
    refine wpAny_bind (W.item i s _ _ lt st fun v s' pv st' mv => ?_); obtain ⟨k, hk, ks, sc⟩ := item i v pv
    have u' : Upto knd xs S i s'.heap := u.at fun o e => mv.heap S o nw e
    show wpAny _ A.in1 (holding [v] (setAdd S v) >>= _) _ _ s'
    refine wpAny_bind (wpAny_holding ?_); unfold setAdd; refine wpAny_holding (wpAny_bind (knd.pyHash ks ?_))
    have few : (grown (xs.take i)).length + 1 < scanBound := by have h1 := grown_le (xs.take i); rw [List.length_take] at h1; omega
    refine wpAny_setAddHashed_of (s := { s' with toks := s'.toks + 1 }) ks sc u' few fun h' sb u2 => ?_
    have u3 : Upto knd xs S (i + 1) h' := by
      unfold Upto; rw [grown_succ xs i k hk, grow_len]
      exact (funext (fun q => grow_any (grown (xs.take i)) k q) : (fun q => (grow (grown (xs.take i)) k).any fun y => decide (y = q)) = _) ▸ u2
    refine wpAny_pure ⟨plainId_quiet quiet _, ih (i + 1) _ (by omega) lt (W.frame _ s' _ _ st' (Nat.le_succ _) fun b hb o e => ?_) u3 fun s'' m2 u4 => fin s'' (Moved.trans W.gtrans ((mv.mono more).then_heap (Nat.le_succ _) fun b o hb e => ?_) m2) u4⟩
    · rw [sb.2 b fun z : b = S => nf (z ▸ hb)]; exact e
    · rw [sb.2 b fun z => hb (z ▸ List.mem_cons_self)]; exact e
end
/-- a fresh set's record -/
abbrev set0 (led : Bool) : Obj := { cls := .type "set", dict := none, data := .set #[] 0 (.fresh 0 0 led) }
section
variable {prog : Program} {w : World} {A : Around} {E : Value → Shared → Prop} {s : Shared} {K : Type} [DecidableEq K] {knd : KeyKind prog w K}
set_option maxHeartbeats 8000000 in
theorem set_tup {l : Addr} {items : Array Value} {xs : List K} {Q : Value → Shared → Prop} (hh : A.handled = none) (ht : s.heap.IsTuple l items) (hz : xs.length = items.size) (small : items.size + 1 < scanBound)
    (item : ∀ (i : Nat) (v : Value), items[i]? = some v → ∃ k, xs[i]? = some k ∧ knd.is k v = true ∧ v.scannable = true)
    (fin : ∀ (h' : Heap) (tk : Nat), Upto knd xs s.heap.objs.size items.size h' → (∀ b o, s.heap.get? b = some o → h'.get? b = some o) → Q (.ref s.heap.objs.size) { s with heap := h', toks := tk }) : wpAny (model prog w) A (call (.type "set") [.ref l]) Q E s := by
  obtain ⟨c, tl, hmro⟩ := PySem.F.called_set.mro
  have q1 := PySem.F.called_set.made; have q2 := PySem.F.called_set.sub; have q3 := PySem.F.called_set.notType; have q4 := PySem.F.called_set.canCreate; have q5 := PySem.F.typeCall_set_1 (.ref l)
  refine wpAny_call (codeAny_of_tree ?_); show wpAny _ _ (callAny (.type "set") _) _ _ _
  refine wpAny_pure ⟨Code.quiet_builtin _ (by decide +kernel), codeAny_builtin PySem.F.entry_type_call ?_⟩; rw [Around.under_plain (weight_type_call_type "set" [.ref l] []) rfl]
  repeat (any_goals (first | assumption | wp_step))
  refine codeAny_mono (code_set_new_1 (.ref l) (E := E) (Q₁ := fun obj s₁ => ∃ led : Bool, obj = .ref s.heap.objs.size ∧ s₁ = { s with heap := s.heap.push (set0 led) }) fun led => ⟨led, rfl, rfl⟩) fun r s₁ hr => ?_
  cases r with
  | error e => exact hr
  | ok fl => cases fl with
    | ret obj =>
      obtain ⟨led, rfl, rfl⟩ := hr; have hS : (s.heap.push (set0 led)).get? s.heap.objs.size = some (set0 led) := Heap.get?_push_size _ rfl
      have q6 := PySem.F.called_set.init.lookup; have q7 := PySem.F.called_set.init.bind (.ref s.heap.objs.size); have hT : Shared.TypeIs { s with heap := s.heap.push (set0 led) } (.ref s.heap.objs.size) "set" := ⟨_, hS, rfl⟩
      repeat (any_goals (first | assumption | wp_step))
      refine codeAny_mono (codeAny_call_builtin (R := wants (fun r s₂ => r = .none ∧ ∃ h' tk, s₂ = { s with heap := h', toks := tk } ∧ Upto knd xs s.heap.objs.size items.size h' ∧ (∀ b o, s.heap.get? b = some o → h'.get? b = some o)) E) PySem.F.called_set.init.plain PySem.F.entry_set_init (check_set_init_1 hT ?_)) fun r₂ s₂ hr₂ => ?_
      · obtain ⟨ol, hol, hcl, nl, hdl⟩ := ht; obtain ⟨ocls, odict, odata, oslots⟩ := ol; simp only at hcl hdl; subst hcl; subst hdl
        have h3 : (s.heap.push (set0 led)).get? l = some { cls := .type "tuple", dict := odict, data := .seq items nl, slots := oslots } := Heap.get?_push_of_some _ hol
        have q8 := PySem.F.sub_tuple_set; have q9 := PySem.F.sub_tuple_frozenset; have q0 : (Value.type "tuple" == Value.type "dict") = false := by decide
        have hl1 : (s.heap.push (set0 led)).IsTuple l items := ⟨_, h3, rfl, nl, rfl⟩
        unfold Builtin.«set.__init__» noKeywords Builtin.Frozenset.updateFrom; generalize hPI : pyIter = PI; wp_walk; subst hPI
        refine wpAny_pyIter_tuple hl1 (wpAny_bind (wpAny_runValue ?_))
        have lS : l < s.heap.objs.size := Heap.lt_size hol
        have sz : (s.heap.push (set0 led)).objs.size = s.heap.objs.size + 1 := Heap.size_push _ _
        have ne1 : l ≠ (s.heap.push (set0 led)).objs.size := by rw [sz]; exact Nat.ne_of_lt (Nat.lt_succ_of_lt lS)
        have nf : s.heap.objs.size ∉ [(s.heap.push (set0 led)).objs.size, l] := by rw [sz]; simp only [List.mem_cons, List.not_mem_nil, or_false, not_or]; exact ⟨Nat.ne_of_lt (Nat.lt_succ_self _), Nat.ne_of_gt lS⟩
        refine fill_set (knd := knd) ((Walks.tuple (by simp [hh]) _ l ne1 items).toS) s.heap.objs.size nf xs hz small item (items.size - 0) 0 _ (by omega) (Nat.zero_le _) ⟨⟨_, Heap.get?_push_size _ rfl, rfl, rfl⟩, (hl1.push _)⟩ ?hS0 ?hR
        case hS0 =>
          exact (setObjOf_fresh (knd := knd) led).setOf (Heap.get?_push_of_some _ hS) (by unfold scanBound; omega)
        case hR =>
          intro s' mv u'; obtain ⟨h', g', d', tk', os'⟩ := s'
          have eg : g' = s.gens := mv.gens; have ed : d' = s.drawn := mv.drawn; have eo : os' = s.os := mv.os; subst eg; subst ed; subst eo
          show wpAny _ _ _ _ _ _; refine wpAny_pure ?_; show wpAny _ _ (ret Value.none) _ _ _; refine wpAny_pure ⟨rfl, h', tk', rfl, u', fun b o e => ?_⟩
          have hb := Heap.lt_size e
          refine mv.heap b o ?_ (Heap.get?_push_of_some _ (Heap.get?_push_of_some _ e))
          rw [sz]; simp only [List.mem_cons, List.not_mem_nil, or_false, not_or]; exact ⟨Nat.ne_of_lt hb, Nat.ne_of_lt (Nat.lt_succ_of_lt hb)⟩
      · cases r₂ with
        | error e => exact hr₂
        | ok fl₂ => cases fl₂ with
          | ret r =>
            obtain ⟨rfl, h', tk, rfl, u', hk'⟩ := hr₂; repeat (any_goals (first | assumption | wp_step))
            exact fin _ _ u' hk'
          | _ => exact hr₂.elim
    | _ => exact hr.elim
set_option maxHeartbeats 8000000 in
theorem set_lst {l : Addr} {items : Array Value} {xs : List K} {Q : Value → Shared → Prop} (hh : A.handled = none) (ht : s.heap.IsList l items) (hz : xs.length = items.size) (small : items.size + 1 < scanBound)
    (item : ∀ (i : Nat) (v : Value), items[i]? = some v → ∃ k, xs[i]? = some k ∧ knd.is k v = true ∧ v.scannable = true)
    (fin : ∀ (h' : Heap) (tk : Nat), Upto knd xs s.heap.objs.size items.size h' → (∀ b o, s.heap.get? b = some o → h'.get? b = some o) → Q (.ref s.heap.objs.size) { s with heap := h', toks := tk }) : wpAny (model prog w) A (call (.type "set") [.ref l]) Q E s := by
  obtain ⟨c, tl, hmro⟩ := PySem.F.called_set.mro
  have q1 := PySem.F.called_set.made; have q2 := PySem.F.called_set.sub; have q3 := PySem.F.called_set.notType; have q4 := PySem.F.called_set.canCreate; have q5 := PySem.F.typeCall_set_1 (.ref l)
  refine wpAny_call (codeAny_of_tree ?_); show wpAny _ _ (callAny (.type "set") _) _ _ _
  refine wpAny_pure ⟨Code.quiet_builtin _ (by decide +kernel), codeAny_builtin PySem.F.entry_type_call ?_⟩; rw [Around.under_plain (weight_type_call_type "set" [.ref l] []) rfl]
  repeat (any_goals (first | assumption | wp_step))
  refine codeAny_mono (code_set_new_1 (.ref l) (E := E) (Q₁ := fun obj s₁ => ∃ led : Bool, obj = .ref s.heap.objs.size ∧ s₁ = { s with heap := s.heap.push (set0 led) }) fun led => ⟨led, rfl, rfl⟩) fun r s₁ hr => ?_
  cases r with
  | error e => exact hr
  | ok fl => cases fl with
    | ret obj =>
      obtain ⟨led, rfl, rfl⟩ := hr; have hS : (s.heap.push (set0 led)).get? s.heap.objs.size = some (set0 led) := Heap.get?_push_size _ rfl
      have q6 := PySem.F.called_set.init.lookup; have q7 := PySem.F.called_set.init.bind (.ref s.heap.objs.size); have hT : Shared.TypeIs { s with heap := s.heap.push (set0 led) } (.ref s.heap.objs.size) "set" := ⟨_, hS, rfl⟩
      repeat (any_goals (first | assumption | wp_step))
      refine codeAny_mono (codeAny_call_builtin (R := wants (fun r s₂ => r = .none ∧ ∃ h' tk, s₂ = { s with heap := h', toks := tk } ∧ Upto knd xs s.heap.objs.size items.size h' ∧ (∀ b o, s.heap.get? b = some o → h'.get? b = some o)) E) PySem.F.called_set.init.plain PySem.F.entry_set_init (check_set_init_1 hT ?_)) fun r₂ s₂ hr₂ => ?_
      · obtain ⟨ol, hol, hcl, nl, hdl⟩ := ht; obtain ⟨ocls, odict, odata, oslots⟩ := ol; simp only at hcl hdl; subst hcl; subst hdl
        have h3 : (s.heap.push (set0 led)).get? l = some { cls := .type "list", dict := odict, data := .seq items nl, slots := oslots } := Heap.get?_push_of_some _ hol
        have q8 := PySem.F.sub_list_set; have q9 := PySem.F.sub_list_frozenset; have q0 : (Value.type "list" == Value.type "dict") = false := by decide
        have hl1 : (s.heap.push (set0 led)).IsList l items := ⟨_, h3, rfl, nl, rfl⟩
        unfold Builtin.«set.__init__» noKeywords Builtin.Frozenset.updateFrom; generalize hPI : pyIter = PI; wp_walk; subst hPI
        refine wpAny_pyIter_list hl1 (wpAny_bind (wpAny_runValue ?_))
        have lS : l < s.heap.objs.size := Heap.lt_size hol
        have sz : (s.heap.push (set0 led)).objs.size = s.heap.objs.size + 1 := Heap.size_push _ _
        have ne1 : l ≠ (s.heap.push (set0 led)).objs.size := by rw [sz]; exact Nat.ne_of_lt (Nat.lt_succ_of_lt lS)
        have nf : s.heap.objs.size ∉ [(s.heap.push (set0 led)).objs.size, l] := by rw [sz]; simp only [List.mem_cons, List.not_mem_nil, or_false, not_or]; exact ⟨Nat.ne_of_lt (Nat.lt_succ_self _), Nat.ne_of_gt lS⟩
        refine fill_set (knd := knd) ((Walks.list (by simp [hh]) _ l ne1 items).toS) s.heap.objs.size nf xs hz small item (items.size - 0) 0 _ (by omega) (Nat.zero_le _) ⟨⟨_, Heap.get?_push_size _ rfl, rfl, rfl⟩, (hl1.push _)⟩ ?hS0 ?hR
        case hS0 =>
          exact (setObjOf_fresh (knd := knd) led).setOf (Heap.get?_push_of_some _ hS) (by unfold scanBound; omega)
        case hR =>
          intro s' mv u'; obtain ⟨h', g', d', tk', os'⟩ := s'
          have eg : g' = s.gens := mv.gens; have ed : d' = s.drawn := mv.drawn; have eo : os' = s.os := mv.os; subst eg; subst ed; subst eo
          show wpAny _ _ _ _ _ _; refine wpAny_pure ?_; show wpAny _ _ (ret Value.none) _ _ _; refine wpAny_pure ⟨rfl, h', tk', rfl, u', fun b o e => ?_⟩
          have hb := Heap.lt_size e
          refine mv.heap b o ?_ (Heap.get?_push_of_some _ (Heap.get?_push_of_some _ e))
          rw [sz]; simp only [List.mem_cons, List.not_mem_nil, or_false, not_or]; exact ⟨Nat.ne_of_lt hb, Nat.ne_of_lt (Nat.lt_succ_of_lt hb)⟩
      · cases r₂ with
        | error e => exact hr₂
        | ok fl₂ => cases fl₂ with
          | ret r =>
            obtain ⟨rfl, h', tk, rfl, u', hk'⟩ := hr₂; repeat (any_goals (first | assumption | wp_step))
            exact fin _ _ u' hk'
          | _ => exact hr₂.elim
    | _ => exact hr.elim

/-- the keys of values -/
def tLenSet (K : PySem.W.Frag) (ta : TE) : TE := fun σ H Q => ta σ H fun x H1 => ∃ l, ∃ xs : List Str, x = .ref l ∧ (SqL K H1 l (xs.map V.str) ∨ SqT K H1 l (xs.map V.str)) ∧ xs.length + 1 < scanBound ∧ Q (.int (grown xs).length) H1
theorem strs_get : ∀ {ys : List Str} {us : List Value}, Vals (ys.map V.str) us → ys.length = us.length ∧ ∀ (i : Nat) (v : Value), us.toArray[i]? = some v → ∃ k, ys[i]? = some k ∧ (PySem.strKind prog w).is k v = true ∧ v.scannable = true
  | [], _, .nil => ⟨rfl, fun i v h => by simp at h⟩
  | y :: ys, _, .cons r t => by
    obtain ⟨k, rfl⟩ := r
    obtain ⟨h1, h2⟩ := strs_get t
    refine ⟨by rw [List.length_cons, List.length_cons, h1], fun i v h => ?_⟩
    cases i with
    | zero =>
      simp at h
      subst h
      exact ⟨y, rfl, strKind_is _ _ _ _, rfl⟩
    | succ i =>
      simp only [List.getElem?_toArray, List.getElem?_cons_succ] at h
      exact h2 i v (by simpa using h)
end
theorem pe_lenSet {X : Cx} {a : Expr} {ta : TE} {p p2 q pos : Pos} (hc : X.calm = true) (hg : Gl X "len") (hm : X.mg "len" = none) (hg2 : Gl X "set") (hm2 : X.mg "set" = none) (ha : PE X a ta)
    (na : starEach [a] X.env = (false, eval a X.env) :: starEach [] X.env := by rfl) : PE X (.Call (.Name "len" p) [.Call (.Name "set" p2) [a] [] q] [] pos) (tLenSet X.K ta) := by
  refine ⟨fun pins s σ H Q I h => ?_⟩
  refine Call_ (ld_blt I hg hm boot_len (PyProof.Rows.callWith_builtin1 (PyProof.Rows.args_cons ?_ rfl) rfl rfl))
  refine Call_ (ld_blt I hg2 hm2 boot_set (PyProof.Rows.callWith_type1 (PyProof.Rows.args_cons (thn (ha.run pins s σ H _ I h) fun v s1 ⟨x, H1, I1, r1, q1⟩ => PyProof.Rows.args_nil ?_) na) na rfl))
  obtain ⟨l, xs, rfl, hq, h1, q1⟩ := q1
  cases r1
  have last : ∀ (us : List Value), Vals (xs.map V.str) us → ∀ (h' : Heap) (tk : Nat), Upto (PySem.strKind X.prog X.w) xs s1.heap.objs.size us.toArray.size h' → (∀ b o, s1.heap.get? b = some o → h'.get? b = some o) →
      wpAny (model X.prog X.w) X.A (spliced (backTo pos (starEach [] X.env))) (fun vs s₂ => wpAny (model X.prog X.w) X.A (call (.builtin "len") (Value.ref s1.heap.objs.size :: vs)) (EP X pins σ Q) X.xe s₂) X.xe { s1 with heap := h', toks := tk } := fun us r h' tk u hk => by
    refine PyProof.Rows.args_nil ?_
    have e : us.toArray.size = xs.length := by rw [List.size_toArray, ← r.length, List.length_map]
    unfold Upto at u
    rw [e, List.take_length] at u
    obtain ⟨o, es, ep, t, ho, hex, hd, _, _, _, hf, hn⟩ := u
    have I2 : Inv X pins σ H1 { s1 with heap := h', toks := tk } := I1.kept hk
    have hle := grown_le xs
    have hb : xs.length < 1000000000 := by unfold scanBound at h1; omega
    exact call_len_set ho hex hd hf (by rw [hn]; unfold scanBound at h1; omega) ⟨.int (grown xs).length, H1, I2.tok _, ⟨_, by rw [hn]⟩, q1⟩
  rcases hq with hq | hq
  · obtain ⟨us, r, pl, hz⟩ := I1.list hq
    obtain ⟨e1, e2⟩ := strs_get (prog := X.prog) (w := X.w) r
    exact set_lst (I1.ok.hd hc) pl.isList (by rw [e1, List.size_toArray]) (by rw [List.size_toArray, ← e1]; exact h1) e2 fun h' tk u hk => last us r h' tk u hk
  · obtain ⟨us, r, pl, hz⟩ := I1.tuple hq
    obtain ⟨e1, e2⟩ := strs_get (prog := X.prog) (w := X.w) r
    exact set_tup (I1.ok.hd hc) pl (by rw [e1, List.size_toArray]) (by rw [List.size_toArray, ← e1]; exact h1) e2 fun h' tk u hk => last us r h' tk u hk
end Rf

/-! Rf, part Q: enumerate over a tuple; tuple(zip(..)). -/
namespace Rf
open PySem PySem.Spec L2 PyProof.Rows
/-- the record of an enumerate over the iterator that stands at i -/
abbrev enumO (i : Addr) : Obj := { cls := .type "enumerate", data := .fields #[.none, .bool false, .ref i, rawInt 0, .none, .none] }
set_option maxHeartbeats 8000000 in
theorem enum_new {v : Value} {o : Obj} {H : Heap → Prop} (B : Begins v o H) : Meets (Builtin.«enumerate.__new__» ⟨[.type "enumerate", v], []⟩) (fun _ R s => H s.heap ∧ R (.ok (.ret (.ref (s.heap.push o).objs.size))) { s with heap := (s.heap.push o).push (enumO s.heap.objs.size) }) :=
  .of_wp fun prog w A R s h => by
    obtain ⟨hp, g, d, tk, os⟩ := s; obtain ⟨h1, h⟩ := h; have hsub := sub_enumerate
    have q1 : ∀ {A' : Around} {E : Value → Shared → Prop} {Q : Value → Shared → Prop}, Q (.ref hp.objs.size) ⟨hp.push o, g, d, tk, os⟩ → wpAny (model prog w) A' (pyIter v) Q E ⟨hp, g, d, tk, os⟩ := fun q => B.iter prog w _ _ ⟨hp, g, d, tk, os⟩ _ h1 q
    wp_walk using q1
    refine wpAny_stack_any fun st => wpAny_pure ?_
    split
    · rename_i c _ _ _ _ _; cases (c == Value.type "enumerate") <;> (wp_walk using q1; exact ⟨_, rfl, h⟩)
    · wp_walk using q1; exact ⟨_, rfl, h⟩
section
variable {prog : Program} {w : World} {A : Around} {E : Value → Shared → Prop} {s : Shared}
theorem enum_call {v : Value} {o : Obj} {H : Heap → Prop} {Q : Value → Shared → Prop} (B : Begins v o H) (h1 : H s.heap)
    (h : ∀ h', IsEnum h' (s.heap.objs.size + 1) s.heap.objs.size 0 .none → h'.get? s.heap.objs.size = some o → (∀ b o, s.heap.get? b = some o → h'.get? b = some o) → Q (.ref (s.heap.objs.size + 1)) { s with heap := h' }) : wpAny (model prog w) A (call (.type "enumerate") [v]) Q E s := by
  have sz : (s.heap.push o).objs.size = s.heap.objs.size + 1 := Heap.size_push ..
  refine callType_new F.called_enumerate (by decide) (F.typeCall_enumerate_1 _) (F.newCall_enumerate_1 _) (fun obj => F.args_object_init_2 obj _) F.entry_enumerate_new (enum_new B) ⟨h1, ?_⟩
  show _ ∧ _; rw [sz]
  have he : IsEnum ((s.heap.push o).push (enumO s.heap.objs.size)) (s.heap.objs.size + 1) s.heap.objs.size 0 .none := by
    have q := Heap.get?_push_size (s.heap.push o) (o := enumO s.heap.objs.size) rfl; rw [sz] at q; exact q
  exact ⟨⟨_, he, rfl⟩, h _ he (Heap.get?_push_of_some _ (Heap.get?_push_size _ B.free)) fun b o x => Heap.get?_push_of_some _ (Heap.get?_push_of_some _ x)⟩
end
/-- the tuple at a as it stands at each turn, each item in a new pair with its place -/
def IteT (K : PySem.W.Frag) (a : Addr) : It :=
  ⟨fun i H => ∃ xs : List V, SqT K H a xs ∧ i < xs.length, fun i H v H' => ∃ T x, v = .ref T ∧ H T = none ∧ H' = upd H T (.tup [.int (i : Nat), x]) ∧ ∀ xs, SqT K H a xs → xs[i]? = some x, fun i H => ∃ xs : List V, SqT K H a xs ∧ xs.length ≤ i⟩
theorem turn_enumT {P : Program} {w : World} {K : PySem.W.Frag} {elts : List Expr} {kk : Nat} {tpos : Pos} (a e it : Addr) (ha : a ≠ it ∧ a ≠ e) :
    Turn P w K (.Tuple elts kk tpos) (IteT K a) [e, it] e (fun i h => (∃ old, IsEnum h e it ((i : Nat) : Int) old) ∧ h.IsTupleIter it a i ∧ e ≠ it) where
  mem := by simp
  obj := fun i h st b hb => by
    obtain ⟨⟨old, he⟩, ⟨o, ho, hc, hd⟩, _⟩ := st
    rcases (show b = e ∨ b = it by simpa using hb) with z | z <;> rw [z]
    · exact ⟨_, he, fun v q => nomatch q⟩
    · exact ⟨o, ho, fun v q => by rw [hd] at q; cases q⟩
  keep := fun i h h' st k => let ⟨⟨old, he⟩, hi, hne⟩ := st; ⟨⟨old, k e (by simp) _ he⟩, hi.at fun o q => k it (by simp) o q, hne⟩
  item := by
    intro X hP hw hK hc i pins s σ H E I hf st hg; subst hP hw hK
    obtain ⟨⟨old, he⟩, hit, hne⟩ := st; obtain ⟨xs, hq, hx⟩ := hg; obtain ⟨us, rv, p, hz⟩ := I.tuple hq
    obtain ⟨u, hu, ru⟩ := rv.get (List.getElem?_eq_getElem hx)
    have hel : e < s.heap.objs.size := Heap.lt_size he; have hil : it < s.heap.objs.size := by obtain ⟨_, q, _⟩ := hit; exact Heap.lt_size q
    have hlen : i < us.toArray.size := by rw [List.size_toArray, ← rv.length]; exact hx
    refine wpAny_pyNext_enum_itemD (Draws.tuple (A := X.A.in1) (I.ok.hd hc) it a ha.1 us.toArray) he ⟨hit, p⟩ hlen hne (by simp only [List.mem_cons, List.not_mem_nil, or_false, not_or]; exact ⟨hne, fun z => ha.2 z.symm⟩) fun x h' tk hx' ho hst' hT hsz hk => ?_
    have ex : x = u := by have z : us.toArray[i]? = some u := by simpa using hu
                          rw [z] at hx'; exact (Option.some.inj hx').symm
    subst ex
    refine ⟨_, rfl, wpAny_letOwnedTupleGo_enum (s := { s with heap := h', toks := tk + 1 }) ho fun h'' he' sb => ?_⟩
    have hT2 : h''.get? s.heap.objs.size = some { cls := .type "tuple", data := .seq #[.int i tk, x] } := (sb.2 _ (Nat.ne_of_gt hel)).trans hT
    have new : ObjOk X.prog X.w (upd H s.heap.objs.size (.tup [.int (i : Nat), xs[i]])) h'' s.heap.objs.size (.tup [.int (i : Nat), xs[i]]) := ⟨by show 2 ≤ sizeLine; decide, [.int i tk, x], .cons ⟨_, rfl⟩ (.cons ru .nil), ⟨_, hT2, rfl, _, rfl⟩⟩
    have I1 : Inv X pins σ (upd H s.heap.objs.size (.tup [.int (i : Nat), xs[i]])) { s with heap := h'', toks := tk + 1 } := I.turnedNew (t' := tk + 1) (ch := [e, it]) (fun b ob hb q => (sb.2 b (fun z => hb (by simp [z]))).trans (hk b ob (fun z => hb (by simp [z])) (fun z => hb (by simp [z])) q)) hf (Nat.le_refl _) new
    refine ⟨.ref s.heap.objs.size, _, I1, rfl, ⟨_, xs[i], rfl, I.hok.fresh (Nat.le_refl _), rfl, fun ys hy => by rw [I.tuple_inj hy hq]; exact List.getElem?_eq_getElem hx⟩, ⟨⟨x, ?_⟩, hst'.1.at fun o q => (sb.2 it (Ne.symm hne)).trans q, hne⟩, fun b hb => ?_⟩
    · rw [show ((i + 1 : Nat) : Int) = (i : Int) + 1 by omega]; exact he'
    · have hb' : b < s.heap.objs.size := by rcases (show b = e ∨ b = it by simpa using hb) with z | z <;> rw [z] <;> assumption
      rw [upd_ne (Nat.ne_of_lt hb')]; exact (hf b hb).1
  done := by
    intro X hP hw hK hc i pins s σ H E I hf st hg; subst hP hw hK
    obtain ⟨⟨old, he⟩, hit, hne⟩ := st; obtain ⟨xs, hq, hx⟩ := hg; obtain ⟨us, rv, p, hz⟩ := I.tuple hq
    obtain ⟨f0, f1, f2, f3, f4, f5⟩ := hf it (by simp)
    by_cases hi : i = us.toArray.size
    · subst hi
      exact wpAny_pyNext_enum_endD (Draws.tuple (A := X.A.in1) (I.ok.hd hc) it a ha.1 us.toArray) he ⟨hit, p⟩ fun h' eb => ⟨rfl, I.turned (t' := s.toks) (fun b o hb q => eb b o hb q) f0 f1 f3 f4 f5⟩
    · have hT : s.TypeIs (.ref e) "enumerate" := ⟨_, he, rfl⟩
      have none' : us.toArray[i]? = none := by have := rv.length; simp; omega
      unfold pyNext
      refine wpAny_bind (wpAny_attempt (wpAny_callSpecial?_slot (name := Str.ofString "__next__") hT F.slot_enumerate_next (wpAny_call_entry F.slot_enumerate_next hT F.entry_enumerate_next ?_ (F.args_enumerate_next_1 _))))
      show wpAny _ _ (field (.ref e) 2 >>= _) _ _ _; refine wpAny_bind (wpAny_field he rfl (x := .ref it) rfl (wpAny_bind (wpAny_nextOf_tuple_end (I.ok.hd hc) hit p none' fun h' x eb hx' => ?_)))
      obtain ⟨o, ho, hcl⟩ := hx'
      exact wpAny_bind (wpAny_isInstance (T := "StopIteration") (b := true) ⟨o, ho, hcl⟩ isSubtype_stop (wpAny_pure ⟨rfl, I.turned (t' := s.toks) (fun b o hb q => eb b o hb q) f0 f1 f3 f4 f5⟩))
  self := fun A i s Q E st h => let ⟨⟨_, he⟩, _⟩ := st; wpAny_pyIter_enum he h
def iEnumT (K : PySem.W.Frag) (ta : TA) : TI := fun σ H R => ta σ H fun vs H1 => ∃ a xs, vs = [.ref a] ∧ SqT K H1 a xs ∧ R (IteT K a) H1
theorem pi_enumT {X : Cx} {e : Expr} {ta : TA} {p pos tpos : Pos} {elts : List Expr} {kk : Nat} (hg : Gl X "enumerate") (hm : X.mg "enumerate" = none) (ha : PA X [e] ta) (hs : starEach [e] X.env = [(false, eval e X.env)] := by rfl) :
    PI X (.Tuple elts kk tpos) (.Call (.Name "enumerate" p) [e] [] pos) (iEnumT X.K ta) := by
  refine ⟨fun pins s σ H R I h => Call_ (ld_blt I hg hm boot_enumerate (PyProof.Rows.callWith_type1 (thn (ha.run pos pins s σ H _ I h) fun us s1 ⟨vs, H1, I1, r1, a, xs, ex, hq, q⟩ => ?_) hs rfl))⟩
  subst ex
  cases r1 with
  | cons r rr =>
    cases rr; cases r; obtain ⟨its, rv, p', hz⟩ := I1.tuple hq; obtain ⟨oa, ha1, _⟩ := id p'; have lt := Heap.lt_size ha1
    refine enum_call (begins_tuple a its.toArray) p' fun h' he hit hk => wpAny_pyIter_enum he ?_
    have I2 : Inv X pins σ H1 { s1 with heap := h' } := I1.kept (t' := s1.toks) hk
    refine ⟨s1.heap.objs.size + 1, [s1.heap.objs.size + 1, s1.heap.objs.size], _, _, H1, rfl, I2, turn_enumT a (s1.heap.objs.size + 1) s1.heap.objs.size ⟨Nat.ne_of_lt lt, Nat.ne_of_lt (Nat.lt_succ_of_lt lt)⟩, ⟨⟨.none, he⟩, ⟨_, hit, rfl, rfl⟩, Nat.succ_ne_self _⟩, fun b hb => ?_, q⟩
    have hle : s1.heap.objs.size ≤ b := by rcases (show b = s1.heap.objs.size + 1 ∨ b = s1.heap.objs.size by simpa using hb) with z | z <;> rw [z]
                                           · exact Nat.le_succ _
                                           · exact Nat.le_refl _
    exact I1.fpOk hle (I1.hok.fresh hle)
theorem walk_enumT {K : PySem.W.Frag} {a : Addr} {xs : List V} : Walk (IteT K a) xs.length (fun H => SqT K H a xs) (YPair (fun i => some (.int (i : Nat))) (fun i => xs[i]?)) := by
  refine ⟨fun i _ hi q => ⟨xs, q, hi⟩, fun _ q => ⟨xs, q, Nat.le_refl _⟩, fun i H v H' _ q y => ?_⟩
  obtain ⟨T, x, h1, h2, h3, h4⟩ := y
  exact ⟨T, .int (i : Nat), x, h1, h2, h3, rfl, h4 xs q⟩
end Rf

/-! Rf, part B: a small language of plain programs, what its programs do with plain data, and how the program's text is read into it. -/
namespace Rf
open PySem PySem.Spec L2

/-- what a def of the text does with plain data: n parameters; a draw def's first parameter is the draw list -/
inductive Fn where
  | pure (n : Nat) (f : List D → Option D)
  | draw (n : Nat) (f : D → List D → Int → Option (D × Int))

inductive Bop where | add | sub | mul | fdiv | mod | pow
inductive Cop where | lt | le | gt | ge | eq | ne | inn | notin
inductive B1 where | int | abs | any | all | sum | str
inductive M1t where | startswith | endswith | find | split
inductive B2 where | max | min

inductive Ty where | int | bool | str | list | tuple | dict

mutual
inductive IE where
  | var (i : Nat)
  | con (d : D)
  | scr (i : Nat)
  | cnt (i : Nat)
  | tup (a : IA)
  | lst (a : IA)
  | bin (o : Bop) (a b : IE)
  | neg (a : IE)
  | not (a : IE)
  | cmp (o : Cop) (a b : IE)
  | chain (o o' : Cop) (a b c : IE)
  | isN (a : IE)
  | notN (a : IE)
  | inS (neg : Bool) (a : IE) (i : Nat)
  | inO (neg : Bool) (a : IE) (i : Nat)
  | and (a b : IE)
  | or (a b : IE)
  | ite (t : IT) (a b : IE)
  | ix (l : IL) (i : IE)
  | sli (l : IL) (lo hi : IO)
  | call (n : Nat) (f : List D → Option D) (a : IA)
  | calld (n : Nat) (f : D → List D → Int → Option (D × Int)) (i : Nat) (a : IA)
  | b1 (b : B1) (a : IE)
  | b2 (b : B2) (a c : IE)
  | len (l : IL)
  | lenS (i : Nat)
  | tupOf (l : IL)
  | lstOf (l : IL)
  | srt (f : List D → Option D) (l : IL)
  | lc (own : List Nat) (tg : IG) (it : II) (t : IT) (e : IE)
  | dc (own : List Nat) (tg : IG) (it : II) (t : IT) (k e : IE)
  | fld (cs : List Str) (e : IE) (f : Str)
  | meth (n : Nat) (m : Str) (tb : List (Str × (List D → Option D))) (e : IE) (a : IA)
  | isi (ts : List Ty) (e : IE)
  | sfl (cs : List Str) (i : Nat) (f : Str)
  | mk (n : Nat) (k : Str) (f : List D → Option (List Str × List D)) (a : IA)
  | dct (ks : List Key) (a : IA)
  | dgt1 (l : IL) (k : IE)
  | lenSet (l : IL)
  | srtP (l : IL)
  | tupZip (a b : IE)
  | isc (cs al : List Str) (e : IE)
  | tm0 (a : IE)
  | rev (l : IL)
  | fst (a : IA)
  | join (a : IE) (l : IL)
  | tm1 (m : M1t) (a b : IE)
  | dgt2 (l : IL) (k x : IE)
  | idx (a b : IE)
  | tpd (ys : List Str)
  | stop
inductive IA where
  | nil
  | cons (e : IE) (r : IA)
  | star (l : IL) (r : IA)
inductive IT where
  | yes
  | val (e : IE)
  | ne (l : IL)
  | and (a b : IT)
  | or (a b : IT)
  | not (a : IT)
inductive IL where
  | own (i : Nat)
  | of (e : IE)
inductive IO where
  | no
  | at (e : IE)
inductive II where
  | seq (e : IE)
  | rng1 (a : IE)
  | rng2 (a b : IE)
  | zip (a b : IE)
  | rng3 (a b k : IE)
  | items (e : IE)
  | enm (e : IE)
inductive IG where
  | nm (i : Nat)
  | tp (l : IGs)
inductive IGs where
  | nil
  | cons (g : IG) (r : IGs)
end
inductive IS where
  | set (i : Nat) (e : IE)
  | setO (i : Nat) (a : IA)
  | setS (i : Nat) (l : IL)
  | unp (g : IG) (e : IE)
  | unpS (i j : Nat) (e : IE)
  | par (i j : Nat) (a b : IE)
  | aug (i : Nat) (sub : Bool) (e : IE)
  | app (i : Nat) (e : IE)
  | seti (i : Nat) (k e : IE)
  | drw (i : Nat)
  | iff (t : IT) (a b : List IS)
  | for (g : IG) (it : II) (b : List IS)
  | whl (t : IT) (b : List IS)
  | ret (e : IE)
  | retO (i : Nat)
  | brk
  | cont
  | pass
  | fldS (i : Nat) (cs : List Str) (f : Str) (e : IE)
  | setD (i : Nat)
  | exp (e : IE)
  | dput2 (i : Nat) (k : Key) (j : Nat) (l : Key) (e : IE)
  | setDd (i : Nat) (ks : List Key) (a : IA)
  | dput (i : Nat) (k e : IE)
  | stop

/-! ### what they do -/
/-- the library's bound on lengths -/
abbrev line : Nat := sizeLine
def D.eqv (x y : D) : Option Bool :=
  match x.pd, y.pd with
  | some a, some b => if SeqAt.shaped a = true ∧ SeqAt.shaped b = true then some (PyData.eqv a b) else none
  | _, _ => none
def binD : Bop → D → D → Option D
  | .add, .int i, .int j => some (.int (i + j))
  | .add, .tup xs, .tup ys => if xs.length + ys.length ≤ line then some (.tup (xs ++ ys)) else none
  | .add, .lst xs, .lst ys => if xs.length + ys.length ≤ line then some (.lst (xs ++ ys)) else none
  | .add, .str x, .str y => if x.length + y.length ≤ line then some (.str (x ++ y)) else none
  | .add, .tpx ys, .tup zs => if ys.length + zs.length ≤ line then some (.tup (ys.map .str ++ zs)) else none
  | .sub, .int i, .int j => some (.int (i - j))
  | .mul, .int i, .int j => if (-(2 ^ 64) < i ∧ i < 2 ^ 64) ∨ (-(2 ^ 64) < j ∧ j < 2 ^ 64) then some (.int (i * j)) else none
  | .fdiv, .int i, .int j => if 0 < j ∧ j < 1073741824 then some (.int (i / j)) else none
  | .mod, .int i, .int j => if 0 < j then some (.int (i % j)) else none
  | .pow, .int i, .int j => if 0 ≤ j ∧ j ≤ 1000000 ∧ i.natAbs < 2 ^ 64 then some (.int (i ^ j.toNat)) else none
  | _, _, _ => none
/-- a dict's key -/
def keyOf : D → Option Key
  | .int i => some (.inl i)
  | .str s => some (.inr s)
  | _ => none
def hasK (ks : List Key) (k : Key) : Bool := ks.any fun q => decide (q = k)
def dval {α : Type} : List Key → List α → Key → Option α
  | q :: ks, x :: ds, k => if q = k then some x else dval ks ds k
  | _, _, _ => none
def dset {α : Type} : List Key → List α → Key → α → List α
  | q :: ks, x :: ds, k, y => (if q = k then y else x) :: dset ks ds k y
  | _, _, _, _ => []
def dputD (ks : List Key) (ds : List D) (k : Key) (d : D) : List Key × List D := if hasK ks k = true then (ks, dset ks ds k d) else (ks ++ [k], ds ++ [d])
/-- x in a row of data of any depth -/
def inDeep (t : Bool) (x : D) (l : List D) : Option Bool := match x.pd, D.pds l with
  | some a, some as => if SeqAt.shaped a = true ∧ SeqAt.shaped (if t then PyData.tuple as else PyData.list as) = true then some (as.any fun z => PyData.eqv z a) else none
  | _, _ => none
/-- the first place of a text -/
def idxS (z : Str) : List Str → Nat → Option Nat
  | [], _ => none
  | y :: ys, i => if y = z then some i else idxS z ys (i + 1)
def cmpD : Cop → D → D → Option Bool
  | .lt, .int i, .int j => some (decide (i < j))
  | .le, .int i, .int j => some (decide (i ≤ j))
  | .gt, .int i, .int j => some (decide (j < i))
  | .ge, .int i, .int j => some (decide (j ≤ i))
  | .eq, x, y => D.eqv x y
  | .ne, x, y => (D.eqv x y).map (!·)
  | .inn, x, .lst l => if x.scal = true ∧ flatV x.v = true ∧ l.all (fun z => z.scal && flatV z.v) = true then some (inV x.v (l.map D.v)) else inDeep false x l
  | .inn, x, .tup l => if x.scal = true ∧ flatV x.v = true ∧ l.all (fun z => z.scal && flatV z.v) = true then some (inV x.v (l.map D.v)) else inDeep true x l
  | .notin, x, .lst l => if x.scal = true ∧ flatV x.v = true ∧ l.all (fun z => z.scal && flatV z.v) = true then some (!inV x.v (l.map D.v)) else (inDeep false x l).map (!·)
  | .notin, x, .tup l => if x.scal = true ∧ flatV x.v = true ∧ l.all (fun z => z.scal && flatV z.v) = true then some (!inV x.v (l.map D.v)) else (inDeep true x l).map (!·)
  | .inn, .int i, .tpx ys => some (inV (.int i) (ys.map V.str))
  | .inn, .str s, .tpx ys => some (inV (.str s) (ys.map V.str))
  | .notin, .int i, .tpx ys => some (!inV (.int i) (ys.map V.str))
  | .notin, .str s, .tpx ys => some (!inV (.str s) (ys.map V.str))
  | .inn, .str x, .str z => if x.cps.size = 1 then some (decide (x.cps.getD 0 0 ∈ z.cps.toList)) else none
  | .notin, .str x, .str z => if x.cps.size = 1 then some (!decide (x.cps.getD 0 0 ∈ z.cps.toList)) else none
  | .inn, x, .dic ks _ => (keyOf x).map (hasK ks)
  | .notin, x, .dic ks _ => (keyOf x).map fun k => !hasK ks k
  | _, _, _ => none
def isNon : D → Bool
  | .non => true
  | _ => false
def D.ints : List D → Option (List Int)
  | [] => some []
  | .int i :: r => (D.ints r).map (i :: ·)
  | _ :: _ => none
def D.strs : List D → Option (List Str)
  | [] => some []
  | .str i :: r => (D.strs r).map (i :: ·)
  | _ :: _ => none
def D.bls : List D → Option (List Bool)
  | [] => some []
  | .bl b :: r => (D.bls r).map (b :: ·)
  | _ :: _ => none
def b1D : B1 → D → Option D
  | .int, .int i => some (.int i)
  | .int, .bl b => some (.int (if b then 1 else 0))
  | .int, .str s => match PySem.intText? s with
    | some n => if s.length ≤ 640 then some (.int n) else none
    | none => none
  | .abs, .int i => some (.int (if i < 0 then -i else i))
  | .any, .lst l => (D.bls l).map fun bs => .bl (bs.any id)
  | .all, .lst l => (D.bls l).map fun bs => .bl (bs.all id)
  | .sum, .lst l => (D.ints l).map fun ns => .int ns.sum
  | .str, .int i => if i.natAbs.log2 < 1920 then some (.str (toString i)) else none
  | _, _ => none
/-- a value as an f-string shows it -/
def fmtD : D → Option Str
  | .str s => if s.length ≤ line then some s else none
  | .int i => if i.natAbs.log2 < 1920 then some (toString i) else none
  | _ => none
def catD : Str → List D → Option Str
  | acc, [] => some acc
  | acc, d :: r => match fmtD d with
    | some y => if (acc ++ y).length ≤ line then catD (acc ++ y) r else none
    | none => none
def joinD (x : Str) (ds : List D) : Option D := match D.strs ds with
  | some ys => if (ys.map (·.length)).sum + ys.length * x.length ≤ 16777216 then some (.str (Txt.join x ys)) else none
  | none => none
def m1D : M1t → Str → Str → Option D
  | .startswith, x, y => some (.bl (Txt.startswith x y))
  | .endswith, x, y => some (.bl (Txt.endswith x y))
  | .find, x, y => some (.int (Txt.find x y))
  | .split, x, y => if (y.length == 0) = false ∧ x.length + 2 ≤ line then some (.lst ((Txt.split x y).map .str)) else none
def b2D : B2 → D → D → Option D
  | .max, .int i, .int j => some (.int (if j > i then j else i))
  | .min, .int i, .int j => some (.int (if j < i then j else i))
  | _, _, _ => none
/-- truth -/
def truD : D → Option Bool
  | .non => some false
  | .bl b => some b
  | .int i => some (i != 0)
  | .str s => if s.length ≤ line then some ((s.length : Int) != 0) else none
  | .tup l => some (!l.isEmpty)
  | .lst l => some (!l.isEmpty)
  | _ => none
def cutD (l : List D) (lo hi : Option Int) : List D := (l.drop (HT.sIx l.length 0 lo)).take (HT.sIx l.length l.length hi - HT.sIx l.length 0 lo)
/-- a key of a sort: a row of ints of a fixed length -/
def keyD : D → Option (List Int)
  | .tup l => D.ints l
  | .int i => some [i]
  | _ => none
/-- the rows of a dict of unlike ints -/
def dedup (ns : List Int) : List Int := PyProof.Rows.firstMet (fun i => ns.getD i 0) ns.length
def wipeS (ρ : List Slot) : List Nat → List Slot
  | [] => ρ
  | v :: vs => (wipeS ρ vs).set v .no
/-- may a new value stand in this slot (what was its own before may not be lost sight of: nothing hangs on it) -/
def putS (ρ : List Slot) (i : Nat) (sl : Slot) : Option (List Slot) := if i < ρ.length then some (ρ.set i sl) else none

/-- the keys of a sort, each by the def f -/
def keysD (f : List D → Option D) : List D → Option (List D)
  | [] => some []
  | d :: r => match f [d], keysD f r with
    | some k, some ks => some (k :: ks)
    | _, _ => none
def pdK (d : D) : PyData := d.pd.getD .none
def isTup1 : PyData → Bool
  | .tuple (_ :: _) => true
  | _ => false
def notTup : PyData → Bool
  | .none => false
  | .tuple _ => false
  | _ => true
/-- keys that can be sorted: alike, all of them tuples with an item or none of them a tuple or None, not deep -/
def srtOk (ks : List PyData) : Bool :=
  ks.all (fun a => ks.all fun b => PySem.W.alike a b) && (ks.all isTup1 || ks.all notTup) && ks.all fun a => decide (a.depth ≤ 60)
/-- the items by their keys; those of one key stay in their order -/
def byKey (ks : List PyData) (l : List D) : List D := (((ks.zip l)).mergeSort (PySem.W.dataLe false (·.1))).map (·.2)
/-- sorted(l, key=f) -/
def srtD (f : List D → Option D) (l : List D) : Option (List D) :=
  match keysD f l with
  | some ks => if l.length ≤ line ∧ ks.all (fun k => k.pd.isSome) = true ∧ srtOk (ks.map pdK) = true then some (byKey (ks.map pdK) l) else none
  | none => none

def strKs : List Key → Option (List Str)
  | [] => some []
  | .inr s :: r => (strKs r).map (s :: ·)
  | .inl _ :: _ => none
/-- sorted(l) -/
def srtPD (l : List D) : Option (List D) := if l.length ≤ line ∧ l.all (fun k => k.pd.isSome) = true ∧ srtOk (l.map pdK) = true then some (l.mergeSort (PySem.W.dataLe false pdK)) else none

/-! ### the slots behind a target -/
mutual
def bindG : IG → D → List Slot → Option (List Slot)
  | .nm i, d, ρ => putS ρ i (.sh d)
  | .tp gs, .tup ds, ρ => bindGs gs ds ρ
  | .tp _, _, _ => none
def bindGs : IGs → List D → List Slot → Option (List Slot)
  | .nil, [], ρ => some ρ
  | .cons g r, d :: ds, ρ => match bindG g d ρ with
    | some ρ1 => bindGs r ds ρ1
    | none => none
  | _, _, _ => none
end

mutual
/-- the slots of a target -/
def gix : IG → List Nat
  | .nm i => [i]
  | .tp gs => gixs gs
def gixs : IGs → List Nat
  | .nil => []
  | .cons g r => gix g ++ gixs r
end

/-- the built-in type of a datum; None has none here -/
def tyD : D → Option (Option Ty)
  | .non => some none
  | .bl _ => some (some .bool)
  | .int _ => some (some .int)
  | .str _ => some (some .str)
  | .tup _ => some (some .tuple)
  | .lst _ => some (some .list)
  | .dic _ _ => some (some .dict)
  | .tpx _ => some (some .tuple)
  | .dio _ _ => none
  | .obj _ _ _ => none
def tyLe : Ty → Ty → Bool
  | .bool, .int => true
  | .int, .int => true
  | .bool, .bool => true
  | .str, .str => true
  | .list, .list => true
  | .tuple, .tuple => true
  | .dict, .dict => true
  | _, _ => false
def isiD (q : Option Ty) (ts : List Ty) : Bool := match q with
  | some t => ts.any fun u => tyLe t u
  | none => false
/-! ### runs -/
/-- a dict's key as a datum -/
def kyD : Key → D
  | .inl i => .int i
  | .inr s => .str s
/-- a text's signs -/
def signs (s : Str) : List D := s.cps.toList.map fun c => .str ⟨#[c]⟩
/-- what is walked besides rows: a text by its signs, a dict by its keys -/
def itOf : D → Option (List D)
  | .str s => some (signs s)
  | .dic ks l => if l.length = ks.length then some (ks.map kyD) else none
  | .tpx ys => some (ys.map .str)
  | _ => none
/-- a range with a step -/
def rngC (lo k : Int) (n : Nat) : List D := (List.range n).map fun (i : Nat) => D.int (lo + (i : Nat) * k)
def seqOf : D → Option (Bool × List D)
  | .lst l => some (true, l)
  | .tup l => some (false, l)
  | _ => none
/-- the turns of a comprehension -/
def lcGo (f : D → Int → Option (Option D × Int)) : List D → Int → Option (List D × Int)
  | [], c => some ([], c)
  | d :: r, c => match f d c with
    | some (o, c1) => match lcGo f r c1 with
      | some (l, c2) => some (match o with
        | some x => (x :: l, c2)
        | none => (l, c2))
      | none => none
    | none => none
/-- the turns of a dict comprehension -/
def dcGo (f : D → Int → Option (Option (Key × D) × Int)) : List D → List Key × List D → Int → Option ((List Key × List D) × Int)
  | [], a, c => some (a, c)
  | d :: r, a, c => match f d c with
    | some (some q, c1) => if a.1.length < line then dcGo f r (dputD a.1 a.2 q.1 q.2) c1 else none
    | some (none, c1) => dcGo f r a c1
    | none => none
def rng (lo : Int) (n : Nat) : List D := (List.range n).map fun (i : Nat) => D.int (lo + (i : Int))
def zipD : List D → List D → List D
  | a :: r, b :: s => .tup [a, b] :: zipD r s
  | _, _ => []

mutual
def IE.run (ρ : List Slot) : IE → Int → Option (D × Int)
  | .var i, c => match ρ[i]? with
    | some (.sh d) => some (d, c)
    | _ => none
  | .con d, c => some (d, c)
  | .scr i, c => match ρ[i]? with
    | some (.dr s) => some (s, c)
    | _ => none
  | .cnt i, c => match ρ[i]? with
    | some (.dr _) => some (.int c, c)
    | _ => none
  | .tup a, c => match a.run ρ c with
    | some (ds, c1) => if ds.length ≤ line then some (.tup ds, c1) else none
    | none => none
  | .lst a, c => match a.run ρ c with
    | some (ds, c1) => if ds.length ≤ line then some (.lst ds, c1) else none
    | none => none
  | .bin o a b, c => match a.run ρ c with
    | some (x, c1) => match b.run ρ c1 with
      | some (y, c2) => (binD o x y).map (·, c2)
      | none => none
    | none => none
  | .neg a, c => match a.run ρ c with
    | some (.int i, c1) => some (.int (-i), c1)
    | _ => none
  | .not a, c => match a.run ρ c with
    | some (.bl b, c1) => some (.bl (!b), c1)
    | some (.tup l, c1) => some (.bl l.isEmpty, c1)
    | _ => none
  | .cmp o a b, c => match a.run ρ c with
    | some (x, c1) => match b.run ρ c1 with
      | some (y, c2) => (cmpD o x y).map fun k => (.bl k, c2)
      | none => none
    | none => none
  | .chain o o' a b d, c => match a.run ρ c with
    | some (x, c1) => match b.run ρ c1 with
      | some (y, c2) => match cmpD o x y with
        | some true => match d.run ρ c2 with
          | some (z, c3) => (cmpD o' y z).map fun k => (.bl k, c3)
          | none => none
        | some false => some (.bl false, c2)
        | none => none
      | none => none
    | none => none
  | .isN a, c => match a.run ρ c with
    | some (x, c1) => some (.bl (isNon x), c1)
    | none => none
  | .notN a, c => match a.run ρ c with
    | some (x, c1) => some (.bl (!isNon x), c1)
    | none => none
  | .inO neg a i, c => match a.run ρ c with
    | some (x, c1) => match ρ[i]? with
      | some (.od ks _) => (keyOf x).map fun k => (.bl (if neg then !hasK ks k else hasK ks k), c1)
      | _ => none
    | none => none
  | .inS neg a i, c => match a.run ρ c with
    | some (.int k, c1) => match ρ[i]? with
      | some (.st ns) => some (.bl (if neg then !decide (k ∈ ns) else decide (k ∈ ns)), c1)
      | _ => none
    | _ => none
  | .and a b, c => match a.run ρ c with
    | some (.bl true, c1) => b.run ρ c1
    | some (.bl false, c1) => some (.bl false, c1)
    | _ => none
  | .or a b, c => match a.run ρ c with
    | some (.bl true, c1) => some (.bl true, c1)
    | some (.bl false, c1) => b.run ρ c1
    | some (.str s, c1) => if s.length ≤ line then (if s.length = 0 then b.run ρ c1 else some (.str s, c1)) else none
    | _ => none
  | .ite t a b, c => match t.run ρ c with
    | some (true, c1) => a.run ρ c1
    | some (false, c1) => b.run ρ c1
    | none => none
  | .ix l i, c => match l.run ρ c with
    | some (_, ds, c1) => match i.run ρ c1 with
      | some (.int k, c2) => (atI ds k).map (·, c2)
      | _ => none
    | none => match l.drun ρ c with
      | some (ks, ds, c1) => match i.run ρ c1 with
        | some (k, c2) => match keyOf k with
          | some k => (dval ks ds k).map (·, c2)
          | none => none
        | none => none
      | none => match l.srun ρ c with
        | some (s, c1) => match i.run ρ c1 with
          | some (.int k, c2) => if s.length ≤ line then (atI s.cps.toList k).map fun ch => (.str ⟨#[ch]⟩, c2) else none
          | _ => none
        | none => none
  | .sli l lo hi, c => match l.run ρ c with
    | some (isL, ds, c1) => match lo.run ρ c1 with
      | some (x, c2) => match hi.run ρ c2 with
        | some (y, c3) => some (if isL then .lst (cutD ds x y) else .tup (cutD ds x y), c3)
        | none => none
      | none => none
    | none => match l.srun ρ c with
      | some (s, c1) => match lo.run ρ c1 with
        | some (x, c2) => match hi.run ρ c2 with
          | some (y, c3) => if s.length ≤ line then some (.str (cutS s x y), c3) else none
          | none => none
        | none => none
      | none => none
  | .fst a, c => match a.run ρ c with
    | some (ds, c1) => (catD Str.empty ds).map fun s => (.str s, c1)
    | none => none
  | .join a l, c => match a.run ρ c with
    | some (.str x, c1) => match l.run ρ c1 with
      | some (_, ds, c2) => (joinD x ds).map (·, c2)
      | none => none
    | _ => none
  | .rev l, c => match l.run ρ c with
    | some (true, ds, c1) => some (.lst ds.reverse, c1)
    | _ => none
  | .tm0 a, c => match a.run ρ c with
    | some (.str x, c1) => some (.bl (Txt.isdigit x), c1)
    | _ => none
  | .tm1 m a b, c => match a.run ρ c with
    | some (.str x, c1) => match b.run ρ c1 with
      | some (.str y, c2) => (m1D m x y).map (·, c2)
      | _ => none
    | _ => none
  | .call n f a, c => match a.run ρ c with
    | some (ds, c1) => if ds.length = n then (f ds).map (·, c1) else none
    | none => none
  | .calld n f i a, c => match ρ[i]? with
    | some (.dr s) => match a.run ρ c with
      | some (ds, c1) => if ds.length = n then f s ds c1 else none
      | none => none
    | _ => none
  | .b1 o a, c => match a.run ρ c with
    | some (x, c1) => (b1D o x).map (·, c1)
    | none => none
  | .b2 o a b, c => match a.run ρ c with
    | some (x, c1) => match b.run ρ c1 with
      | some (y, c2) => (b2D o x y).map (·, c2)
      | none => none
    | none => none
  | .len l, c => match l.run ρ c with
    | some (_, ds, c1) => some (.int ds.length, c1)
    | none => match l.srun ρ c with
      | some (s, c1) => if s.length ≤ line then some (.int s.length, c1) else none
      | none => match l.xrun ρ c with
        | some (ys, c1) => some (.int ys.length, c1)
        | none => none
  | .lenS i, c => match ρ[i]? with
    | some (.st ns) => if ns.length < 100000 then some (.int ns.length, c) else none
    | _ => none
  | .tupOf l, c => match l.run ρ c with
    | some (_, ds, c1) => some (.tup ds, c1)
    | none => match l.xrun ρ c with
      | some (ys, c1) => some (.tpx ys, c1)
      | none => none
  | .lstOf l, c => match l.run ρ c with
    | some (_, ds, c1) => some (.lst ds, c1)
    | none => none
  | .srt f l, c => match l.run ρ c with
    | some (true, ds, c1) => (srtD f ds).map fun r => (.lst r, c1)
    | _ => none
  | .lc own tg it t e, c => match it.run ρ c with
    | some (ds, c1) => match lcGo (fun d c => match bindG tg d (wipeS ρ own) with
        | some ρ1 => match t.run ρ1 c with
          | some (true, c2) => match e.run ρ1 c2 with
            | some (x, c3) => some (some x, c3)
            | none => none
          | some (false, c2) => some (none, c2)
          | none => none
        | none => none) ds c1 with
      | some (l, c2) => if ds.length ≤ line then some (.lst l, c2) else none
      | none => none
    | none => none
  | .dc own tg it t k e, c => match it.run ρ c with
    | some (ds, c1) => (dcGo (fun d c => match bindG tg d (wipeS ρ own) with
        | some ρ1 => match t.run ρ1 c with
          | some (true, c2) => match k.run ρ1 c2 with
            | some (y, c3) => match e.run ρ1 c3 with
              | some (x, c4) => (keyOf y).map fun q => (some (q, x), c4)
              | none => none
            | none => none
          | some (false, c2) => some (none, c2)
          | none => none
        | none => none) ds ([], []) c1).map fun q => (.dic q.1.1 q.1.2, q.2)
    | none => none
  | .fld cs e f, c => match e.run ρ c with
    | some (.obj k fs ds, c1) => if cs.contains k = true then ((fs.zip ds).lookup f).map (·, c1) else none
    | _ => none
  | .meth n m tb e a, c => match e.run ρ c with
    | some (.obj k fs ds, c1) => match a.run ρ c1 with
      | some (es, c2) => if es.length = n ∧ fs.contains m = false then (match tb.lookup k with
        | some f => (f (.obj k fs ds :: es)).map (·, c2)
        | none => none) else none
      | none => none
    | _ => none
  | .isi ts e, c => match e.run ρ c with
    | some (d, c1) => (tyD d).map fun q => (.bl (isiD q ts), c1)
    | none => none
  | .sfl cs i f, c => match ρ[i]? with
    | some (.ob k fs ds) => if cs.contains k = true then ((fs.zip ds).lookup f).map (·, c) else none
    | _ => none
  | .mk n k F a, c => match a.run ρ c with
    | some (ds, c1) => if ds.length = n then (F ds).map fun q => (.obj k q.1 q.2, c1) else none
    | none => none
  | .dct ks a, c => match a.run ρ c with
    | some (ds, c1) => if ds.length = ks.length then some (.dic ks ds, c1) else none
    | none => none
  | .dgt1 l i, c => match l.drun ρ c with
    | some (ks, ds, c1) => match i.run ρ c1 with
      | some (k, c2) => (keyOf k).map fun k => ((dval ks ds k).getD .non, c2)
      | none => none
    | none => none
  | .dgt2 l i x, c => match l.drun ρ c with
    | some (ks, ds, c1) => match i.run ρ c1 with
      | some (k, c2) => match x.run ρ c2 with
        | some (y, c3) => (keyOf k).map fun k => ((dval ks ds k).getD y, c3)
        | none => none
      | none => none
    | none => none
  | .lenSet l, c => match l.run ρ c with
    | some (_, ds, c1) => match D.strs ds with
      | some xs => if xs.length + 1 < scanBound then some (.int (grown xs).length, c1) else none
      | none => none
    | none => match l.xrun ρ c with
      | some (xs, c1) => if xs.length + 1 < scanBound then some (.int (grown xs).length, c1) else none
      | none => none
  | .tupZip a b, c => match a.run ρ c with
    | some (.tup xs, c1) => match b.run ρ c1 with
      | some (.tup ys, c2) => if xs.length ≤ 1 ∨ ys.length ≤ 1 then some (.tup (zipD xs ys), c2) else none
      | _ => none
    | _ => none
  | .srtP l, c => match l.run ρ c with
    | some (true, ds, c1) => (srtPD ds).map fun r => (.lst r, c1)
    | some (false, _, _) => none
    | none => match l.drun ρ c with
      | some (ks, _, c1) => match strKs ks with
        | some ss => if ss.length < 64 then some (.lst ((ks.map kyD).mergeSort (PySem.W.dataLe false pdK)), c1) else none
        | none => none
      | none => none
  | .isc cs al e, c => match e.run ρ c with
    | some (.obj k _ _, c1) => if al.contains k = true then some (.bl (cs.contains k), c1) else none
    | _ => none
  | .idx a b, c => match a.run ρ c with
    | some (.tpx ys, c1) => match b.run ρ c1 with
      | some (.str z, c2) => (idxS z ys 0).map fun j => (.int (j : Nat), c2)
      | _ => none
    | _ => none
  | .tpd ys, c => if ys.length ≤ line then some (.tpx ys, c) else none
  | .stop, _ => none
def IA.run (ρ : List Slot) : IA → Int → Option (List D × Int)
  | .nil, c => some ([], c)
  | .cons e r, c => match e.run ρ c with
    | some (d, c1) => match r.run ρ c1 with
      | some (ds, c2) => some (d :: ds, c2)
      | none => none
    | none => none
  | .star l r, c => match l.run ρ c with
    | some (_, xs, c1) => match r.run ρ c1 with
      | some (ds, c2) => some (xs ++ ds, c2)
      | none => none
    | none => none
def IT.run (ρ : List Slot) : IT → Int → Option (Bool × Int)
  | .yes, c => some (true, c)
  | .val e, c => match e.run ρ c with
    | some (d, c1) => (truD d).map (·, c1)
    | none => none
  | .ne l, c => match l.run ρ c with
    | some (_, ds, c1) => some (!ds.isEmpty, c1)
    | none => none
  | .and a b, c => match a.run ρ c with
    | some (true, c1) => b.run ρ c1
    | some (false, c1) => some (false, c1)
    | none => none
  | .or a b, c => match a.run ρ c with
    | some (true, c1) => some (true, c1)
    | some (false, c1) => b.run ρ c1
    | none => none
  | .not a, c => match a.run ρ c with
    | some (b, c1) => some (!b, c1)
    | none => none
def IL.run (ρ : List Slot) : IL → Int → Option (Bool × List D × Int)
  | .own i, c => match ρ[i]? with
    | some (.ow ds) => some (true, ds, c)
    | _ => none
  | .of e, c => match e.run ρ c with
    | some (d, c1) => (seqOf d).map fun q => (q.1, q.2, c1)
    | none => none
/-- .. as a text -/
def IL.srun (ρ : List Slot) : IL → Int → Option (Str × Int)
  | .own _, _ => none
  | .of e, c => match e.run ρ c with
    | some (.str s, c1) => some (s, c1)
    | _ => none
/-- .. as a tuple of texts -/
def IL.xrun (ρ : List Slot) : IL → Int → Option (List Str × Int)
  | .own _, _ => none
  | .of e, c => match e.run ρ c with
    | some (.tpx ys, c1) => some (ys, c1)
    | _ => none
/-- .. as a dict -/
def IL.drun (ρ : List Slot) : IL → Int → Option (List Key × List D × Int)
  | .own i, c => match ρ[i]? with
    | some (.od ks ds) => some (ks, ds, c)
    | some (.oda _ ks ds) => some (ks, ds, c)
    | _ => none
  | .of e, c => match e.run ρ c with
    | some (.dic ks ds, c1) => some (ks, ds, c1)
    | some (.dio ks ds, c1) => some (ks, ds, c1)
    | _ => none
def IO.run (ρ : List Slot) : IO → Int → Option (Option Int × Int)
  | .no, c => some (none, c)
  | .at e, c => match e.run ρ c with
    | some (.int i, c1) => some (some i, c1)
    | _ => none
/-- what is walked: things that nobody changes -/
def II.run (ρ : List Slot) : II → Int → Option (List D × Int)
  | .seq e, c => match e.run ρ c with
    | some (d, c1) => match seqOf d with
      | some q => some (q.2, c1)
      | none => (itOf d).map (·, c1)
    | none => none
  | .rng3 a b k, c => match a.run ρ c with
    | some (.int i, c1) => match b.run ρ c1 with
      | some (.int j, c2) => match k.run ρ c2 with
        | some (.int s, c3) => if s ≠ 0 ∧ s.natAbs < 1073741824 ∧ Builtin.Range.small i j s = true ∧ 0 ≤ Builtin.Range.rangeSize i j s then some (rngC i s (Builtin.Range.rangeSize i j s).toNat, c3) else none
        | _ => none
      | _ => none
    | _ => none
  | .enm e, c => match e.run ρ c with
    | some (d, c1) => (seqOf d).map fun q => (zipD (rng 0 q.2.length) q.2, c1)
    | none => none
  | .items e, c => match e.run ρ c with
    | some (.dic ks l, c1) => if l.length = ks.length then some (zipD (ks.map kyD) l, c1) else none
    | _ => none
  | .rng1 a, c => match a.run ρ c with
    | some (.int j, c1) => if -(2 ^ 62) ≤ j ∧ j < 2 ^ 62 then some (rng 0 j.toNat, c1) else none
    | _ => none
  | .rng2 a b, c => match a.run ρ c with
    | some (.int i, c1) => match b.run ρ c1 with
      | some (.int j, c2) => if -(2 ^ 62) ≤ i ∧ i < 2 ^ 62 ∧ -(2 ^ 62) ≤ j ∧ j < 2 ^ 62 then some (rng i (j - i).toNat, c2) else none
      | _ => none
    | _ => none
  | .zip a b, c => match a.run ρ c with
    | some (x, c1) => match b.run ρ c1 with
      | some (y, c2) => match seqOf x, seqOf y with
        | some (p, xs), some (q, ys) => if p = q then some (zipD xs ys, c2) else none
        | _, _ => none
      | none => none
    | none => none
end

/-- how statements end -/
inductive Out where
  | nx (ρ : List Slot) (c : Int)
  | rt (d : D) (c : Int)
  | bk (ρ : List Slot) (c : Int)
  | ct (ρ : List Slot) (c : Int)
/-- the turns of a for -/
def forGo (f : D → List Slot → Int → Option Out) : List D → List Slot → Int → Option Out
  | [], ρ, c => some (.nx ρ c)
  | d :: r, ρ, c => match f d ρ c with
    | some (.nx ρ1 c1) => forGo f r ρ1 c1
    | some (.ct ρ1 c1) => forGo f r ρ1 c1
    | some (.bk ρ1 c1) => some (.nx ρ1 c1)
    | some (.rt d c1) => some (.rt d c1)
    | none => none
/-- the turns of a while, as long as the fuel lasts -/
def whlGo (t : List Slot → Int → Option (Bool × Int)) (f : List Slot → Int → Option Out) : Nat → List Slot → Int → Option Out
  | 0, _, _ => none
  | n + 1, ρ, c => match t ρ c with
    | some (true, c1) => match f ρ c1 with
      | some (.nx ρ1 c2) => whlGo t f n ρ1 c2
      | some (.ct ρ1 c2) => whlGo t f n ρ1 c2
      | some (.bk ρ1 c2) => some (.nx ρ1 c2)
      | some (.rt d c2) => some (.rt d c2)
      | none => none
    | some (false, c1) => some (.nx ρ c1)
    | none => none
mutual
def IS.run : IS → List Slot → Int → Option Out
  | .set i e, ρ, c => match e.run ρ c with
    | some (d, c1) => (putS ρ i (.sh d)).map (.nx · c1)
    | none => none
  | .setO i a, ρ, c => match a.run ρ c with
    | some (ds, c1) => if ds.length ≤ line then (putS ρ i (.ow ds)).map (.nx · c1) else none
    | none => none
  | .setS i l, ρ, c => match l.run ρ c with
    | some (isL, ds, c1) => match D.ints ds with
      | some ns => if ns.length < 1000 ∧ (isL = true ∨ ns = []) then (putS ρ i (.st (dedup ns))).map (.nx · c1) else none
      | none => none
    | none => none
  | .unp g e, ρ, c => match e.run ρ c with
    | some (d, c1) => (bindG g d ρ).map (.nx · c1)
    | none => none
  | .unpS i j e, ρ, c => match e.run ρ c with
    | some (.tup (d :: ds), c1) => if ds.length < 16384 then (match putS ρ i (.sh d) with
      | some ρ1 => (putS ρ1 j (.sh (.lst ds))).map (.nx · c1)
      | none => none) else none
    | _ => none
  | .par i j a b, ρ, c => match a.run ρ c with
    | some (x, c1) => match b.run ρ c1 with
      | some (y, c2) => match putS ρ i (.sh x) with
        | some ρ1 => (putS ρ1 j (.sh y)).map (.nx · c2)
        | none => none
      | none => none
    | none => none
  | .aug i sub e, ρ, c => match ρ[i]? with
    | some (.sh (.int a)) => match e.run ρ c with
      | some (.int b, c1) => (putS ρ i (.sh (.int (if sub then a - b else a + b)))).map (.nx · c1)
      | _ => none
    | _ => none
  | .app i e, ρ, c => match ρ[i]? with
    | some (.ow ds) => match e.run ρ c with
      | some (d, c1) => if ds.length < line then (putS ρ i (.ow (ds ++ [d]))).map (.nx · c1) else none
      | none => none
    | _ => none
  | .seti i k e, ρ, c => match ρ[i]? with
    | some (.ow ds) => match e.run ρ c with
      | some (d, c1) => match k.run ρ c1 with
        | some (.int j, c2) => match ixN ds.length j with
          | some m => (putS ρ i (.ow (ds.set m d))).map (.nx · c2)
          | none => none
        | _ => none
      | none => none
    | _ => none
  | .drw i, ρ, c => match ρ[i]? with
    | some (.dr _) => some (.nx ρ (c + 1))
    | _ => none
  | .iff t a b, ρ, c => match t.run ρ c with
    | some (true, c1) => IS.runs a ρ c1
    | some (false, c1) => IS.runs b ρ c1
    | none => none
  | .for g it b, ρ, c => match it.run ρ c with
    | some (ds, c1) => forGo (fun d ρ c => match bindG g d ρ with
        | some ρ1 => IS.runs b ρ1 c
        | none => none) ds ρ c1
    | none => none
  | .whl t b, ρ, c => whlGo (fun ρ c => t.run ρ c) (fun ρ c => IS.runs b ρ c) 1000000 ρ c
  | .ret e, ρ, c => match e.run ρ c with
    | some (d, c1) => some (.rt d c1)
    | none => none
  | .retO i, ρ, c => match ρ[i]? with
    | some (.ow ds) => some (.rt (.lst ds) c)
    | some (.od ks ds) => some (.rt (.dic ks ds) c)
    | _ => none
  | .brk, ρ, c => some (.bk ρ c)
  | .cont, ρ, c => some (.ct ρ c)
  | .pass, ρ, c => some (.nx ρ c)
  | .fldS i cs f e, ρ, c => match e.run ρ c with
    | some (d, c1) => match ρ[i]? with
      | some (.ob k fs ds) => if cs.contains k = true ∧ fs.length < 900 ∧ fs.contains f = false ∧ fs.length = ds.length then (putS ρ i (.ob k (fs ++ [f]) (ds ++ [d]))).map (.nx · c1) else none
      | _ => none
    | none => none
  | .setD i, ρ, c => (putS ρ i (.od [] [])).map (.nx · c)
  | .dput2 i k j l e, ρ, c => match e.run ρ c with
    | some (.tup [x, y], c1) => match ρ[i]? with
      | some (.od ks ds) => if ks.length < line then (match putS ρ i (.od (dputD ks ds k x).1 (dputD ks ds k x).2) with
        | some ρ1 => (match ρ1[j]? with
          | some (.od ks2 ds2) => if ks2.length < line then (putS ρ1 j (.od (dputD ks2 ds2 l y).1 (dputD ks2 ds2 l y).2)).map (.nx · c1) else none
          | _ => none)
        | none => none) else none
      | _ => none
    | _ => none
  | .exp e, ρ, c => match e.run ρ c with
    | some (_, c1) => some (.nx ρ c1)
    | none => none
  | .setDd i ks a, ρ, c => match a.run ρ c with
    | some (ds, c1) => if ds.length = ks.length then (putS ρ i (.od ks ds)).map (.nx · c1) else none
    | none => none
  | .dput i k e, ρ, c => match e.run ρ c with
    | some (d, c1) => match k.run ρ c1 with
      | some (q, c2) => match ρ[i]?, keyOf q with
        | some (.od ks ds), some q => if ks.length < line ∧ ds.length = ks.length then (putS ρ i (.od (dputD ks ds q d).1 (dputD ks ds q d).2)).map (.nx · c2) else none
        | some (.oda w ks ds), some q => if ks.length < line ∧ ds.length = ks.length then (putS ρ i (.oda w (dputD ks ds q d).1 (dputD ks ds q d).2)).map (.nx · c2) else none
        | _, _ => none
      | none => none
    | none => none
  | .stop, _, _ => none
def IS.runs : List IS → List Slot → Int → Option Out
  | [], ρ, c => some (.nx ρ c)
  | s :: r, ρ, c => match s.run ρ c with
    | some (.nx ρ1 c1) => IS.runs r ρ1 c1
    | o => o
end
/-- a def's value: the parameters' data, the other slots empty -/
def callP (m : Nat) (b : List IS) (ds : List D) : Option D :=
  match IS.runs b (ds.map .sh ++ List.replicate (m - ds.length) .no) 0 with
  | some (.rt d _) => some d
  | some (.nx _ _) => some .non
  | _ => none
def callDr (m : Nat) (b : List IS) (scr : D) (ds : List D) (c : Int) : Option (D × Int) :=
  match IS.runs b (.dr scr :: ds.map .sh ++ List.replicate (m - 1 - ds.length) .no) c with
  | some (.rt d c1) => some (d, c1)
  | some (.nx _ c1) => some (.non, c1)
  | _ => none
/-- a new object's attributes, in their order -/
def callI (m : Nat) (b : List IS) (k : Str) (ds : List D) : Option (List Str × List D) :=
  match IS.runs b (.ob k [] [] :: ds.map .sh ++ List.replicate (m - 1 - ds.length) .no) 0 with
  | some (.nx ρ _) => match (ρ[0]? : Option Slot) with
    | some (Slot.ob k' fs es) => if k' = k then some (fs, es) else none
    | _ => none
  | _ => none
end Rf

/-! Rf, part C: how the program's text is read into the small language. -/
namespace Rf
open PySem PySem.Spec L2

/-- what is known of the names of a def: its own by slot, its scope, the module's defs and constants, the built-in names; which of its own names are lists, sets of its own, the draw list -/
structure Gam where
  N : List Str
  sc : Scope
  fn : Str → Option Fn
  cn : Str → Option D
  ow : List Str
  st : List Str
  dr : Option Str
  /-- not within a comprehension -/
  top : Bool
  /-- the classes of which an attribute is read -/
  fl : Str → List Str
  /-- the methods of a name, by class -/
  mt : Str → List (Str × Fn)
  /-- the classes that are made: how many things are given, what attributes they have then -/
  cl : Str → Option (Nat × (List D → Option (List Str × List D)))
  /-- the object that is made here -/
  sf : Option Str
  /-- which of the own things are dicts -/
  od : List Str
  /-- the own classes that isinstance is asked of -/
  kc : List Str

def ixOf : List Str → Str → Option Nat
  | [], _ => none
  | y :: r, x => if y = x then some 0 else (ixOf r x).map (· + 1)
theorem ixOf_ok : ∀ {N : List Str} {x : Str} {i : Nat}, ixOf N x = some i → N[i]? = some x
  | [], _, _, h => by cases h
  | y :: r, x, i, h => by
    unfold ixOf at h
    split at h
    · rename_i e; cases h; subst e; rfl
    · cases e : ixOf r x with
      | none => rw [e] at h; cases h
      | some j => rw [e] at h; cases h; simpa using ixOf_ok e
def visB (sc : Scope) (x : Str) : Bool := sc.names.lookup x == some .local || sc.names.lookup x == some .cell || sc.names.lookup x == some .free
def locB (sc : Scope) (x : Str) : Bool := sc.names.lookup x == some .local || sc.names.lookup x == some .cell
def locG (G : Gam) (x : Str) : Bool := G.sc.names.lookup x == some .local || (G.sc.names.lookup x == some .cell && G.top)
def gloB (sc : Scope) (x : Str) : Bool := sc.names.lookup x == some .globalImplicit
def okN (x : Str) : Bool := !(x == ("__debug__" : Str)) && !(x == ("__classdict__" : Str)) && !(x == ("__name__" : Str))
def bopC : Operator → Option Bop
  | .Add => some .add
  | .Sub => some .sub
  | .Mult => some .mul
  | .FloorDiv => some .fdiv
  | .Mod => some .mod
  | .Pow => some .pow
  | _ => none
def copC : CmpOp → Option Cop
  | .Lt => some .lt
  | .LtE => some .le
  | .Gt => some .gt
  | .GtE => some .ge
  | .Eq => some .eq
  | .NotEq => some .ne
  | .In => some .inn
  | .NotIn => some .notin
  | _ => none
def constC : Const → Option D
  | .none => some .non
  | .bool b => some (.bl b)
  | .int i => some (.int i)
  | .str s => some (.str s)
  | _ => none
/-- an index that is no slice -/
def plainIxB : Expr → Bool
  | .Constant _ _ _ => true
  | .Name _ _ => true
  | .BinOp _ _ _ _ => true
  | .UnaryOp _ _ _ => true
  | .Call _ _ _ _ => true
  | .Subscript _ _ _ => true
  | _ => false
/-- a test that is asked by its value's truth -/
def plainTB : Expr → Bool
  | .Name _ _ => true
  | .Call _ _ _ _ => true
  | .Subscript _ _ _ => true
  | .Constant _ _ _ => true
  | .BinOp _ _ _ _ => true
  | .Attribute _ _ _ => true
  | _ => false
def isStar : Expr → Bool
  | .Starred _ _ => true
  | _ => false
def isSet : Expr → Bool
  | .Set _ _ _ => true
  | _ => false
def isLcB : Expr → Bool
  | .ListComp _ _ _ _ => true
  | .SetComp _ _ _ _ => true
  | .DictComp _ _ _ _ _ => true
  | _ => false

/-! ### the block of a comprehension -/
def ownC (N : List Str) (scope : Scope) : List (Str × Nat) :=
  scope.names.filterMap fun y => if y.2 == .local || y.2 == .cell then (ixOf N y.1).map fun i => (y.1, i) else none
def blkB (N : List Str) (sc scope : Scope) : Bool :=
  scope.kind == .function && scope.names.all (fun y => scope.names.lookup y.1 == some y.2) &&
    scope.names.all (fun y => y.2 != .free || sc.names.lookup y.1 == some .cell || sc.names.lookup y.1 == some .free)

structure CR where
  E : Gam → Expr → Option IE
  T : Gam → Expr → Option IT
  G : Gam → Expr → Option IG
def cL (r : CR) (G : Gam) (e : Expr) : Option IL := match e with
  | .Name x _ => if G.ow.contains x then (match ixOf G.N x with
      | some i => if visB G.sc x && okN x then some (.own i) else none
      | none => none) else (r.E G e).map .of
  | _ => (r.E G e).map .of
def cA (r : CR) (G : Gam) : List Expr → Option IA
  | [] => some .nil
  | e :: es => match e with
    | .Starred l _ => match cL r G l, cA r G es with
      | some a, some b => some (.star a b)
      | _, _ => none
    | _ => match r.E G e, cA r G es with
      | some a, some b => some (.cons a b)
      | _, _ => none
/-- .. without a star -/
def cA0 (r : CR) (G : Gam) (es : List Expr) : Option IA := if es.any isStar then none else cA r G es
def cO (r : CR) (G : Gam) : Option Expr → Option IO
  | none => some .no
  | some e => (r.E G e).map .at
def gn (G : Gam) (x : Str) : Bool := gloB G.sc x && okN x
/-- a built-in's name -/
def fr (G : Gam) (x : Str) : Bool := gn G x && (G.fn x).isNone && (G.cn x).isNone
def isDr (G : Gam) (x : Str) : Option Nat := match G.dr with
  | some y => if y = x then (match ixOf G.N x with
    | some i => if visB G.sc x && okN x then some i else none
    | none => none) else none
  | none => none
/-- an object of which an attribute is asked: no call -/
def plainO : Expr → Bool
  | .Constant _ _ _ => true
  | .Name _ _ => true
  | .Attribute _ _ _ => true
  | .Subscript _ _ _ => true
  | _ => false
def cI (r : CR) (G : Gam) (tg : Expr) (e : Expr) : Option II := match e with
  | .Call (.Name x _) [a] [] _ => if x = "range" ∧ fr G x = true ∧ isStar a = false then (r.E G a).map .rng1
    else if x = "enumerate" ∧ fr G x = true ∧ isStar a = false then (match tg with
      | .Tuple _ _ _ => (r.E G a).map .enm
      | _ => (r.E G e).map .seq)
    else (r.E G e).map .seq
  | .Call (.Name x _) [a, b] [] _ =>
    if x = "range" ∧ fr G x = true ∧ isStar a = false ∧ isStar b = false then (match r.E G a, r.E G b with
      | some p, some q => some (.rng2 p q)
      | _, _ => none)
    else if x = "zip" ∧ fr G x = true ∧ isStar a = false ∧ isStar b = false then (match tg, r.E G a, r.E G b with
      | .Tuple _ _ _, some p, some q => some (.zip p q)
      | _, _, _ => none)
    else (r.E G e).map .seq
  | .Call (.Name x _) [a, b, k] [] _ => if x = "range" ∧ fr G x = true ∧ isStar a = false ∧ isStar b = false ∧ isStar k = false then (match r.E G a, r.E G b, r.E G k with
      | some p, some q, some s => some (.rng3 p q s)
      | _, _, _ => none) else (r.E G e).map .seq
  | .Call (.Attribute e1 m ap) [] [] cp => (match tg with
      | .Tuple _ _ _ => if m = "items" ∧ plainO e1 = true ∧ (ap.endLine == cp.line) = true then (r.E G e1).map .items else (r.E G e).map .seq
      | _ => (r.E G e).map .seq)
  | _ => if isSet e then none else (r.E G e).map .seq
def cBo (r : CR) (G : Gam) (op : BoolOp) : List Expr → Option IE
  | [] => none
  | [a] => r.E G a
  | a :: b => match r.E G a, cBo r G op b with
    | some x, some y => some (match op with
      | .And => .and x y
      | .Or => .or x y)
    | _, _ => none
def cBt (r : CR) (G : Gam) (op : BoolOp) : List Expr → Option IT
  | [] => none
  | [a] => r.T G a
  | a :: b => match r.T G a, cBt r G op b with
    | some x, some y => some (match op with
      | .And => .and x y
      | .Or => .or x y)
    | _, _ => none
def cIfs (r : CR) (G : Gam) : List Expr → Option IT
  | [] => some .yes
  | [c] => r.T G c
  | _ => none
def cGs (r : CR) (G : Gam) : List Expr → Option IGs
  | [] => some .nil
  | e :: es => if isStar e then none else match r.G G e, cGs r G es with
    | some a, some b => some (.cons a b)
    | _, _ => none
def stepG (r : CR) (G : Gam) : Expr → Option IG
  | .Name x _ => match ixOf G.N x with
    | some i => if locG G x then some (.nm i) else none
    | none => none
  | .Tuple es _ _ => (cGs r G es).map .tp
  | _ => none
def isNone : Expr → Bool
  | .Constant .none _ _ => true
  | _ => false
def cCmp (r : CR) (G : Gam) (a : Expr) (op : CmpOp) (b : Expr) : Option IE :=
  match op with
  | .Is => if isNone b then (r.E G a).map .isN else none
  | .IsNot => if isNone b then (r.E G a).map .notN else none
  | _ => if isSet b then none else match b with
    | .Name x _ => if G.st.contains x then (match ixOf G.N x, r.E G a with
        | some i, some p => if visB G.sc x && okN x then (match op with
          | .In => some (.inS false p i)
          | .NotIn => some (.inS true p i)
          | _ => none) else none
        | _, _ => none)
      else if G.od.contains x then (match ixOf G.N x, r.E G a with
        | some i, some p => if visB G.sc x && okN x then (match op with
          | .In => some (.inO false p i)
          | .NotIn => some (.inO true p i)
          | _ => none) else none
        | _, _ => none)
      else (match copC op, r.E G a, r.E G b with
        | some o, some p, some q => some (.cmp o p q)
        | _, _, _ => none)
    | _ => match copC op, r.E G a, r.E G b with
      | some o, some p, some q => some (.cmp o p q)
      | _, _, _ => none
/-- a call of a built-in -/
def cBlt (r : CR) (G : Gam) (x : Str) (es : List Expr) : Option IE :=
  if es.any isStar then none else
  match es with
  | [a] =>
    if x = "len" then (match a with
      | .Name y _ => if G.st.contains y then (match ixOf G.N y with
          | some i => if visB G.sc y && okN y then some (.lenS i) else none
          | none => none) else (cL r G a).map .len
      | _ => (cL r G a).map .len)
    else if x = "tuple" then (cL r G a).map .tupOf
    else if x = "list" then (cL r G a).map .lstOf
    else if x = "int" then (r.E G a).map (.b1 .int)
    else if x = "abs" then (r.E G a).map (.b1 .abs)
    else if x = "any" then (r.E G a).map (.b1 .any)
    else if x = "all" then (r.E G a).map (.b1 .all)
    else if x = "sum" then (r.E G a).map (.b1 .sum)
    else if x = "str" then (r.E G a).map (.b1 .str)
    else none
  | [a, b] =>
    if x = "max" then (match r.E G a, r.E G b with
      | some p, some q => some (.b2 .max p q)
      | _, _ => none)
    else if x = "min" then (match r.E G a, r.E G b with
      | some p, some q => some (.b2 .min p q)
      | _, _ => none)
    else none
  | _ => none
def tyNm (x : Str) : Option Ty :=
  if x = "int" then some .int else if x = "bool" then some .bool else if x = "str" then some .str else if x = "list" then some .list else if x = "tuple" then some .tuple else if x = "dict" then some .dict else none
def tyC (G : Gam) : Expr → Option Ty
  | .Name x _ => if fr G x = true then tyNm x else none
  | _ => none
def tyCs (G : Gam) : List Expr → Option (List Ty)
  | [] => some []
  | e :: es => match tyC G e, tyCs G es with
    | some t, some ts => some (t :: ts)
    | _, _ => none
def cIsi (r : CR) (G : Gam) (a t : Expr) : Option IE :=
  if isStar a = true then none else match t with
  | .Name _ _ => (match r.E G a, tyC G t with
    | some x, some y => some (.isi [y] x)
    | _, _ => none)
  | .Tuple ts _ _ => if 20 < ts.length then none else (match r.E G a, tyCs G ts with
    | some x, some y => some (.isi y x)
    | _, _ => none)
  | _ => none
def pickM (n : Nat) : List (Str × Fn) → List (Str × (List D → Option D))
  | [] => []
  | (c, .pure k F) :: r => if k = n then (c, F) :: pickM n r else pickM n r
  | (_, .draw _ _) :: r => pickM n r
/-- the keys of a display: texts that are written out, each once -/
def keysC : List (Option Expr) → Option (List Key)
  | [] => some []
  | some (.Constant (.str s) _ _) :: r => (keysC r).map (.inr s :: ·)
  | _ :: _ => none
/-- {} -/
def cDct0 (keys : List (Option Expr)) (es : List Expr) : Bool := keys.isEmpty && es.isEmpty
/-- a display of texts -/
def txsOf : List Expr → Option (List Str)
  | [] => some []
  | .Constant (.str s) _ _ :: r => (txsOf r).map (s :: ·)
  | _ :: _ => none
def tupTx : Expr → Option (List Str)
  | .Tuple es _ _ => if es.isEmpty = true then none else txsOf es
  | _ => none
def CR.tx (r : CR) : CR := { r with E := fun G e => match tupTx e with
  | some ys => some (.tpd ys)
  | none => r.E G e }
def cDct (r : CR) (G : Gam) (keys : List (Option Expr)) (es : List Expr) : Option (List Key × IA) :=
  if keys.length = es.length ∧ keys.length ≤ 15 ∧ es.any isStar = false ∧ keys.isEmpty = false then (match keysC keys, cA r.tx G es with
    | some ks, some a => if ks.Nodup then some (ks, a) else none
    | _, _ => none) else none
def cGet (r : CR) (G : Gam) (e : Expr) (es : List Expr) (ap cp : Pos) : Option IE :=
  if plainO e = true ∧ es.any isStar = false ∧ (ap.endLine == cp.line) = true then (match es with
    | [k] => (match cL r G e, r.E G k with
      | some l, some q => some (.dgt1 l q)
      | _, _ => none)
    | [k, x] => (match cL r G e, r.E G k, r.E G x with
      | some l, some q, some y => some (.dgt2 l q y)
      | _, _, _ => none)
    | _ => none) else none
def cMeth (r : CR) (G : Gam) (e : Expr) (m : Str) (es : List Expr) (ap cp : Pos) : Option IE :=
  if plainO e = true ∧ es.any isStar = false ∧ es.length < 29 ∧ (ap.endLine == cp.line) = true then (match r.E G e, cA r G es with
    | some x, some a => some (.meth es.length m (pickM (es.length + 1) (G.mt m)) x a)
    | _, _ => none) else none
def m1C (m : Str) : Option M1t := if m = "startswith" then some .startswith else if m = "endswith" then some .endswith else if m = "find" then some .find else if m = "split" then some .split else none
def isTm (m : Str) : Bool := m == "isdigit" || m == "index" || m == "join" || (m1C m).isSome
/-- the parts of an f-string -/
def cFs (r : CR) (G : Gam) : List Expr → Option IA
  | [] => some .nil
  | .Constant (.str s) _ _ :: es => (cFs r G es).map (.cons (.con (.str s)))
  | .FormattedValue e k none _ :: es => if k = -1 then (match r.E G e, cFs r G es with
    | some x, some a => some (.cons x a)
    | _, _ => none) else none
  | _ :: _ => none
/-- a method of texts -/
def cTm (r : CR) (G : Gam) (e : Expr) (m : Str) (es : List Expr) (ap cp : Pos) : Option IE :=
  if plainO e = true ∧ (ap.endLine == cp.line) = true then (match es with
    | [] => if m = "isdigit" then (r.E G e).map .tm0 else none
    | [b] => if isStar b = true then none else if m = "index" then (match r.E G e, r.E G b with
        | some x, some y => some (.idx x y)
        | _, _ => none)
      else if m = "join" then (match r.E G e, cL r G b with
        | some x, some l => some (.join x l)
        | _, _ => none)
      else (match m1C m, r.E G e, r.E G b with
      | some k, some x, some y => some (.tm1 k x y)
      | _, _, _ => none)
    | _ => none) else none
def namesOf : List Expr → Option (List Str)
  | [] => some []
  | .Name x _ :: es => (namesOf es).map (x :: ·)
  | _ :: _ => none
/-- isinstance of own classes -/
def cIsc (r : CR) (G : Gam) (a t : Expr) : Option IE := match t with
  | .Name x _ => if G.kc.contains x = true ∧ gn G x = true then (r.E G a).map (.isc [x] G.kc) else none
  | .Tuple ts _ _ => (match namesOf ts with
    | some xs => if xs.all (fun x => G.kc.contains x && gn G x) = true ∧ xs.length ≤ 20 then (r.E G a).map (.isc xs G.kc) else none
    | none => none)
  | _ => none
def cNew (r : CR) (G : Gam) (x : Str) (es : List Expr) : Option IE := match es with
  | [a] => if isStar a = true then none
    else if x = "sorted" then (cL r G a).map .srtP
    else if x = "tuple" then (match a with
      | .Call (.Name s _) [b, d] [] _ => if s = "zip" ∧ fr G s = true ∧ isStar b = false ∧ isStar d = false then (match r.E G b, r.E G d with
        | some p, some q => some (.tupZip p q)
        | _, _ => none) else none
      | _ => none)
    else if x = "len" then (match a with
      | .Call (.Name s _) [b] [] _ => if s = "set" ∧ fr G s = true ∧ isStar b = false then (cL r G b).map .lenSet else none
      | _ => none)
    else none
  | [a, t] => if x = "isinstance" ∧ isStar a = false then cIsc r G a t else none
  | _ => none
def cCall (r : CR) (G : Gam) (x : Str) (es : List Expr) : Option IE :=
  if gn G x = true then
    match G.fn x with
    | some (.pure n f) => if es.any isStar || es.isEmpty || es.length != n then none else (cA r G es).map (.call n f)
    | some (.draw n f) => match es with
      | .Name y _ :: rest => if rest.any isStar || rest.length != n then none else (match isDr G y, cA r G rest with
        | some i, some a => some (.calld n f i a)
        | _, _ => none)
      | _ => none
    | none => match G.cn x with
      | some _ => none
      | none => match G.cl x with
        | some (n, F) => if es.any isStar || es.isEmpty || es.length != n then none else (cA r G es).map (.mk n x F)
        | none => match cNew r G x es with
          | some i => some i
          | none => match es with
            | [a, t] => if x = "isinstance" then cIsi r G a t else cBlt r G x es
            | _ => cBlt r G x es
  else none
def cSub (r : CR) (G : Gam) (a i : Expr) : Option IE :=
  match i with
  | .Slice none none (some (.UnaryOp .USub (.Constant (.int 1) _ _) _)) _ => (cL r G a).map .rev
  | .Slice lo hi none _ => match cL r G a, cO r G lo, cO r G hi with
    | some l, some p, some q => some (.sli l p q)
    | _, _, _ => none
  | _ => if plainIxB i then
      (match a with
      | .Name x _ => match isDr G x with
        | some j => (match i with
          | .Constant (.int k) _ _ => if k = 0 then some (.scr j) else if k = 1 then some (.cnt j) else none
          | _ => none)
        | none => (match cL r G a, r.E G i with
          | some l, some p => some (.ix l p)
          | _, _ => none)
      | _ => match cL r G a, r.E G i with
        | some l, some p => some (.ix l p)
        | _, _ => none)
    else none
def cSrt (r : CR) (G : Gam) (x : Str) (a : Expr) (kw : Keyword) : Option IE :=
  match kw.arg, kw.value with
  | some k, .Name f _ => if x = "sorted" ∧ k = "key" ∧ fr G x = true ∧ gn G f = true ∧ isStar a = false then
      (match G.fn f, cL r G a with
      | some (.pure 1 F), some l => some (.srt F l)
      | _, _ => none) else none
  | _, _ => none
def cLc (r : CR) (G : Gam) (elt tg it : Expr) (ifs : List Expr) (scope : Scope) : Option IE :=
  if blkB G.N G.sc scope = true ∧ isSet it = false then
    let G' : Gam := { G with sc := relS scope G.sc, top := false }
    match cI r G tg it, r.G G' tg, cIfs r G' ifs, r.E G' elt with
    | some i, some g, some t, some e => if (gix g).all (fun j => ((ownC G.N scope).map (·.2)).contains j) then some (.lc ((ownC G.N scope).map (·.2)) g i t e) else none
    | _, _, _, _ => none
  else none
/-- the name is the object that is made here -/
def isSf (G : Gam) (x : Str) : Option Nat := match G.sf with
  | some y => if y = x then (match ixOf G.N x with
    | some i => if visB G.sc x && okN x then some i else none
    | none => none) else none
  | none => none
def cDc (r : CR) (G : Gam) (kx elt tg it : Expr) (ifs : List Expr) (scope : Scope) : Option IE :=
  if blkB G.N G.sc scope = true ∧ isSet it = false then
    let G' : Gam := { G with sc := relS scope G.sc, top := false }
    match cI r G tg it, r.G G' tg, cIfs r G' ifs, r.E G' kx, r.E G' elt with
    | some i, some g, some t, some k, some e => if (gix g).all (fun j => ((ownC G.N scope).map (·.2)).contains j) then some (.dc ((ownC G.N scope).map (·.2)) g i t k e) else none
    | _, _, _, _, _ => none
  else none
def isDcB : Expr → Bool
  | .DictComp _ _ _ _ _ => true
  | _ => false
def cAttr (r : CR) (G : Gam) (e : Expr) (f : Str) : Option IE :=
  match e with
  | .Name x _ => (match isSf G x with
    | some i => some (.sfl (G.fl f) i f)
    | none => (r.E G e).map (fun x => .fld (G.fl f) x f))
  | _ => if plainO e = true then (r.E G e).map (fun x => .fld (G.fl f) x f) else none
def stepE (r : CR) (G : Gam) : Expr → Option IE
  | .Name x _ => match ixOf G.N x with
    | some i => if visB G.sc x && okN x then some (.var i) else none
    | none => if gn G x then (G.cn x).map .con else none
  | .Constant k _ _ => (constC k).map .con
  | .Tuple es _ _ => (cA r G es).map .tup
  | .List es _ => (cA r G es).map .lst
  | .Dict keys es _ => if cDct0 keys es = true then some (.dct [] .nil) else (cDct r G keys es).map fun q => .dct q.1 q.2
  | .BinOp a o b _ => match bopC o, r.E G a, r.E G b with
    | some o, some p, some q => some (.bin o p q)
    | _, _, _ => none
  | .UnaryOp .USub a _ => (r.E G a).map .neg
  | .UnaryOp .Not a _ => (r.E G a).map .not
  | .Compare a [o] [b] _ => cCmp r G a o b
  | .Compare a [o, o'] [b, d] _ => if isSet d then none else match copC o, copC o', r.E G a, r.E G b, r.E G d with
    | some p, some q, some x, some y, some z => some (.chain p q x y z)
    | _, _, _, _, _ => none
  | .BoolOp op vs _ => cBo r G op vs
  | .IfExp t a b _ => match r.T G t, r.E G a, r.E G b with
    | some p, some x, some y => some (.ite p x y)
    | _, _, _ => none
  | .Subscript a i _ => cSub r G a i
  | .Call (.Name x _) es [] _ => cCall r G x es
  | .Call (.Attribute e m ap) es [] cp => if m = "get" then cGet r G e es ap cp else if ((G.mt m).isEmpty && isTm m) = true then cTm r G e m es ap cp else cMeth r G e m es ap cp
  | .Attribute e f _ => cAttr r G e f
  | .JoinedStr (a :: b :: es) _ => (cFs r G (a :: b :: es)).map .fst
  | .Call (.Name x _) [a] [kw] _ => cSrt r G x a kw
  | .ListComp elt [⟨tg, it, ifs, 0⟩] scope _ => cLc r G elt tg it ifs scope
  | .DictComp kx elt [⟨tg, it, ifs, 0⟩] scope _ => cDc r G kx elt tg it ifs scope
  | _ => none
def stepT (r : CR) (G : Gam) : Expr → Option IT
  | .BoolOp op vs _ => cBt r G op vs
  | .UnaryOp .Not a _ => (r.T G a).map .not
  | .Compare a [o] [b] _ => (cCmp r G a o b).map .val
  | .Compare a [o, o'] [b, d] _ => if isSet d then none else match copC o, copC o', r.E G a, r.E G b, r.E G d with
    | some p, some q, some x, some y, some z => some (.val (.chain p q x y z))
    | _, _, _, _, _ => none
  | e => if plainTB e then (match e with
    | .Name x _ => if G.ow.contains x then (cL r G e).map .ne else (r.E G e).map .val
    | _ => (r.E G e).map .val) else none
def comp : Nat → CR
  | 0 => ⟨fun _ _ => none, fun _ _ => none, fun _ _ => none⟩
  | n + 1 => ⟨fun G e => some ((stepE (comp n) G e).getD .stop), fun G e => some ((stepT (comp n) G e).getD (.val .stop)), stepG (comp n)⟩

/-! ### statements -/
def cSet (r : CR) (G : Gam) (x : Str) (e : Expr) : Option IS :=
  match ixOf G.N x with
  | none => none
  | some i =>
    if locG G x && !(G.dr == some x) then
      if G.ow.contains x then (match e with
        | .List es _ => (cA r G es).map (.setO i)
        | .Dict [] [] _ => some (.setD i)
        | .Dict keys es _ => (cDct r G keys es).map fun q => .setDd i q.1 q.2
        | _ => none)
      else if G.st.contains x then (match e with
        | .Call (.Name y _) [a] [] _ => if y = "set" ∧ fr G y = true ∧ isStar a = false then (cL r G a).map (.setS i) else none
        | _ => none)
      else if isDcB e = true then none
      else (r.E G e).map (.set i)
    else none
/-- a, b = x, y is stored from the right -/
def parB (G : Gam) (x y : Str) (px py : Pos) (a b : Expr) : Bool :=
  G.sc.kind == .function && G.sc.names.lookup x == some .local && G.sc.names.lookup y == some .local && px.line == py.line && !isStar a && !isStar b && !(x == y) &&
    !(foldedForSure 8 a && foldedForSure 8 b) && !(constantsAlone 8 a && constantsAlone 8 b)
/-- a tuple of names that is not stored from the right -/
def unpB (G : Gam) (es : List Expr) (e : Expr) : Bool :=
  match e with
  | .Tuple vs _ _ => vs.any isStar || !(es.length == vs.length) || es.any (fun t => match t with
      | .Name x _ => !(G.sc.names.lookup x == some .local)
      | _ => true)
  | _ => !isLcB e
/-- a, *b = e -/
def cStar (r : CR) (G : Gam) (es : List Expr) (e : Expr) : Option IS := match es with
  | [.Name x _, .Starred (.Name y _) _] => if locG G x && locG G y && unpB G es e && !isLcB e then (match ixOf G.N x, ixOf G.N y, r.E G e with
    | some i, some j, some p => some (.unpS i j p)
    | _, _, _ => none) else none
  | _ => none
def cUnp (r : CR) (G : Gam) (es : List Expr) (e : Expr) : Option IS :=
  if unpB G es e && !isLcB e then (match cGs r G es, r.E G e with
    | some g, some p => some (.unp (.tp g) p)
    | _, _ => none) else none
def cPut2 (r : CR) (G : Gam) (es : List Expr) (e : Expr) : Option IS :=
  match es with
  | [.Subscript (.Name x _) (.Constant (.str s) _ _) _, .Subscript (.Name y _) (.Constant (.str t) _ _) _] =>
    if unpB G es e && !isLcB e && (visB G.sc x && okN x) && (visB G.sc y && okN y) then (match ixOf G.N x, ixOf G.N y, r.E G e with
      | some i, some j, some p => some (.dput2 i (.inr s) j (.inr t) p)
      | _, _, _ => none) else none
  | _ => none
def isOd (G : Gam) (x : Str) : Bool := G.od.contains x
def cAsg (r : CR) (G : Gam) (tg e : Expr) : Option IS :=
  match tg with
  | .Name x _ => cSet r G x e
  | .Tuple es _ _ => (match es, e with
    | [.Name x px, .Name y py], .Tuple [a, b] _ _ => if parB G x y px py a b then (match ixOf G.N x, ixOf G.N y, r.E G a, r.E G b with
        | some i, some j, some p, some q => if i ≠ j then some (.par i j p q) else none
        | _, _, _, _ => none) else cUnp r G es e
    | _, _ => match cPut2 r G es e with
      | some s => some s
      | none => match cStar r G es e with
        | some s => some s
        | none => cUnp r G es e)
  | .Subscript (.Name x _) k _ => if G.ow.contains x && !isLcB e && plainIxB k then (match ixOf G.N x, r.E G k, r.E G e with
      | some i, some p, some q => if visB G.sc x && okN x then some (if isOd G x then .dput i p q else .seti i p q) else none
      | _, _, _ => none) else none
  | .Attribute (.Name x _) f _ => (match isSf G x, r.E G e with
    | some i, some p => some (.fldS i (G.fl f) f p)
    | _, _ => none)
  | _ => none
def cAug (r : CR) (G : Gam) (tg : Expr) (op : Operator) (e : Expr) : Option IS :=
  match tg with
  | .Name x _ => (match ixOf G.N x, r.E G e with
    | some i, some p => if locG G x then (match op with
      | .Add => some (.aug i false p)
      | .Sub => some (.aug i true p)
      | _ => none) else none
    | _, _ => none)
  | .Subscript (.Name x _) (.Constant (.int k) _ _) _ => (match op, e with
    | .Add, .Constant (.int l) _ _ => if k = 1 ∧ l = 1 then (isDr G x).map .drw else none
    | _, _ => none)
  | _ => none
def cExp (r : CR) (G : Gam) (e : Expr) : Option IS :=
  match e with
  | .Call (.Attribute (.Name x _) m apos) [a] [] cpos => if m = "append" ∧ G.ow.contains x = true ∧ isStar a = false ∧ (apos.endLine == cpos.line) = true then (match ixOf G.N x, r.E G a with
      | some i, some p => if visB G.sc x && okN x then some (.app i p) else none
      | _, _ => none) else none
  | .Call (.Name x q) es kws p => (r.E G (.Call (.Name x q) es kws p)).map .exp
  | _ => none
def cRet (r : CR) (G : Gam) (e : Expr) : Option IS :=
  match e with
  | .Name x _ => if G.ow.contains x then (match ixOf G.N x with
      | some i => if visB G.sc x && okN x then some (.retO i) else none
      | none => none) else (r.E G e).map .ret
  | _ => (r.E G e).map .ret
def cStmt (r : CR) (G : Gam) (rec_ : List Stmt → Option (List IS)) : Stmt → Option IS
  | .Assign [tg] e _ => cAsg r G tg e
  | .AugAssign tg op e _ => cAug r G tg op e
  | .Expr e _ => cExp r G e
  | .If t a b _ => match r.T G t, rec_ a, rec_ b with
    | some p, some x, some y => some (.iff p x y)
    | _, _, _ => none
  | .For tg it b [] _ => if isSet it then none else match cI r G tg it, r.G G tg, rec_ b with
    | some i, some g, some x => some (.for g i x)
    | _, _, _ => none
  | .Return (some e) _ => cRet r G e
  | .While t b [] _ => match r.T G t, rec_ b with
    | some p, some x => some (.whl p x)
    | _, _ => none
  | .Break _ => some .brk
  | .Continue _ => some .cont
  | .Pass _ => some .pass
  | _ => none
def cList (f : Stmt → Option IS) : List Stmt → Option (List IS)
  | [] => some []
  | s :: r => match f s, cList f r with
    | some a, some b => some (a :: b)
    | _, _ => none
def compS (r : CR) (G : Gam) : Nat → List Stmt → Option (List IS)
  | 0 => fun _ => none
  | n + 1 => cList (fun s => some ((cStmt r G (compS r G n) s).getD .stop))
end Rf

/-! Rf, part D: what is read in the text does what the small language says: operators, names, displays. -/
namespace Rf
open PySem PySem.Spec L2

theorem peM {X : Cx} {e : Expr} {t t' : TE} (h : PE X e t) (k : ∀ (σ : L2.St) (H : Hp) (Q : VK), t' σ H Q → t σ H Q) : PE X e t' := ⟨fun pins s σ H Q I q => h.run pins s σ H Q I (k σ H Q q)⟩
theorem ptM {X : Cx} {e : Expr} {t t' : TT} (h : PT X e t) (k : ∀ (σ : L2.St) (H : Hp) (Q : Bool → Hp → Prop), t' σ H Q → t σ H Q) : PT X e t' := ⟨fun pins s σ H Q I q => h.run pins s σ H Q I (k σ H Q q)⟩
theorem pwM {X : Cx} {e : Expr} {t t' : TT} (h : PW X e t) (k : ∀ (σ : L2.St) (H : Hp) (Q : Bool → Hp → Prop), t' σ H Q → t σ H Q) : PW X e t' := ⟨fun wh pins s σ H Q I q => h.run wh pins s σ H Q I (k σ H Q q)⟩
theorem paM {X : Cx} {e : List Expr} {t t' : TA} (h : PA X e t) (k : ∀ (σ : L2.St) (H : Hp) (Q : List V → Hp → Prop), t' σ H Q → t σ H Q) : PA X e t' := ⟨fun pos pins s σ H Q I q => h.run pos pins s σ H Q I (k σ H Q q)⟩
theorem poM {X : Cx} {e : Option Expr} {t t' : TO} (h : PO X e t) (k : ∀ (σ : L2.St) (H : Hp) (Q : Option Int → Hp → Prop), t' σ H Q → t σ H Q) : PO X e t' := by
  cases h with
  | mk run => exact ⟨fun pins s σ H Q I q => run pins s σ H Q I (k σ H Q q)⟩
theorem piM {X : Cx} {tg e : Expr} {t t' : TI} (h : PI X tg e t) (k : ∀ (σ : L2.St) (H : Hp) (R : It → Hp → Prop), t' σ H R → t σ H R) : PI X tg e t' := ⟨fun pins s σ H R I q => h.run pins s σ H R I (k σ H R q)⟩
theorem psM {X : Cx} {st : Stmt} {t t' : TS} (h : PS X st t) (k : ∀ (D : Ends) (σ : L2.St) (H : Hp), t' D σ H → t D σ H) : PS X st t' := ⟨fun pins s σ H D I q => h.run pins s σ H D I (k D σ H q)⟩
theorem pssM {X : Cx} {st : List Stmt} {t t' : TS} (h : PSs X st t) (k : ∀ (D : Ends) (σ : L2.St) (H : Hp), t' D σ H → t D σ H) : PSs X st t' := ⟨fun pins s σ H D I q => h.run pins s σ H D I (k D σ H q)⟩
theorem pgM {X : Cx} {e : Expr} {t t' : TG} (h : PG X e t) (k : ∀ (v : V) (σ : L2.St) (H : Hp) (Q : L2.St → Hp → Prop), t' v σ H Q → t v σ H Q) : PG X e t' := ⟨fun pins s σ H v u Q I r q => h.run pins s σ H v u Q I r (k v σ H Q q)⟩
theorem pgsM {X : Cx} {e : List Expr} {t t' : TGs} (h : PGs X e t) (k : ∀ (v : List V) (σ : L2.St) (H : Hp) (Q : L2.St → Hp → Prop), t' v σ H Q → t v σ H Q) : PGs X e t' := ⟨fun pins s σ H v u Q I r q => h.run pins s σ H v u Q I r (k v σ H Q q)⟩

/-! ### the readings -/
def tE (p : Par) (ρ : List Slot) (c : Int) (d : D) (c1 : Int) : TE := fun σ H Q =>
  ∃ S, Rel p σ H S ρ c ∧ ∀ v H1 S1, Rel p σ H1 S1 ρ c1 → Ext p.g H S H1 S1 → At p.Z S1 v d → Q v H1
def tT (p : Par) (ρ : List Slot) (c : Int) (b : Bool) (c1 : Int) : TT := fun σ H Q =>
  ∃ S, Rel p σ H S ρ c ∧ ∀ H1 S1, Rel p σ H1 S1 ρ c1 → Ext p.g H S H1 S1 → Q b H1
def tA (p : Par) (ρ : List Slot) (c : Int) (ds : List D) (c1 : Int) : TA := fun σ H Q =>
  ∃ S, Rel p σ H S ρ c ∧ ∀ vs H1 S1, Rel p σ H1 S1 ρ c1 → Ext p.g H S H1 S1 → Ats p.Z S1 vs ds → Q vs H1
def SqB (K : PySem.W.Frag) (isL : Bool) (H S : Hp) (a : Addr) (vs : List V) : Prop := if isL = true then SqL K H a vs else SqT K S a vs
def tL (p : Par) (ρ : List Slot) (c : Int) (isL : Bool) (ds : List D) (c1 : Int) : TE := fun σ H Q =>
  ∃ S, Rel p σ H S ρ c ∧ ∀ a vs H1 S1, Rel p σ H1 S1 ρ c1 → Ext p.g H S H1 S1 → (∀ H2 S2, Ext p.g H1 S1 H2 S2 → SqB p.Z.K isL H2 S2 a vs) → Ats p.Z S1 vs ds → Q (.ref a) H1
def tO (p : Par) (ρ : List Slot) (c : Int) (o : Option Int) (c1 : Int) : TO := fun σ H Q =>
  ∃ S, Rel p σ H S ρ c ∧ ∀ H1 S1, Rel p σ H1 S1 ρ c1 → Ext p.g H S H1 S1 → Q o H1

/-- a two-place operation by data -/
def RV (p : Par) (r : R2) (x y d : D) : Prop := ∀ (v u : V) (H S : Hp) (Q : VK), Sub S H → At p.Z S v x → At p.Z S u y →
  (∀ z H1 S1, Ext none H S H1 S1 → At p.Z S1 z d → Q z H1) → r v u H Q

section
variable {X : Cx} {p : Par} {ρ : List Slot} {c c1 c2 c3 : Int} {x y z d : D} {a b e : Expr} {pos : Pos} {r : R2}
theorem strs_ats0 {Z : KC} {S : Hp} : ∀ (ys : List Str), Ats Z S (ys.map V.str) (ys.map D.str)
  | [] => .nil
  | y :: ys => .cons (.str y) (strs_ats0 ys)
theorem At.bl_inv {Z : KC} {S : Hp} {v : V} {k : Bool} (h : At Z S v (.bl k)) : v = .bl k := h.scal rfl
theorem At.int_inv {Z : KC} {S : Hp} {v : V} {k : Int} (h : At Z S v (.int k)) : v = .int k := h.scal rfl
theorem At.tup_inv {Z : KC} {S : Hp} {v : V} {l : List D} (h : At Z S v (.tup l)) : ∃ a vs, v = .ref a ∧ SqT Z.K S a vs ∧ Ats Z S vs l := by
  cases h with
  | tup h r => exact ⟨_, _, rfl, h, r⟩
theorem At.lst_inv {Z : KC} {S : Hp} {v : V} {l : List D} (h : At Z S v (.lst l)) : ∃ a vs, v = .ref a ∧ SqL Z.K S a vs ∧ Ats Z S vs l := by
  cases h with
  | lst h r => exact ⟨_, _, rfl, h, r⟩

theorem e_bin2 {ta tb : TE} (hr : RV p r x y d) : ∀ (σ : L2.St) (H : Hp) (Q : VK), tE p ρ c d c2 σ H Q → tOp r (tE p ρ c x c1) (tE p ρ c1 y c2) σ H Q := fun σ H Q ⟨S, R, k⟩ =>
  ⟨S, R, fun v H1 S1 R1 x1 a1 => ⟨S1, R1, fun u H2 S2 R2 x2 a2 => hr v u H2 S2 Q R2.sub (a1.sub x2.ss) a2 fun z H3 S3 x3 a3 => k z H3 S3 (R2.step0 x3) ((x1.trans x2).trans x3.none_any) a3⟩⟩
theorem e_op {op : Operator} (ho : OpR X (binaryOp op) r) (hr : RV p r x y d) (ha : PE X a (tE p ρ c x c1)) (hb : PE X b (tE p ρ c1 y c2)) : PE X (.BinOp a op b pos) (tE p ρ c d c2) :=
  peM (pe_op ho ha hb) (e_bin2 (ta := tE p ρ c x c1) (tb := tE p ρ c1 y c2) hr)
theorem e_cmp {op : CmpOp} (ho : OpR X (compareOp op) r) (hm : behindInMarks op b = false) (hr : RV p r x y d) (ha : PE X a (tE p ρ c x c1)) (hb : PE X b (tE p ρ c1 y c2)) : PE X (.Compare a [op] [b] pos) (tE p ρ c d c2) :=
  peM (pe_cmpR ho ha hb hm) (e_bin2 (ta := tE p ρ c x c1) (tb := tE p ρ c1 y c2) hr)
theorem t_test {te : TE} {k : Bool} (h : ∀ (σ : L2.St) (H : Hp) (Q : VK), tE p ρ c (.bl k) c1 σ H Q → te σ H Q) : ∀ (σ : L2.St) (H : Hp) (Q : Bool → Hp → Prop), tT p ρ c k c1 σ H Q → tTest te σ H Q := fun σ H Q ⟨S, R, q⟩ =>
  h σ H _ ⟨S, R, fun v H1 S1 R1 x1 a1 => ⟨k, a1.bl_inv, q H1 S1 R1 x1⟩⟩
theorem t_cmp {op : CmpOp} {k : Bool} (ho : OpR X (compareOp op) r) (hm : behindInMarks op b = false) (hr : RV p r x y (.bl k)) (ha : PE X a (tE p ρ c x c1)) (hb : PE X b (tE p ρ c1 y c2)) : PT X (.Compare a [op] [b] pos) (tT p ρ c k c2) :=
  ptM (pt_cmpR ho ha hb hm) (t_test (e_bin2 (ta := tE p ρ c x c1) (tb := tE p ρ c1 y c2) hr))

/-- an answer without a new object -/
theorem RV.pure {v0 : V} (h : ∀ (v u : V) (H S : Hp) (Q : VK), Sub S H → At p.Z S v x → At p.Z S u y → Q v0 H → r v u H Q) (hd : d.scal = true) (hv : v0 = d.v) : RV p r x y d := fun v u H S Q s a1 a2 k =>
  h v u H S Q s a1 a2 (k v0 H S (Ext.refl s) (hv ▸ At.of_scal hd))
theorem rv_I0 {g : Int → Int → V} {i j : Int} (hd : d.scal = true) (hv : g i j = d.v) : RV p (rI0 g) (.int i) (.int j) d :=
  RV.pure (fun v u H S Q _ a1 a2 q => ⟨i, j, a1.int_inv, a2.int_inv, q⟩) hd hv
theorem rv_I {C : Int → Int → Prop} {g : Int → Int → V} {i j : Int} (hc : C i j) (hd : d.scal = true) (hv : g i j = d.v) : RV p (rI C g) (.int i) (.int j) d :=
  RV.pure (fun v u H S Q _ a1 a2 q => ⟨i, j, a1.int_inv, a2.int_inv, hc, q⟩) hd hv
end

/-- what a proof about a def's text knows of where it runs -/
def blts : List Str := ["len", "tuple", "list", "int", "abs", "any", "all", "sum", "max", "min", "sorted", "set", "range", "zip", "isinstance", "bool", "str", "dict", "enumerate"]
def spF (Z : KC) (f : Fn) : Sp := fun vs H Q _ =>
  match f with
  | .pure n F => ∃ (S : Hp) (ds : List D) (d : D), vs.length = n ∧ Sub S H ∧ Ats Z S vs ds ∧ F ds = some d ∧ ∀ v H1 S1, Ext none H S H1 S1 → At Z S1 v d → Q v H1
  | .draw n F => ∃ (g sc : Addr) (S : Hp) (c : Int) (scr : D) (vs1 : List V) (ds : List D) (d : D) (c1 : Int), vs = .ref g :: vs1 ∧ vs1.length = n ∧ H g = some (.lst [.ref sc, .int c]) ∧ S g = none ∧ Sub S H ∧ At Z S (.ref sc) scr ∧ Ats Z S vs1 ds ∧ F scr ds c = some (d, c1) ∧
      ∀ v H1 S1, Ext (some g) H S H1 S1 → H1 g = some (.lst [.ref sc, .int c1]) → At Z S1 v d → Q v H1
def FnH (X : Cx) (Z : KC) (x : Str) (f : Fn) : Prop := ∃ a fd ps k, X.mg x = some (.ref a) ∧ PySem.W.keepIn X.K (.ref a) = true ∧ Binds X.K fd ps [] ∧ FnOk X.prog X.w X.K X.mg X.base CX0 k a fd ps (spF Z f) ∧ Room (k + 1) X.A
/-- what a class's __init__ promises: the attributes of the new object -/
def spI (Z : KC) (k : Str) (n : Nat) (F : List D → Option (List Str × List D)) : Sp := fun vs H Q _ =>
  ∃ (x dx : Addr) (S : Hp) (vs1 : List V) (ds es : List D) (fs : List Str), vs = .ref x :: vs1 ∧ vs1.length = n ∧ H x = some (.ins (Z.cl k) dx []) ∧ S x = none ∧ Sub S H ∧ Ats Z S vs1 ds ∧ F ds = some (fs, es) ∧
    ∀ H1 S1 ws dx', Ext (some x) H S H1 S1 → H1 x = some (.ins (Z.cl k) dx' (fs.zip ws)) → ws.length = fs.length → Ats Z S1 ws es → Q .non H1
structure Cok (X : Cx) (p : Par) (G : Gam) : Prop where
  K : X.K = p.Z.K
  N : X.N = G.N
  nd : X.N.Nodup
  calm : X.calm = true
  sc : X.env.scope = G.sc
  cell : G.top = true → ∀ x, G.sc.names.lookup x = some .cell → X.fn x = true
  fn : ∀ x f, G.fn x = some f → FnH X p.Z x f
  cn : ∀ x d, G.cn x = some d → ∃ v u, X.mg x = some u ∧ RelV v u ∧ ∀ S, At p.Z S v d
  bl : ∀ x ∈ blts, G.fn x = none → G.cn x = none → X.mg x = none
  fl : ∀ f c, c ∈ G.fl f → Cls X.K (p.Z.cl c) ∧ NoAttr X.K (p.Z.cl c) f
  mt : ∀ m c n F, (c, Fn.pure n F) ∈ G.mt m → ∃ a fd ps k, Cls X.K (p.Z.cl c) ∧ Meth X.K (p.Z.cl c) m a ∧ Binds X.K fd ps [] ∧ FnOk X.prog X.w X.K X.mg X.base CX0 k a fd ps (spF p.Z (.pure n F)) ∧ Room (k + 1) X.A
  cl : ∀ k n F, G.cl k = some (n, F) → ∃ f fd ps lv, X.mg k = some (.ref (p.Z.cl k)) ∧ Mk X.K (p.Z.cl k) f ∧ Binds X.K fd ps [] ∧ FnOk X.prog X.w X.K X.mg X.base CX0 lv f fd ps (spI p.Z k n F) ∧ Room (lv + 1) X.A
  kc : ∀ k ∈ G.kc, X.mg k = some (.ref (p.Z.cl k)) ∧ C8.InsC X.K (p.Z.cl k) ∧ ∀ k' ∈ G.kc, PySem.W.kitOne X.K (.ref (p.Z.cl k')) (.ref (p.Z.cl k)) = some (decide (k' = k))
  room : Room 2 X.A
  pass : PassesOwn (model X.prog X.w) X.A X.env X.xe

section
variable {X : Cx} {p : Par} {G : Gam} {ρ : List Slot} {c c1 c2 c3 : Int} {x y z d : D} {a b e : Expr} {pos : Pos} {r : R2}
theorem Cok.units (C : Cok X p G) : X.A.units + 64 < cLine := C.room.units
theorem Cok.units0 (C : Cok X p G) : X.A.units < cLine := C.room.units0
theorem Cok.units65 (C : Cok X p G) : X.A.units + 65 < cLine := by have := C.room.un; omega

theorem bin_add_int {i j : Int} (hb : binD .add (.int i) (.int j) = some d) : ∃ r, OpR X (binaryOp .Add) r ∧ RV p r (.int i) (.int j) d := by
  cases hb
  exact ⟨_, op_add, rv_I0 rfl rfl⟩
theorem bin_add_tup (C : Cok X p G) {xs ys : List D} (hb : binD .add (.tup xs) (.tup ys) = some d) : ∃ r, OpR X (binaryOp .Add) r ∧ RV p r (.tup xs) (.tup ys) d := by
  have hb' : (if xs.length + ys.length ≤ line then some (D.tup (xs ++ ys)) else none) = some d := hb
  split at hb' <;> cases hb'
  rename_i hl
  refine ⟨_, op_catA, ?_⟩
  intro v u H S Q s a1 a2 k
  obtain ⟨a, vs, rfl, h1, r1⟩ := a1.tup_inv
  obtain ⟨b, us, rfl, h2, r2⟩ := a2.tup_inv
  have e1 := r1.len
  have e2 := r2.len
  rw [C.K]
  refine ⟨a, b, vs, us, rfl, rfl, sub_t s h1, sub_t s h2, by rw [e1, e2]; exact hl, fun q => ?_, fun q q' => ?_, fun q q' w hw => ?_⟩
  · subst q
    have e : xs = [] := List.length_eq_zero_iff.mp e1.symm
    subst e
    exact k _ H S (Ext.refl s) (.tup h2 r2)
  · subst q'
    have e : ys = [] := List.length_eq_zero_iff.mp e2.symm
    subst e
    rw [List.append_nil] at k
    exact k _ H S (Ext.refl s) (.tup h1 r1)
  · have x := Ext.new (g := none) s (o := .tup (vs ++ us)) hw
    exact k _ _ _ x (.tup (SqT.of upd_same) ((r1.sub x.ss).append (r2.sub x.ss)))
theorem bin_add_str {i j : Str} (hb : binD .add (.str i) (.str j) = some d) : ∃ r, OpR X (binaryOp .Add) r ∧ RV p r (.str i) (.str j) d := by
  have hb' : (if i.length + j.length ≤ line then some (D.str (i ++ j)) else none) = some d := hb
  split at hb' <;> cases hb'
  rename_i hl
  exact ⟨_, op_add_str, RV.pure (v0 := .str (i ++ j)) (fun v u H S Q _ a1 a2 q => ⟨i, j, a1.scal rfl, a2.scal rfl, hl, q⟩) rfl rfl⟩
/-! ### list + list -/
def rCatL (K : PySem.W.Frag) : R2 := fun x y H Q => ∃ l b xs zs, x = .ref l ∧ y = .ref b ∧ SqL K H l xs ∧ SqL K H b zs ∧ xs.length + zs.length ≤ sizeLine ∧ ∀ p, H p = none → Q (.ref p) (upd H p (.lst (xs ++ zs)))
theorem op_catL {X : Cx} : OpR X (binaryOp .Add) (rCatL X.K) := by
  intro pins s σ H x y v u Q I rx ry ⟨l, b, xs, zs, e1, e2, hH, hB, hz, q⟩
  subst e1; subst e2; cases rx; cases ry
  obtain ⟨its, r, p1, _⟩ := I.list hH; obtain ⟨its2, r2, p2, _⟩ := I.list hB
  obtain ⟨⟨cls, dd, data, sl⟩, ho, hc, n, hd⟩ := p1.isList; obtain ⟨⟨cls2, dd2, data2, sl2⟩, ho2, hc2, n2, hd2⟩ := p2.isList
  simp only at hc hd hc2 hd2; subst hc hd hc2 hd2
  have e : its.toArray ++ its2.toArray = (its ++ its2).toArray := by simp
  refine concat_meets ⟨_, ho, rfl⟩ ⟨_, ho2, rfl⟩ PySem.noFill_list_add PySem.seq_list_add PySem.F.slot_list_add PySem.F.entry_list_add (PySem.F.args_list_add_2 _ _) (PyProof.Rows.list_addW l b its.toArray its2.toArray n n2 dd dd2 sl sl2 (by rw [List.size_toArray, List.size_toArray, ← r.length, ← r2.length]; exact hz)) ⟨ho, ho2, ?_⟩
  rw [e]; exact ⟨.ref _, _, I.lnew (t' := s.toks) (r.append r2) (by rw [List.length_append]; omega), rfl, q _ I.fresh⟩
theorem bin_add_lst (C : Cok X p G) {xs ys : List D} (hb : binD .add (.lst xs) (.lst ys) = some d) : ∃ r, OpR X (binaryOp .Add) r ∧ RV p r (.lst xs) (.lst ys) d := by
  have hb' : (if xs.length + ys.length ≤ line then some (D.lst (xs ++ ys)) else none) = some d := hb
  split at hb' <;> cases hb'
  rename_i hl
  refine ⟨_, op_catL, ?_⟩
  intro v u H S Q s a1 a2 k
  obtain ⟨a, vs, rfl, h1, r1⟩ := a1.lst_inv
  obtain ⟨b, us, rfl, h2, r2⟩ := a2.lst_inv
  rw [C.K]
  refine ⟨a, b, vs, us, rfl, rfl, sub_l s h1, sub_l s h2, by rw [r1.len, r2.len]; exact hl, fun q hq => ?_⟩
  have x := Ext.new (g := none) s (o := .lst (vs ++ us)) hq
  exact k _ _ _ x (.lst (SqL.of upd_same) ((r1.sub x.ss).append (r2.sub x.ss)))
theorem At.wk {Z : KC} {S : Hp} {v : V} {ys : List Str} (h : At Z S v (.tpx ys)) : At Z S v (.tup (ys.map .str)) := by
  cases h with
  | tpx h e => exact .tup (.inl (.inr ⟨_, h⟩)) (strs_ats0 ys)
theorem bin_add_tpx (C : Cok X p G) {ys : List Str} {zs : List D} (hb : binD .add (.tpx ys) (.tup zs) = some d) : ∃ r, OpR X (binaryOp .Add) r ∧ RV p r (.tpx ys) (.tup zs) d := by
  have hb' : (if ys.length + zs.length ≤ line then some (D.tup (ys.map .str ++ zs)) else none) = some d := hb
  have hb2 : binD .add (.tup (ys.map .str)) (.tup zs) = some d := by
    show (if (ys.map D.str).length + zs.length ≤ line then some (D.tup (ys.map .str ++ zs)) else none) = some d
    rw [List.length_map]
    exact hb'
  obtain ⟨r, h1, h2⟩ := bin_add_tup C hb2
  exact ⟨r, h1, fun v u H S Q s a1 a2 k => h2 v u H S Q s a1.wk a2 k⟩
theorem bin_ok (C : Cok X p G) {op : Operator} {o : Bop} (h : bopC op = some o) (hb : binD o x y = some d) : ∃ r, OpR X (binaryOp op) r ∧ RV p r x y d := by
  cases op <;> cases h
  · cases x <;> first | (cases hb; done) | (cases y <;> first | (cases hb; done) | exact bin_add_int hb | exact bin_add_tup C hb | exact bin_add_str hb | exact bin_add_lst C hb | exact bin_add_tpx C hb)
  · cases x <;> first | (cases hb; done) | (cases y <;> first | (cases hb; done) | (cases hb; exact ⟨_, op_sub, rv_I0 rfl rfl⟩))
  · cases x <;> first | (cases hb; done) | (cases y <;> first | (cases hb; done) | skip)
    rename_i i j
    have hb' : (if (-(2 ^ 64) < i ∧ i < 2 ^ 64) ∨ (-(2 ^ 64) < j ∧ j < 2 ^ 64) then some (D.int (i * j)) else none) = some d := hb
    split at hb' <;> cases hb'
    rename_i hl
    exact ⟨_, op_mul, rv_I hl rfl rfl⟩
  · cases x <;> first | (cases hb; done) | (cases y <;> first | (cases hb; done) | skip)
    rename_i i j
    have hb' : (if 0 < j then some (D.int (i % j)) else none) = some d := hb
    split at hb' <;> cases hb'
    rename_i hl
    exact ⟨_, op_mod, rv_I hl rfl rfl⟩
  · cases x <;> first | (cases hb; done) | (cases y <;> first | (cases hb; done) | skip)
    rename_i i j
    have hb' : (if 0 ≤ j ∧ j ≤ 1000000 ∧ i.natAbs < 2 ^ 64 then some (D.int (i ^ j.toNat)) else none) = some d := hb
    split at hb' <;> cases hb'
    rename_i hl
    exact ⟨_, op_pow, rv_I hl rfl rfl⟩
  · cases x <;> first | (cases hb; done) | (cases y <;> first | (cases hb; done) | skip)
    rename_i i j
    have hb' : (if 0 < j ∧ j < 1073741824 then some (D.int (i / j)) else none) = some d := hb
    split at hb' <;> cases hb'
    rename_i hl
    exact ⟨_, op_fdiv, rv_I hl rfl rfl⟩

theorem eqv_ok (C : Cok X p G) {k : Bool} (h : D.eqv x y = some k) : RV p (rEqD X.K) x y (.bl k) ∧ RV p (rNeD X.K) x y (.bl (!k)) := by
  unfold D.eqv at h
  cases e1 : x.pd with
  | none => rw [e1] at h; cases h
  | some a =>
    cases e2 : y.pd with
    | none => rw [e1, e2] at h; cases h
    | some b =>
      rw [e1, e2] at h
      have h' : (if SeqAt.shaped a = true ∧ SeqAt.shaped b = true then some (PyData.eqv a b) else none) = some k := h
      split at h' <;> cases h'
      rename_i hs
      rw [C.K]
      exact ⟨RV.pure (v0 := .bl (PyData.eqv a b)) (fun v u H S Q s a1 a2 q => ⟨a, b, (a1.sub s).dp e1, (a2.sub s).dp e2, hs.1, hs.2, q⟩) rfl rfl,
        RV.pure (v0 := .bl (!PyData.eqv a b)) (fun v u H S Q s a1 a2 q => ⟨a, b, (a1.sub s).dp e1, (a2.sub s).dp e2, hs.1, hs.2, q⟩) rfl rfl⟩
theorem scal_all {Z : KC} {S : Hp} : ∀ {vs : List V} {l : List D}, Ats Z S vs l → l.all (fun z => z.scal && flatV z.v) = true → vs = l.map D.v ∧ vs.all flatV = true
  | _, _, .nil, _ => ⟨rfl, rfl⟩
  | _, d :: l, .cons h r, q => by
    rw [List.all_cons, Bool.and_eq_true, Bool.and_eq_true] at q
    obtain ⟨e1, e2⟩ := scal_all r q.2
    have e := h.scal q.1.1
    subst e
    exact ⟨by rw [e1, List.map_cons], by rw [List.all_cons, q.1.2, e2]; rfl⟩
theorem in_ok (C : Cok X p G) {neg : Bool} {l : List D} (hy : y = .lst l ∨ y = .tup l) (h : x.scal = true ∧ flatV x.v = true ∧ l.all (fun z => z.scal && flatV z.v) = true) :
    RV p (rIn X.K neg) x y (.bl (if neg then !inV x.v (l.map D.v) else inV x.v (l.map D.v))) := by
  refine RV.pure (v0 := .bl (if neg then !inV x.v (l.map D.v) else inV x.v (l.map D.v))) (fun v u H S Q s a1 a2 q => ?_) rfl rfl
  have ev := a1.scal h.1
  subst ev
  rw [C.K]
  rcases hy with rfl | rfl
  · obtain ⟨a, vs, rfl, h1, r1⟩ := a2.lst_inv
    obtain ⟨e1, e2⟩ := scal_all r1 h.2.2
    exact ⟨a, vs, rfl, .inl (sub_l s h1), h.2.1, e2, by rw [e1]; exact q⟩
  · obtain ⟨a, vs, rfl, h1, r1⟩ := a2.tup_inv
    obtain ⟨e1, e2⟩ := scal_all r1 h.2.2
    exact ⟨a, vs, rfl, .inr (sub_t s h1), h.2.1, e2, by rw [e1]; exact q⟩
/-! ### in a row of data of any depth -/
def rDeep (K : PySem.W.Frag) (neg t : Bool) : R2 := fun x y H Q => ∃ d ds, Dp K H x d ∧ Dp K H y (if t then .tuple ds else .list ds) ∧ SeqAt.shaped d = true ∧ SeqAt.shaped (if t then PyData.tuple ds else PyData.list ds) = true ∧ Q (.bl (if neg then !(ds.any fun z => PyData.eqv z d) else ds.any fun z => PyData.eqv z d)) H
theorem op_deep (hu : X.A.units + 65 < cLine) (t : Bool) : OpR X (compareOp .In) (rDeep X.K false t) ∧ OpR X (compareOp .NotIn) (rDeep X.K true t) := by
  constructor
  · intro pins s σ H x y v u Q I rx ry ⟨d, ds, hd, he, sd, se, q⟩
    obtain ⟨as, r1⟩ := Dp.reads I d x v hd rx
    obtain ⟨bs, r2⟩ := Dp.reads I _ y u he ry
    cases t with
    | true => exact SeqAt.in_tuple_reads r2 r1 (SeqAt.canLay_of_shaped se) (SeqAt.canLay_of_shaped sd) (PyProof.Rows.room_in_shaped sd hu) ⟨.bl _, H, I, rfl, q⟩
    | false => exact SeqAt.in_list_reads r2 r1 (SeqAt.canLay_of_shaped se) (SeqAt.canLay_of_shaped sd) (PyProof.Rows.room_in_shaped sd hu) ⟨.bl _, H, I, rfl, q⟩
  · intro pins s σ H x y v u Q I rx ry ⟨d, ds, hd, he, sd, se, q⟩
    obtain ⟨as, r1⟩ := Dp.reads I d x v hd rx
    obtain ⟨bs, r2⟩ := Dp.reads I _ y u he ry
    cases t with
    | true => exact SeqAt.notIn_tuple_reads r2 r1 (SeqAt.canLay_of_shaped se) (SeqAt.canLay_of_shaped sd) (PyProof.Rows.room_in_shaped sd hu) ⟨.bl _, H, I, rfl, q⟩
    | false => exact SeqAt.notIn_list_reads r2 r1 (SeqAt.canLay_of_shaped se) (SeqAt.canLay_of_shaped sd) (PyProof.Rows.room_in_shaped sd hu) ⟨.bl _, H, I, rfl, q⟩
theorem deep_ok (C : Cok X p G) {t k : Bool} {l : List D} (h : inDeep t x l = some k) (neg : Bool) : RV p (rDeep X.K neg t) x (if t then .tup l else .lst l) (.bl (if neg then !k else k)) := by
  unfold inDeep at h
  cases e1 : x.pd with
  | none => rw [e1] at h; cases h
  | some a =>
    cases e2 : D.pds l with
    | none => rw [e1, e2] at h; cases h
    | some as =>
      rw [e1, e2] at h
      have h' : (if SeqAt.shaped a = true ∧ SeqAt.shaped (if t then PyData.tuple as else PyData.list as) = true then some (as.any fun z => PyData.eqv z a) else none) = some k := h
      by_cases hs : SeqAt.shaped a = true ∧ SeqAt.shaped (if t then PyData.tuple as else PyData.list as) = true
      case neg => rw [if_neg hs] at h'; cases h'
      rw [if_pos hs] at h'
      cases h'
      rw [C.K]
      refine RV.pure (v0 := .bl (if neg then !(as.any fun z => PyData.eqv z a) else as.any fun z => PyData.eqv z a)) (fun v u H S Q s a1 a2 q => ⟨a, as, (a1.sub s).dp e1, ?_, hs.1, hs.2, q⟩) rfl rfl
      cases t with
      | true =>
        have e3 : (D.tup l).pd = some (.tuple as) := by unfold D.pd; rw [e2]; rfl
        exact (a2.sub s).dp e3
      | false =>
        have e3 : (D.lst l).pd = some (.list as) := by unfold D.pd; rw [e2]; rfl
        exact (a2.sub s).dp e3
/-! ### dicts -/
theorem at_key {Z : KC} {S : Hp} {v : V} {x : D} {q : Key} (h : At Z S v x) (e : keyOf x = some q) : v = kV q := by
  cases h <;> cases e <;> rfl
theorem valV_dval {k : Key} : ∀ {ks : List Key} {vs : List V}, valV (ks.zip vs) k = dval ks vs k
  | [], _ => rfl
  | q :: ks, [] => rfl
  | q :: ks, v :: vs => by
    rw [List.zip_cons_cons]
    unfold dval
    by_cases e : q = k
    · rw [valV_pos (p := (q, v)) e, if_pos e]
    · rw [valV_neg (p := (q, v)) e, if_neg e]
      exact valV_dval
theorem dval_at {Z : KC} {S : Hp} {k : Key} {d : D} : ∀ {ks : List Key} {vs : List V} {ds : List D}, Ats Z S vs ds → dval ks ds k = some d → ∃ v, dval ks vs k = some v ∧ At Z S v d
  | [], _, _, _, h => by cases h
  | q :: ks, _, _, .nil, h => by cases h
  | q :: ks, v :: vs, x :: ds, .cons a as, h => by
    unfold dval at h ⊢
    by_cases e : q = k
    · rw [if_pos e] at h ⊢
      cases h
      exact ⟨v, rfl, a⟩
    · rw [if_neg e] at h ⊢
      exact dval_at as h
theorem dval_no {Z : KC} {S : Hp} {k : Key} : ∀ {ks : List Key} {vs : List V} {ds : List D}, Ats Z S vs ds → dval ks ds k = none → dval ks vs k = none
  | [], _, _, _, h => rfl
  | q :: ks, _, _, .nil, h => rfl
  | q :: ks, v :: vs, x :: ds, .cons a as, h => by
    unfold dval at h ⊢
    by_cases e : q = k
    · rw [if_pos e] at h
      cases h
    · rw [if_neg e] at h ⊢
      exact dval_no as h
theorem dval_has {α : Type} {k : Key} : ∀ {ks : List Key} {vs : List α}, vs.length = ks.length → (dval ks vs k).isSome = hasK ks k
  | [], _, _ => rfl
  | q :: ks, v :: vs, h => by
    unfold dval
    show _ = (decide (q = k) || hasK ks k)
    by_cases e : q = k
    · rw [if_pos e, decide_eq_true e]; rfl
    · rw [if_neg e, decide_eq_false e, Bool.false_or]
      exact dval_has (by simpa using h)
def rDin (neg : Bool) : R2 := fun x y H Q => ∃ a o, y = .ref a ∧ DGet H a x o ∧ Q (.bl (if neg then !o.isSome else o.isSome)) H
theorem op_din (C : Cok X p G) : OpR X (compareOp .In) (rDin false) := by
  intro pins s σ H x y v u Q I rx ry h
  obtain ⟨a, o, rfl, g, q⟩ := h
  cases ry
  exact d_in (by have := C.room.un; omega) I g rx fun s3 I3 => ⟨.bl o.isSome, H, I3, rfl, q⟩
theorem op_dnin (C : Cok X p G) : OpR X (compareOp .NotIn) (rDin true) := by
  intro pins s σ H x y v u Q I rx ry h
  obtain ⟨a, o, rfl, g, q⟩ := h
  cases ry
  exact d_notIn (by have := C.room.un; omega) I g rx fun s3 I3 => ⟨.bl (!o.isSome), H, I3, rfl, q⟩
theorem din_ok {q : Key} {ks : List Key} {l : List D} (e : keyOf x = some q) : RV p (rDin false) x (.dic ks l) (.bl (hasK ks q)) := by
  intro v u H S Q s a1 a2 k
  cases a2 with
  | dic h1 h2 h3 =>
    refine ⟨_, _, rfl, .inl ⟨_, q, sub_rd s h1.rd, at_key a1 e, rfl⟩, ?_⟩
    rw [valV_dval, dval_has h2]
    exact k _ H S (Ext.refl s) (.bl _)
theorem dnin_ok {q : Key} {ks : List Key} {l : List D} (e : keyOf x = some q) : RV p (rDin true) x (.dic ks l) (.bl (!hasK ks q)) := by
  intro v u H S Q s a1 a2 k
  cases a2 with
  | dic h1 h2 h3 =>
    refine ⟨_, _, rfl, .inl ⟨_, q, sub_rd s h1.rd, at_key a1 e, rfl⟩, ?_⟩
    rw [valV_dval, dval_has h2]
    exact k _ H S (Ext.refl s) (.bl _)
theorem one_sign {y : Str} (h : y.cps.size = 1) : y = ⟨#[y.cps.getD 0 0]⟩ := by
  obtain ⟨a⟩ := y
  obtain ⟨l⟩ := a
  match l, h with
  | [c], _ => rfl
theorem in_tpx (C : Cok X p G) {ys : List Str} (neg : Bool) (h : x.scal = true ∧ flatV x.v = true) : RV p (rIn X.K neg) x (.tpx ys) (.bl (if neg then !inV x.v (ys.map V.str) else inV x.v (ys.map V.str))) := by
  have hl : (ys.map D.str).all (fun z => z.scal && flatV z.v) = true := by
    rw [List.all_map]
    exact List.all_eq_true.mpr fun _ _ => rfl
  have q := in_ok (p := p) C (neg := neg) (y := .tup (ys.map .str)) (.inr rfl) ⟨h.1, h.2, hl⟩
  have e : (ys.map D.str).map D.v = ys.map V.str := by rw [List.map_map]; rfl
  rw [e] at q
  exact fun v u H S Q s a1 a2 k => q v u H S Q s a1 a2.wk k
theorem cop_ok (C : Cok X p G) {op : CmpOp} {o : Cop} {k : Bool} (h : copC op = some o) (hb : cmpD o x y = some k) : ∃ r, OpR X (compareOp op) r ∧ RV p r x y (.bl k) := by
  cases op <;> cases h
  · exact ⟨_, op_eqD C.units, (eqv_ok C (k := k) (by cases x <;> exact hb)).1⟩
  · have hb' : (D.eqv x y).map (!·) = some k := by cases x <;> exact hb
    cases e : D.eqv x y with
    | none => rw [e] at hb'; cases hb'
    | some k' =>
      rw [e] at hb'
      cases hb'
      exact ⟨_, op_neD C.units, (eqv_ok C e).2⟩
  · cases x <;> first | (cases hb; done) | (cases y <;> first | (cases hb; done) | (cases hb; exact ⟨_, op_lt, rv_I0 rfl rfl⟩))
  · cases x <;> first | (cases hb; done) | (cases y <;> first | (cases hb; done) | (cases hb; exact ⟨_, op_le, rv_I0 rfl rfl⟩))
  · cases x <;> first | (cases hb; done) | (cases y <;> first | (cases hb; done) | (cases hb; exact ⟨_, op_gt, rv_I0 rfl rfl⟩))
  · cases x <;> first | (cases hb; done) | (cases y <;> first | (cases hb; done) | (cases hb; exact ⟨_, op_ge, rv_I0 rfl rfl⟩))
  · cases y with
    | lst l =>
      have hb' : (if x.scal = true ∧ flatV x.v = true ∧ l.all (fun z => z.scal && flatV z.v) = true then some (inV x.v (l.map D.v)) else inDeep false x l) = some k := by cases x <;> exact hb
      split at hb'
      · cases hb'
        rename_i hl
        exact ⟨_, op_in_seq, in_ok C (neg := false) (.inl rfl) hl⟩
      · exact ⟨_, (op_deep C.units65 false).1, deep_ok C (t := false) hb' false⟩
    | tup l =>
      have hb' : (if x.scal = true ∧ flatV x.v = true ∧ l.all (fun z => z.scal && flatV z.v) = true then some (inV x.v (l.map D.v)) else inDeep true x l) = some k := by cases x <;> exact hb
      split at hb'
      · cases hb'
        rename_i hl
        exact ⟨_, op_in_seq, in_ok C (neg := false) (.inr rfl) hl⟩
      · exact ⟨_, (op_deep C.units65 true).1, deep_ok C (t := true) hb' false⟩
    | dic ks l =>
      cases e : keyOf x with
      | none => cases x <;> first | (cases e; done) | cases hb
      | some q =>
        have hb' : (keyOf x).map (hasK ks) = some k := by cases x <;> first | exact hb | cases e
        rw [e] at hb'
        cases hb'
        exact ⟨_, op_din C, din_ok e⟩
    | tpx ys =>
      cases x <;> first | (cases hb; done) | (cases hb; exact ⟨_, op_in_seq, in_tpx C false ⟨rfl, rfl⟩⟩)
    | str z =>
      cases x with
      | str y =>
        have hb' : (if y.cps.size = 1 then some (decide (y.cps.getD 0 0 ∈ z.cps.toList)) else none) = some k := hb
        split at hb' <;> cases hb'
        rename_i h1
        exact ⟨_, op_in_sign, RV.pure (v0 := .bl (decide (y.cps.getD 0 0 ∈ z.cps.toList))) (fun v u H S Q s a1 a2 q => ⟨_, z, by rw [a1.scal rfl, ← one_sign h1]; rfl, a2.scal rfl, q⟩) rfl rfl⟩
      | _ => cases hb
    | _ => cases x <;> cases hb
  · cases y with
    | lst l =>
      have hb' : (if x.scal = true ∧ flatV x.v = true ∧ l.all (fun z => z.scal && flatV z.v) = true then some (!inV x.v (l.map D.v)) else (inDeep false x l).map (!·)) = some k := by cases x <;> exact hb
      split at hb'
      · cases hb'
        rename_i hl
        exact ⟨_, op_notIn_seq, in_ok C (neg := true) (.inl rfl) hl⟩
      · cases e9 : inDeep false x l with
        | none => rw [e9] at hb'; cases hb'
        | some k9 =>
          rw [e9] at hb'
          cases hb'
          exact ⟨_, (op_deep C.units65 false).2, deep_ok C (t := false) e9 true⟩
    | tup l =>
      have hb' : (if x.scal = true ∧ flatV x.v = true ∧ l.all (fun z => z.scal && flatV z.v) = true then some (!inV x.v (l.map D.v)) else (inDeep true x l).map (!·)) = some k := by cases x <;> exact hb
      split at hb'
      · cases hb'
        rename_i hl
        exact ⟨_, op_notIn_seq, in_ok C (neg := true) (.inr rfl) hl⟩
      · cases e9 : inDeep true x l with
        | none => rw [e9] at hb'; cases hb'
        | some k9 =>
          rw [e9] at hb'
          cases hb'
          exact ⟨_, (op_deep C.units65 true).2, deep_ok C (t := true) e9 true⟩
    | dic ks l =>
      cases e : keyOf x with
      | none => cases x <;> first | (cases e; done) | cases hb
      | some q =>
        have hb' : (keyOf x).map (fun k => !hasK ks k) = some k := by cases x <;> first | exact hb | cases e
        rw [e] at hb'
        cases hb'
        exact ⟨_, op_dnin C, dnin_ok e⟩
    | tpx ys =>
      cases x <;> first | (cases hb; done) | (cases hb; exact ⟨_, op_notIn_seq, in_tpx C true ⟨rfl, rfl⟩⟩)
    | str z =>
      cases x with
      | str y =>
        have hb' : (if y.cps.size = 1 then some (!decide (y.cps.getD 0 0 ∈ z.cps.toList)) else none) = some k := hb
        split at hb' <;> cases hb'
        rename_i h1
        exact ⟨_, op_notIn_sign, RV.pure (v0 := .bl (!decide (y.cps.getD 0 0 ∈ z.cps.toList))) (fun v u H S Q s a1 a2 q => ⟨_, z, by rw [a1.scal rfl, ← one_sign h1]; rfl, a2.scal rfl, q⟩) rfl rfl⟩
      | _ => cases hb
    | _ => cases x <;> cases hb
end
end Rf

/-! Rf, part E: names, displays, tests, rows, built-ins. -/
namespace Rf
open PySem PySem.Spec L2

section
variable {X : Cx} {p : Par} {G : Gam} {ρ : List Slot} {c c1 c2 c3 : Int} {x y z d : D} {a b e : Expr} {es : List Expr} {pos : Pos} {r : R2} {nm : Str} {i : Nat} {ds : List D}
theorem vis_ok {sc : Scope} {x : Str} (h : visB sc x = true) : Vis sc x := by
  unfold visB at h
  unfold Vis
  simpa [or_assoc] using h
theorem loc_ok {sc : Scope} {x : Str} (h : locB sc x = true) : L2.Loc sc x := by
  unfold locB at h
  unfold L2.Loc
  simpa using h
theorem okN1 {x : Str} (h : okN x = true) : (x == ("__debug__" : Str)) = false := by
  unfold okN at h
  simp only [Bool.and_eq_true, Bool.not_eq_true'] at h
  exact h.1.1
theorem okN2 {x : Str} (h : okN x = true) : (x == ("__classdict__" : Str)) = false := by
  unfold okN at h
  simp only [Bool.and_eq_true, Bool.not_eq_true'] at h
  exact h.1.2
theorem okN3 {x : Str} (h : okN x = true) : x ≠ ("__name__" : Str) := by
  unfold okN at h
  simp only [Bool.and_eq_true, Bool.not_eq_true'] at h
  exact beq_eq_false_iff_ne.mp h.2
theorem gl_ok (C : Cok X p G) {x : Str} (h : gn G x = true) : Gl X x ∧ okN x = true := by
  unfold gn at h
  rw [Bool.and_eq_true] at h
  refine ⟨?_, h.2⟩
  have h1 := h.1
  unfold gloB at h1
  show X.env.scope.names.lookup x = some .globalImplicit
  rw [C.sc]
  simpa using h1
theorem pe_nm (C : Cok X p G) (hi : ixOf G.N nm = some i) (hv : (visB G.sc nm && okN nm) = true) : PE X (.Name nm pos) (tVar i) := by
  rw [Bool.and_eq_true] at hv
  exact pe_var (by rw [C.N]; exact ixOf_ok hi) (by rw [C.sc]; exact vis_ok hv.1) (okN1 hv.2) (okN2 hv.2)
theorem e_var (C : Cok X p G) (hi : ixOf G.N nm = some i) (hv : (visB G.sc nm && okN nm) = true) (hs : ρ[i]? = some (.sh d)) : PE X (.Name nm pos) (tE p ρ c d c) :=
  peM (pe_nm C hi hv) fun σ H Q ⟨S, R, k⟩ => by
    obtain ⟨v, h1, h2⟩ := R.slot i _ hs
    exact ⟨v, h1, k v H S R (Ext.refl R.sub) h2⟩
theorem e_con {v : V} (h : PE X e (tC v)) (hd : ∀ S, At p.Z S v d) : PE X e (tE p ρ c d c) := peM h fun σ H Q ⟨S, R, k⟩ => k v H S R (Ext.refl R.sub) (hd S)
theorem e_glob (C : Cok X p G) (hg : gn G nm = true) (hc : G.cn nm = some d) : PE X (.Name nm pos) (tE p ρ c d c) := by
  obtain ⟨v, u, h1, h2, h3⟩ := C.cn nm d hc
  obtain ⟨g1, g2⟩ := gl_ok C hg
  exact e_con (pe_glob g1 h1 h2 (okN1 g2)) h3
theorem e_const {k : Const} {j : Nat} (h : constC k = some d) : PE X (.Constant k j pos) (tE p ρ c d c) := by
  cases k <;> cases h
  · exact e_con pe_non fun S => .non
  · exact e_con pe_bl fun S => .bl _
  · exact e_con pe_int fun S => .int _
  · exact e_con pe_str fun S => .str _
theorem a_nil : PA X [] (tA p ρ c [] c) := paM pa_nil fun σ H Q ⟨S, R, k⟩ => k [] H S R (Ext.refl R.sub) .nil
theorem star_cons {e : Expr} {es : List Expr} {env : Env} (h : isStar e = false) : starEach (e :: es) env = (false, eval e env) :: starEach es env := by
  cases e <;> first | rfl | cases h
theorem a_cons (hs : isStar e = false) (ha : PE X e (tE p ρ c d c1)) (hr : PA X es (tA p ρ c1 ds c2)) : PA X (e :: es) (tA p ρ c (d :: ds) c2) :=
  paM (pa_cons ha hr (star_cons hs)) fun σ H Q ⟨S, R, k⟩ => ⟨S, R, fun v H1 S1 R1 x1 a1 => ⟨S1, R1, fun vs H2 S2 R2 x2 a2 => k (v :: vs) H2 S2 R2 (x1.trans x2) (.cons (a1.sub x2.ss) a2)⟩⟩
theorem a_star (C : Cok X p G) {isL : Bool} {xs : List D} {sp : Pos} (ha : PE X e (tL p ρ c isL xs c1)) (hr : PA X es (tA p ρ c1 ds c2)) : PA X (.Starred e sp :: es) (tA p ρ c (xs ++ ds) c2) :=
  paM (StX.pa_star ha hr) fun σ H Q ⟨S, R, k⟩ => ⟨S, R, fun a vs H1 S1 R1 x1 q' a1 => ⟨a, vs, rfl, by
      have q := q' H1 S1 (Ext.refl R1.sub)
      rw [C.K]
      cases isL with
      | true => exact .inr q
      | false => exact .inl (sub_t R1.sub q), ⟨S1, R1, fun ws H2 S2 R2 x2 a2 => k (vs ++ ws) H2 S2 R2 (x1.trans x2) ((a1.sub x2.ss).append a2)⟩⟩⟩
theorem e_tup {k : Nat} (h : PA X es (tA p ρ c ds c1)) (hl : ds.length ≤ line) : PE X (.Tuple es k pos) (tE p ρ c (.tup ds) c1) :=
  peM (pe_tup h) fun σ H Q ⟨S, R, k⟩ => ⟨S, R, fun vs H1 S1 R1 x1 a1 => ⟨by rw [a1.len]; exact hl, fun w hw => by
    have x := Ext.new (g := none) R1.sub (o := .tup vs) hw
    exact k _ _ _ (R1.step0 x) (x1.trans x.none_any) (.tup (SqT.of upd_same) (a1.sub x.ss))⟩⟩
theorem e_lst (h : PA X es (tA p ρ c ds c1)) (hl : ds.length ≤ line) : PE X (.List es pos) (tE p ρ c (.lst ds) c1) :=
  peM (pe_lst h) fun σ H Q ⟨S, R, k⟩ => ⟨S, R, fun vs H1 S1 R1 x1 a1 => ⟨by rw [a1.len]; exact hl, fun w hw => by
    have x := Ext.new (g := none) R1.sub (o := .lst vs) hw
    exact k _ _ _ (R1.step0 x) (x1.trans x.none_any) (.lst (SqL.of upd_same) (a1.sub x.ss))⟩⟩
theorem e_neg {i : Int} (h : PE X a (tE p ρ c (.int i) c1)) : PE X (.UnaryOp .USub a pos) (tE p ρ c (.int (-i)) c1) :=
  peM (pe_un un_neg h) fun σ H Q ⟨S, R, k⟩ => ⟨S, R, fun v H1 S1 R1 x1 a1 => ⟨i, a1.int_inv, k _ H1 S1 R1 x1 (.int _)⟩⟩
theorem e_not {k : Bool} (h : PE X a (tE p ρ c (.bl k) c1)) : PE X (.UnaryOp .Not a pos) (tE p ρ c (.bl (!k)) c1) :=
  peM (pe_not h) fun σ H Q ⟨S, R, q⟩ => ⟨S, R, fun v H1 S1 R1 x1 a1 => ⟨k, a1.bl_inv, q _ H1 S1 R1 x1 (.bl _)⟩⟩
theorem non_iff {Z : KC} {S : Hp} {v : V} (h : At Z S v d) : decide (v = .non) = isNon d := by
  cases h <;> rfl
theorem isNone_ok (h : isNone b = true) : ∃ j q, b = .Constant .none j q := by
  cases b <;> try (cases h; done)
  rename_i k j q
  cases k <;> first | exact ⟨_, _, rfl⟩ | cases h
theorem e_isN (hb : isNone b = true) (h : PE X a (tE p ρ c d c1)) : PE X (.Compare a [.Is] [b] pos) (tE p ρ c (.bl (isNon d)) c1) := by
  obtain ⟨j, q, rfl⟩ := isNone_ok hb
  exact peM (pe_cmp (pc_isN h) rfl) fun σ H Q ⟨S, R, k⟩ => ⟨S, R, fun v H1 S1 R1 x1 a1 => by
    show Q (.bl (decide (v = .non))) H1
    rw [non_iff a1]
    exact k _ H1 S1 R1 x1 (.bl _)⟩
theorem e_notN (hb : isNone b = true) (h : PE X a (tE p ρ c d c1)) : PE X (.Compare a [.IsNot] [b] pos) (tE p ρ c (.bl (!isNon d)) c1) := by
  obtain ⟨j, q, rfl⟩ := isNone_ok hb
  exact peM (pe_cmp (pc_notN h) rfl) fun σ H Q ⟨S, R, k⟩ => ⟨S, R, fun v H1 S1 R1 x1 a1 => by
    show Q (.bl (!decide (v = .non))) H1
    rw [non_iff a1]
    exact k _ H1 S1 R1 x1 (.bl _)⟩
theorem t_isN (hb : isNone b = true) (h : PE X a (tE p ρ c d c1)) : PT X (.Compare a [.Is] [b] pos) (tT p ρ c (isNon d) c1) := by
  obtain ⟨j, q, rfl⟩ := isNone_ok hb
  exact ptM (pt_cmp (pc_isN h) rfl) fun σ H Q ⟨S, R, k⟩ => ⟨S, R, fun v H1 S1 R1 x1 a1 => ⟨_, by rw [non_iff a1], k H1 S1 R1 x1⟩⟩
theorem t_notN (hb : isNone b = true) (h : PE X a (tE p ρ c d c1)) : PT X (.Compare a [.IsNot] [b] pos) (tT p ρ c (!isNon d) c1) := by
  obtain ⟨j, q, rfl⟩ := isNone_ok hb
  exact ptM (pt_cmp (pc_notN h) rfl) fun σ H Q ⟨S, R, k⟩ => ⟨S, R, fun v H1 S1 R1 x1 a1 => ⟨_, by rw [non_iff a1], k H1 S1 R1 x1⟩⟩
/-- and, or as values -/
theorem e_andT (ha : PE X a (tE p ρ c (.bl true) c1)) (hb : PE X (.BoolOp .And (b :: es) pos) (tE p ρ c1 d c2)) : PE X (.BoolOp .And (a :: b :: es) pos) (tE p ρ c d c2) :=
  peM (pe_and ha hb) fun σ H Q ⟨S, R, k⟩ => ⟨S, R, fun v H1 S1 R1 x1 a1 => ⟨true, a1.bl_inv, by
    rw [if_pos rfl]
    exact ⟨S1, R1, fun v H2 S2 R2 x2 a2 => k v H2 S2 R2 (x1.trans x2) a2⟩⟩⟩
theorem e_andF {t : TE} (ha : PE X a (tE p ρ c (.bl false) c1)) : PE X (.BoolOp .And (a :: b :: es) pos) (tE p ρ c (.bl false) c1) := by
  refine ⟨fun pins s σ H Q I h => ?_⟩
  have hb : PE X (.BoolOp .And (b :: es) pos) (fun _ _ _ => False) := ⟨fun _ _ _ _ _ _ z => z.elim⟩
  refine (pe_and ha hb).run pins s σ H Q I ?_
  obtain ⟨S, R, k⟩ := h
  exact ⟨S, R, fun v H1 S1 R1 x1 a1 => ⟨false, a1.bl_inv, by
    rw [if_neg Bool.false_ne_true]
    exact k _ H1 S1 R1 x1 (.bl _)⟩⟩
theorem e_orT (ha : PE X a (tE p ρ c (.bl true) c1)) : PE X (.BoolOp .Or (a :: b :: es) pos) (tE p ρ c (.bl true) c1) := by
  refine ⟨fun pins s σ H Q I h => ?_⟩
  have hb : PE X (.BoolOp .Or (b :: es) pos) (fun _ _ _ => False) := ⟨fun _ _ _ _ _ _ z => z.elim⟩
  refine (pe_or ha hb).run pins s σ H Q I ?_
  obtain ⟨S, R, k⟩ := h
  exact ⟨S, R, fun v H1 S1 R1 x1 a1 => ⟨true, a1.bl_inv, by
    rw [if_pos rfl]
    exact k _ H1 S1 R1 x1 (.bl _)⟩⟩
theorem e_orF (ha : PE X a (tE p ρ c (.bl false) c1)) (hb : PE X (.BoolOp .Or (b :: es) pos) (tE p ρ c1 d c2)) : PE X (.BoolOp .Or (a :: b :: es) pos) (tE p ρ c d c2) :=
  peM (pe_or ha hb) fun σ H Q ⟨S, R, k⟩ => ⟨S, R, fun v H1 S1 R1 x1 a1 => ⟨false, a1.bl_inv, by
    rw [if_neg Bool.false_ne_true]
    exact ⟨S1, R1, fun v H2 S2 R2 x2 a2 => k v H2 S2 R2 (x1.trans x2) a2⟩⟩⟩
theorem e_ifT {t : Expr} (ht : PT X t (tT p ρ c true c1)) (ha : PE X a (tE p ρ c1 d c2)) : PE X (.IfExp t a b pos) (tE p ρ c d c2) := by
  refine ⟨fun pins s σ H Q I h => ?_⟩
  have hb : PE X b (fun _ _ _ => False) := ⟨fun _ _ _ _ _ _ z => z.elim⟩
  refine (pe_ifExp ht ha hb).run pins s σ H Q I ?_
  obtain ⟨S, R, k⟩ := h
  exact ⟨S, R, fun H1 S1 R1 x1 => iteT ⟨S1, R1, fun v H2 S2 R2 x2 a2 => k v H2 S2 R2 (x1.trans x2) a2⟩⟩
theorem e_ifF {t : Expr} (ht : PT X t (tT p ρ c false c1)) (hb : PE X b (tE p ρ c1 d c2)) : PE X (.IfExp t a b pos) (tE p ρ c d c2) := by
  refine ⟨fun pins s σ H Q I h => ?_⟩
  have ha : PE X a (fun _ _ _ => False) := ⟨fun _ _ _ _ _ _ z => z.elim⟩
  refine (pe_ifExp ht ha hb).run pins s σ H Q I ?_
  obtain ⟨S, R, k⟩ := h
  exact ⟨S, R, fun H1 S1 R1 x1 => iteF ⟨S1, R1, fun v H2 S2 R2 x2 a2 => k v H2 S2 R2 (x1.trans x2) a2⟩⟩
/-! ### tests -/
theorem plainT_ok (h : plainTB a = true) (env : Env) : ∀ whole, isTrue a env whole = (do let v ← whole; standAt a.pos; holding [v] (truthy v)) := by
  intro whole
  cases a <;> first | rfl | cases h
theorem tru_ok' {Z : KC} {S H : Hp} {v : V} {k : Bool} (s : Sub S H) (h : At Z S v d) (ht : truD d = some k) : TruV Z.K v H k := by
  cases h with
  | non => cases ht; rfl
  | bl b => cases ht; rfl
  | int i => cases ht; rfl
  | str x =>
    have ht' : (if x.length ≤ line then some ((x.length : Int) != 0) else none) = some k := ht
    split at ht' <;> cases ht'
    rename_i hl
    exact ⟨hl, rfl⟩
  | tup h r =>
    cases ht
    refine .inr (.inl ⟨_, sub_t s h, ?_⟩)
    cases r <;> rfl
  | lst h r =>
    cases ht
    refine .inl ⟨_, sub_l s h, ?_⟩
    cases r <;> rfl
  | obj h1 h2 h3 => cases ht
  | dic h1 h2 h3 => cases ht
  | tpx h1 h2 => cases ht
  | dio h1 h2 h3 => cases ht
theorem e_notTup (C : Cok X p G) {l : List D} (h : PE X a (tE p ρ c (.tup l) c1)) : PE X (.UnaryOp .Not a pos) (tE p ρ c (.bl l.isEmpty) c1) :=
  peM (pe_notT h) fun σ H Q ⟨S, R, q⟩ => ⟨S, R, fun v H1 S1 R1 x1 a1 => ⟨!l.isEmpty, by rw [C.K]; exact tru_ok' R1.sub a1 rfl, by rw [Bool.not_not]; exact q _ H1 S1 R1 x1 (.bl _)⟩⟩
theorem t_val (C : Cok X p G) (hp : plainTB a = true) {k : Bool} (h : PE X a (tE p ρ c d c1)) (ht : truD d = some k) : PT X a (tT p ρ c k c1) :=
  ptM (pt_truth h (plainT_ok hp X.env)) fun σ H Q ⟨S, R, q⟩ => ⟨S, R, fun v H1 S1 R1 x1 a1 => ⟨k, by rw [C.K]; exact tru_ok' R1.sub a1 ht, q H1 S1 R1 x1⟩⟩
theorem t_ne (C : Cok X p G) (hp : plainTB a = true) {isL : Bool} (h : PE X a (tL p ρ c isL ds c1)) : PT X a (tT p ρ c (!ds.isEmpty) c1) :=
  ptM (pt_truth h (plainT_ok hp X.env)) fun σ H Q ⟨S, R, q⟩ => ⟨S, R, fun a vs H1 S1 R1 x1 hq' a1 => ⟨_, by
    have hq := hq' H1 S1 (Ext.refl R1.sub)
    rw [C.K]
    have e : (!ds.isEmpty) = !vs.isEmpty := by cases a1 <;> rfl
    cases isL with
    | true => exact .inl ⟨vs, hq, e⟩
    | false => exact .inr (.inl ⟨vs, sub_t R1.sub hq, e⟩), q H1 S1 R1 x1⟩⟩
theorem e_orS0 (C : Cok X p G) {s : Str} (hz : s.length ≤ line) (h0 : s.length = 0) (ha : PE X a (tE p ρ c (.str s) c1)) (hb : PE X (.BoolOp .Or (b :: es) pos) (tE p ρ c1 d c2)) : PE X (.BoolOp .Or (a :: b :: es) pos) (tE p ρ c d c2) :=
  peM (pe_orT ha hb) fun σ H Q ⟨S, R, k⟩ => ⟨S, R, fun v H1 S1 R1 x1 a1 => ⟨false, by rw [C.K]; exact tru_ok' R1.sub a1 (by show (if s.length ≤ line then some ((s.length : Int) != 0) else none) = _; rw [if_pos hz, h0]; rfl), by
    rw [if_neg Bool.false_ne_true]
    exact ⟨S1, R1, fun v H2 S2 R2 x2 a2 => k v H2 S2 R2 (x1.trans x2) a2⟩⟩⟩
theorem e_orS1 (C : Cok X p G) {s : Str} (hz : s.length ≤ line) (h0 : ¬ s.length = 0) (ha : PE X a (tE p ρ c (.str s) c1)) : PE X (.BoolOp .Or (a :: b :: es) pos) (tE p ρ c (.str s) c1) := by
  have hb : PE X (.BoolOp .Or (b :: es) pos) (fun _ _ _ => False) := ⟨fun _ _ _ _ _ _ z => z.elim⟩
  refine peM (pe_orT ha hb) fun σ H Q ⟨S, R, k⟩ => ⟨S, R, fun v H1 S1 R1 x1 a1 => ⟨true, by
    rw [C.K]
    refine tru_ok' R1.sub a1 ?_
    show (if s.length ≤ line then some ((s.length : Int) != 0) else none) = _
    rw [if_pos hz]
    congr 1
    simp only [bne_iff_ne, ne_eq]
    omega, by
    rw [if_pos rfl]
    exact k _ H1 S1 R1 x1 a1⟩⟩
theorem t_not {k : Bool} (h : PT X a (tT p ρ c k c1)) : PT X (.UnaryOp .Not a pos) (tT p ρ c (!k) c1) :=
  ptM (pt_not h) fun σ H Q ⟨S, R, q⟩ => ⟨S, R, fun H1 S1 R1 x1 => q H1 S1 R1 x1⟩
theorem w_andT {k : Bool} (ha : PT X a (tT p ρ c true c1)) (hb : PW X (.BoolOp .And (b :: es) pos) (tT p ρ c1 k c2)) : PW X (.BoolOp .And (a :: b :: es) pos) (tT p ρ c k c2) :=
  pwM (pw_and ha hb) fun σ H Q ⟨S, R, q⟩ => ⟨S, R, fun H1 S1 R1 x1 => iteT ⟨S1, R1, fun H2 S2 R2 x2 => q H2 S2 R2 (x1.trans x2)⟩⟩
theorem w_andF (ha : PT X a (tT p ρ c false c1)) : PW X (.BoolOp .And (a :: b :: es) pos) (tT p ρ c false c1) := by
  have hb : PW X (.BoolOp .And (b :: es) pos) (fun _ _ _ => False) := ⟨fun _ _ _ _ _ _ _ z => z.elim⟩
  exact pwM (pw_and ha hb) fun σ H Q ⟨S, R, q⟩ => ⟨S, R, fun H1 S1 R1 x1 => iteF (q H1 S1 R1 x1)⟩
theorem w_orT (ha : PT X a (tT p ρ c true c1)) : PW X (.BoolOp .Or (a :: b :: es) pos) (tT p ρ c true c1) := by
  have hb : PW X (.BoolOp .Or (b :: es) pos) (fun _ _ _ => False) := ⟨fun _ _ _ _ _ _ _ z => z.elim⟩
  exact pwM (pw_or ha hb) fun σ H Q ⟨S, R, q⟩ => ⟨S, R, fun H1 S1 R1 x1 => iteT (q H1 S1 R1 x1)⟩
theorem w_orF {k : Bool} (ha : PT X a (tT p ρ c false c1)) (hb : PW X (.BoolOp .Or (b :: es) pos) (tT p ρ c1 k c2)) : PW X (.BoolOp .Or (a :: b :: es) pos) (tT p ρ c k c2) :=
  pwM (pw_or ha hb) fun σ H Q ⟨S, R, q⟩ => ⟨S, R, fun H1 S1 R1 x1 => iteF ⟨S1, R1, fun H2 S2 R2 x2 => q H2 S2 R2 (x1.trans x2)⟩⟩

/-! ### rows -/
theorem l_own (C : Cok X p G) (hi : ixOf G.N nm = some i) (hv : (visB G.sc nm && okN nm) = true) (hs : ρ[i]? = some (.ow ds)) : PE X (.Name nm pos) (tL p ρ c true ds c) :=
  peM (pe_nm C hi hv) fun σ H Q ⟨S, R, k⟩ => by
    obtain ⟨a, vs, h1, h2, h3, h4, h5⟩ := R.slot i _ hs
    exact ⟨_, h1, k a vs H S R (Ext.refl R.sub) (fun H2 S2 x => SqL.of (x.kp a _ (R.ne_g h4) h2)) h5⟩
theorem l_of {isL : Bool} (h : PE X e (tE p ρ c d c1)) (hd : seqOf d = some (isL, ds)) : PE X e (tL p ρ c isL ds c1) :=
  peM h fun σ H Q ⟨S, R, k⟩ => ⟨S, R, fun v H1 S1 R1 x1 a1 => by
    cases d <;> cases hd
    · obtain ⟨a, vs, rfl, h1, r1⟩ := a1.tup_inv
      exact k a vs H1 S1 R1 x1 (fun H2 S2 x => sub_t x.ss h1) r1
    · obtain ⟨a, vs, rfl, h1, r1⟩ := a1.lst_inv
      exact k a vs H1 S1 R1 x1 (fun H2 S2 x => sub_l (x.ss.trans x.sub) h1) r1⟩
theorem plainIx_ok (h : plainIxB b = true) : PlainIx b := by
  intro o i
  cases b <;> first | rfl | cases h
theorem at_i {Z : KC} {S : Hp} {vs : List V} {k : Int} (r : Ats Z S vs ds) (h : atI ds k = some d) : ∃ v, atI vs k = some v ∧ At Z S v d := by
  unfold atI at h ⊢
  rw [r.len]
  cases e : ixN ds.length k with
  | none => rw [e] at h; cases h
  | some j =>
    rw [e] at h
    exact r.get h
theorem e_ix (C : Cok X p G) (hp : plainIxB b = true) {isL : Bool} {k : Int} (ha : PE X a (tL p ρ c isL ds c1)) (hb : PE X b (tE p ρ c1 (.int k) c2)) (h : atI ds k = some d) : PE X (.Subscript a b pos) (tE p ρ c d c2) := by
  have main : ∀ {r : R2}, IxR X r → (∀ (a : Addr) (vs : List V) (H S : Hp) (v : V) (Q : VK), Sub S H → SqB p.Z.K isL H S a vs → atI vs k = some v → Q v H → r (.ref a) (.int k) H Q) → PE X (.Subscript a b pos) (tE p ρ c d c2) := fun {r} hr hq =>
    peM (pe_ix hr ha hb (plainIx_ok hp)) fun σ H Q ⟨S, R, q⟩ => ⟨S, R, fun a vs H1 S1 R1 x1 hs a1 => ⟨S1, R1, fun u H2 S2 R2 x2 a2 => by
      rw [a2.int_inv]
      obtain ⟨v, e, av⟩ := at_i (a1.sub x2.ss) h
      exact hq a vs H2 S2 v Q R2.sub (hs H2 S2 x2) e (q v H2 S2 R2 (x1.trans x2) av)⟩⟩
  cases isL with
  | true => exact main ix_list fun a vs H S v Q s hs e q => ⟨a, vs, k, v, rfl, rfl, by rw [C.K]; exact hs, e, q⟩
  | false => exact main ix_tup fun a vs H S v Q s hs e q => ⟨a, vs, k, v, rfl, rfl, by rw [C.K]; exact sub_t s hs, e, q⟩
theorem o_no : PO X none (tO p ρ c none c) := poM po_none fun σ H Q ⟨S, R, q⟩ => q H S R (Ext.refl R.sub)
theorem o_at {k : Int} (h : PE X e (tE p ρ c (.int k) c1)) : PO X (some e) (tO p ρ c (some k) c1) :=
  poM (po_some h) fun σ H Q ⟨S, R, q⟩ => ⟨S, R, fun v H1 S1 R1 x1 a1 => ⟨k, a1.int_inv, q H1 S1 R1 x1⟩⟩
theorem cut_at {Z : KC} {S : Hp} {vs : List V} (r : Ats Z S vs ds) (lo hi : Option Int) : Ats Z S (cutV vs lo hi) (cutD ds lo hi) := by
  unfold cutV cutD
  rw [r.len]
  exact (r.drop _).take _
theorem Ats.reverse {Z : KC} {S : Hp} : ∀ {vs : List V} {ds : List D}, Ats Z S vs ds → Ats Z S vs.reverse ds.reverse
  | _, _, .nil => .nil
  | _, _, .cons h r => by
    rw [List.reverse_cons, List.reverse_cons]
    exact (Ats.reverse r).snoc h
theorem e_rev (C : Cok X p G) {k : Nat} {p1 p2 p3 : Pos} (ha : PE X a (tL p ρ c true ds c1)) : PE X (.Subscript a (.Slice none none (some (.UnaryOp .USub (.Constant (.int 1) k p1) p2)) p3) pos) (tE p ρ c (.lst ds.reverse) c1) :=
  peM (pe_revL ha) fun σ H Q ⟨S, R, q⟩ => ⟨S, R, fun a vs H1 S1 R1 x1 hs a1 => by
    rw [C.K]
    refine ⟨a, vs, rfl, hs H1 S1 (Ext.refl R1.sub), fun w hw => ?_⟩
    have x := Ext.new (g := none) R1.sub (o := .lst vs.reverse) hw
    exact q _ _ _ (R1.step0 x) (x1.trans x.none_any) (.lst (SqL.of upd_same) ((Ats.reverse a1).sub x.ss))⟩
theorem e_sli (C : Cok X p G) {isL : Bool} {lo hi : Option Expr} {l h : Option Int} {p2 : Pos} (ha : PE X a (tL p ρ c isL ds c1)) (hl : PO X lo (tO p ρ c1 l c2)) (hh : PO X hi (tO p ρ c2 h c3)) :
    PE X (.Subscript a (.Slice lo hi none p2) pos) (tE p ρ c (if isL = true then .lst (cutD ds l h) else .tup (cutD ds l h)) c3) := by
  cases isL with
  | true =>
    refine peM (pe_slice sl_list ha hl hh) fun σ H Q ⟨S, R, q⟩ => ⟨S, R, fun a vs H1 S1 R1 x1 hs a1 => ⟨S1, R1, fun H2 S2 R2 x2 => ⟨S2, R2, fun H3 S3 R3 x3 => ?_⟩⟩⟩
    rw [C.K]
    refine ⟨a, vs, rfl, hs H3 S3 (x2.trans x3), fun w hw => ?_⟩
    have x := Ext.new (g := none) R3.sub (o := .lst (cutV vs l h)) hw
    exact q _ _ _ (R3.step0 x) (((x1.trans x2).trans x3).trans x.none_any) (.lst (SqL.of upd_same) (cut_at (((a1.sub x2.ss).sub x3.ss).sub x.ss) _ _))
  | false =>
    refine peM (pe_slice sl_tupA ha hl hh) fun σ H Q ⟨S, R, q⟩ => ⟨S, R, fun a vs H1 S1 R1 x1 hs a1 => ⟨S1, R1, fun H2 S2 R2 x2 => ⟨S2, R2, fun H3 S3 R3 x3 => ?_⟩⟩⟩
    rw [C.K]
    have a3 := (a1.sub x2.ss).sub x3.ss
    have hs3 : SqT p.Z.K S3 a vs := hs H3 S3 (x2.trans x3)
    refine ⟨a, vs, rfl, sub_t R3.sub hs3, fun hw => ?_, fun _ w hw => ?_⟩
    · have e : cutD ds l h = ds := by
        unfold cutD
        rw [a1.len] at hw
        rw [hw.1, hw.2, List.drop_zero, Nat.sub_zero]
        exact List.take_length
      refine q _ H3 S3 R3 ((x1.trans x2).trans x3) ?_
      show At p.Z S3 (.ref a) (.tup (cutD ds l h))
      rw [e]
      exact .tup hs3 a3
    · have x := Ext.new (g := none) R3.sub (o := .tup (cutV vs l h)) hw
      exact q _ _ _ (R3.step0 x) (((x1.trans x2).trans x3).trans x.none_any) (.tup (SqT.of upd_same) (cut_at (a3.sub x.ss) _ _))

/-! ### built-ins -/
/-- a call by data -/
def RC (p : Par) (r : List V → Hp → VK → Prop) (xs : List D) (d : D) : Prop := ∀ (vs : List V) (H S : Hp) (Q : VK), Sub S H → Ats p.Z S vs xs →
  (∀ z H1 S1, Ext none H S H1 S1 → At p.Z S1 z d → Q z H1) → r vs H Q
theorem e_cb {ta : TA} {r : List V → Hp → VK → Prop} {xs : List D} (hr : RC p r xs d) : ∀ (σ : L2.St) (H : Hp) (Q : VK), tE p ρ c d c1 σ H Q → tCB r (tA p ρ c xs c1) σ H Q := fun σ H Q ⟨S, R, k⟩ =>
  ⟨S, R, fun vs H1 S1 R1 x1 a1 => hr vs H1 S1 Q R1.sub a1 fun z H2 S2 x2 a2 => k z H2 S2 (R1.step0 x2) (x1.trans x2.none_any) a2⟩
theorem any_star : ∀ {es : List Expr} {pos : Pos} {env : Env}, es.any isStar = false → (backTo pos (starEach es env)).any (·.1) = false
  | [], _, _, _ => rfl
  | e :: es, pos, env, h => by
    rw [List.any_cons, Bool.or_eq_false_iff] at h
    rw [star_cons h.1]
    show (false || (backTo pos (starEach es env)).any (·.1)) = false
    rw [any_star h.2]
    rfl
theorem e_callB {id : String} {r : List V → Hp → VK → Prop} {xs : List D} {q : Pos} (C : Cok X p G) (hc : CallR X (.builtin id) r) (hg : gn G nm = true) (hm : X.mg nm = none) (hv : bootBuiltins nm = some (.builtin id)) (hs : (a :: es).any isStar = false) (ha : PA X (a :: es) (tA p ρ c xs c1)) (hr : RC p r xs d) :
    PE X (.Call (.Name nm q) (a :: es) [] pos) (tE p ρ c d c1) := by
  obtain ⟨g1, g2⟩ := gl_ok C hg
  rw [List.any_cons, Bool.or_eq_false_iff] at hs
  exact peM (pe_callB hc g1 hm hv ha (okN3 g2) (okN1 g2) (star_cons hs.1) (any_star hs.2)) (e_cb (ta := tA p ρ c xs c1) hr)
theorem e_callTy {T : String} {r : List V → Hp → VK → Prop} {xs : List D} {q : Pos} (C : Cok X p G) (hc : CallR X (.type T) r) (hg : gn G nm = true) (hm : X.mg nm = none) (hv : bootBuiltins nm = some (.type T)) (hs : (a :: es).any isStar = false) (ha : PA X (a :: es) (tA p ρ c xs c1)) (hr : RC p r xs d) :
    PE X (.Call (.Name nm q) (a :: es) [] pos) (tE p ρ c d c1) := by
  obtain ⟨g1, g2⟩ := gl_ok C hg
  rw [List.any_cons, Bool.or_eq_false_iff] at hs
  exact peM (pe_callTy hc g1 hm hv ha (okN3 g2) (okN1 g2) (star_cons hs.1) (any_star hs.2)) (e_cb (ta := tA p ρ c xs c1) hr)
theorem Ats.one {Z : KC} {S : Hp} {vs : List V} (h : Ats Z S vs [d]) : ∃ v, vs = [v] ∧ At Z S v d := by
  cases h with
  | cons h r => cases r; exact ⟨_, rfl, h⟩
theorem Ats.two {Z : KC} {S : Hp} {vs : List V} (h : Ats Z S vs [x, y]) : ∃ v u, vs = [v, u] ∧ At Z S v x ∧ At Z S u y := by
  cases h with
  | cons h r => 
    cases r with
    | cons h2 r => cases r; exact ⟨_, _, rfl, h, h2⟩
theorem ints_ok : ∀ {l : List D} {ns : List Int}, D.ints l = some ns → l = ns.map D.int
  | [], _, h => by cases h; rfl
  | .int i :: r, ns, h => by
    unfold D.ints at h
    cases e : D.ints r with
    | none => rw [e] at h; cases h
    | some ms => rw [e] at h; cases h; rw [List.map_cons, ints_ok e]
  | .non :: _, _, h => by cases h
  | .bl _ :: _, _, h => by cases h
  | .str _ :: _, _, h => by cases h
  | .tup _ :: _, _, h => by cases h
  | .lst _ :: _, _, h => by cases h
  | .obj _ _ _ :: _, _, h => by cases h
  | .dic _ _ :: _, _, h => by cases h
  | .tpx _ :: _, _, h => by cases h
  | .dio _ _ :: _, _, h => by cases h
theorem bls_ok : ∀ {l : List D} {ns : List Bool}, D.bls l = some ns → l = ns.map D.bl
  | [], _, h => by cases h; rfl
  | .bl i :: r, ns, h => by
    unfold D.bls at h
    cases e : D.bls r with
    | none => rw [e] at h; cases h
    | some ms => rw [e] at h; cases h; rw [List.map_cons, bls_ok e]
  | .non :: _, _, h => by cases h
  | .int _ :: _, _, h => by cases h
  | .str _ :: _, _, h => by cases h
  | .tup _ :: _, _, h => by cases h
  | .lst _ :: _, _, h => by cases h
  | .obj _ _ _ :: _, _, h => by cases h
  | .dic _ _ :: _, _, h => by cases h
  | .tpx _ :: _, _, h => by cases h
  | .dio _ _ :: _, _, h => by cases h
theorem rc_pure {r : List V → Hp → VK → Prop} {xs : List D} (hd : d.scal = true) (h : ∀ (vs : List V) (H S : Hp) (Q : VK), Sub S H → Ats p.Z S vs xs → Q d.v H → r vs H Q) : RC p r xs d := fun vs H S Q s a k =>
  h vs H S Q s a (k d.v H S (Ext.refl s) (At.of_scal hd))
/-- one argument: int, abs, any, all, sum -/
theorem e_b1 (C : Cok X p G) {o : B1} {q : Pos} (hn : nm = (match o with | .int => ("int" : Str) | .abs => "abs" | .any => "any" | .all => "all" | .sum => "sum" | .str => "str")) (hg : gn G nm = true) (hm : X.mg nm = none) (hs : isStar a = false) (ha : PE X a (tE p ρ c x c1)) (hb : b1D o x = some d) :
    PE X (.Call (.Name nm q) [a] [] pos) (tE p ρ c d c1) := by
  have hs' : ([a] : List Expr).any isStar = false := by rw [List.any_cons, hs]; rfl
  have pa : PA X [a] (tA p ρ c [x] c1) := a_cons hs ha a_nil
  cases o with
  | int =>
    subst hn
    cases x <;> first | (cases hb; done) | skip
    · rename_i b
      cases hb
      exact e_callTy C call_int1 hg hm (by decide +kernel) hs' pa (rc_pure rfl fun vs H S Q s r k => by
        obtain ⟨v, rfl, h⟩ := r.one
        exact .inr ⟨b, by rw [h.bl_inv], k⟩)
    · rename_i i
      cases hb
      exact e_callTy C call_int1 hg hm (by decide +kernel) hs' pa (rc_pure rfl fun vs H S Q s r k => by
        obtain ⟨v, rfl, h⟩ := r.one
        exact .inl ⟨i, by rw [h.int_inv], k⟩)
    · rename_i s
      have hb' : (match PySem.intText? s with
        | some n => if s.length ≤ 640 then some (D.int n) else none
        | none => none) = some d := hb
      split at hb'
      · rename_i n hn
        split at hb' <;> cases hb'
        rename_i hz
        exact e_callTy C call_int_str hg hm (by decide +kernel) hs' pa (rc_pure rfl fun vs H S Q s2 r k => by
          obtain ⟨v, rfl, h⟩ := r.one
          exact ⟨s, n, by rw [h.scal rfl]; rfl, hn, hz, k⟩)
      · cases hb'
  | abs =>
    subst hn
    cases x <;> first | (cases hb; done) | skip
    rename_i i
    cases hb
    exact e_callB C call_abs hg hm (by decide +kernel) hs' pa (rc_pure rfl fun vs H S Q s r k => by
      obtain ⟨v, rfl, h⟩ := r.one
      exact ⟨i, by rw [h.int_inv], k⟩)
  | str =>
    subst hn
    cases x <;> first | (cases hb; done) | skip
    rename_i i
    have hb' : (if i.natAbs.log2 < 1920 then some (D.str (toString i)) else none) = some d := hb
    split at hb' <;> cases hb'
    rename_i hz
    exact e_callTy C call_str_int hg hm (by decide +kernel) hs' pa (rc_pure rfl fun vs H S Q s r k => by
      obtain ⟨v, rfl, h⟩ := r.one
      exact ⟨i, by rw [h.int_inv], hz, k⟩)
  | any =>
    subst hn
    cases x <;> first | (cases hb; done) | skip
    rename_i l
    have hb' : (D.bls l).map (fun bs => D.bl (bs.any id)) = some d := hb
    cases e : D.bls l with
    | none => rw [e] at hb'; cases hb'
    | some bs =>
      rw [e] at hb'
      cases hb'
      exact e_callB C (cr_any C.calm) hg hm (by decide +kernel) hs' pa (rc_pure rfl fun vs H S Q s r k => by
        obtain ⟨v, rfl, h⟩ := r.one
        obtain ⟨w, us, rfl, h1, r1⟩ := h.lst_inv
        rw [bls_ok e] at r1
        exact ⟨w, bs, rfl, by rw [C.K, ← r1.bls]; exact sub_l s h1, k⟩)
  | all =>
    subst hn
    cases x <;> first | (cases hb; done) | skip
    rename_i l
    have hb' : (D.bls l).map (fun bs => D.bl (bs.all id)) = some d := hb
    cases e : D.bls l with
    | none => rw [e] at hb'; cases hb'
    | some bs =>
      rw [e] at hb'
      cases hb'
      exact e_callB C (cr_all C.calm) hg hm (by decide +kernel) hs' pa (rc_pure rfl fun vs H S Q s r k => by
        obtain ⟨v, rfl, h⟩ := r.one
        obtain ⟨w, us, rfl, h1, r1⟩ := h.lst_inv
        rw [bls_ok e] at r1
        exact ⟨w, bs, rfl, by rw [C.K, ← r1.bls]; exact sub_l s h1, k⟩)
  | sum =>
    subst hn
    cases x <;> first | (cases hb; done) | skip
    rename_i l
    have hb' : (D.ints l).map (fun bs => D.int bs.sum) = some d := hb
    cases e : D.ints l with
    | none => rw [e] at hb'; cases hb'
    | some bs =>
      rw [e] at hb'
      cases hb'
      exact e_callB C (cr_sum C.calm) hg hm (by decide +kernel) hs' pa (rc_pure rfl fun vs H S Q s r k => by
        obtain ⟨v, rfl, h⟩ := r.one
        obtain ⟨w, us, rfl, h1, r1⟩ := h.lst_inv
        rw [ints_ok e] at r1
        exact ⟨w, bs, rfl, by rw [C.K, ← r1.ints]; exact sub_l s h1, k⟩)
theorem e_b2 (C : Cok X p G) {o : B2} {q : Pos} (hn : nm = (match o with | .max => ("max" : Str) | .min => "min")) (hg : gn G nm = true) (hm : X.mg nm = none) (hs : isStar a = false) (hs2 : isStar b = false) (ha : PE X a (tE p ρ c x c1)) (hb : PE X b (tE p ρ c1 y c2)) (h : b2D o x y = some d) :
    PE X (.Call (.Name nm q) [a, b] [] pos) (tE p ρ c d c2) := by
  have hs' : ([a, b] : List Expr).any isStar = false := by rw [List.any_cons, List.any_cons, hs, hs2]; rfl
  have pa : PA X [a, b] (tA p ρ c [x, y] c2) := a_cons hs ha (a_cons hs2 hb a_nil)
  cases o with
  | max =>
    subst hn
    cases x <;> first | (cases h; done) | (cases y <;> first | (cases h; done) | skip)
    rename_i i j
    cases h
    exact e_callB C (call_max2 C.calm) hg hm (by decide +kernel) hs' pa (rc_pure rfl fun vs H S Q s r k => by
      obtain ⟨v, u, rfl, h1, h2⟩ := r.two
      exact ⟨i, j, by rw [h1.int_inv, h2.int_inv], k⟩)
  | min =>
    subst hn
    cases x <;> first | (cases h; done) | (cases y <;> first | (cases h; done) | skip)
    rename_i i j
    cases h
    exact e_callB C (call_min2 C.calm) hg hm (by decide +kernel) hs' pa (rc_pure rfl fun vs H S Q s r k => by
      obtain ⟨v, u, rfl, h1, h2⟩ := r.two
      exact ⟨i, j, by rw [h1.int_inv, h2.int_inv], k⟩)
/-- a built-in over one row -/
theorem e_row (C : Cok X p G) {isL : Bool} {r : List V → Hp → VK → Prop} {q : Pos} (hs : isStar a = false) (ha : PE X a (tL p ρ c isL ds c1)) (hp : ∀ {t : TA}, PA X [a] t → PE X (.Call (.Name nm q) [a] [] pos) (tCB r t))
    (hr : ∀ (w : Addr) (vs : List V) (H S : Hp) (Q : VK), Sub S H → SqB X.K isL H S w vs → Ats p.Z S vs ds → (∀ z H1 S1, Ext none H S H1 S1 → At p.Z S1 z d → Q z H1) → r [.ref w] H Q) : PE X (.Call (.Name nm q) [a] [] pos) (tE p ρ c d c1) :=
  peM (hp (pa_cons ha pa_nil (star_cons hs))) fun σ H Q ⟨S, R, k⟩ => ⟨S, R, fun w vs H1 S1 R1 x1 hq a1 =>
    hr w vs H1 S1 Q R1.sub (by rw [C.K]; exact hq H1 S1 (Ext.refl R1.sub)) a1 fun z H2 S2 x2 a2 => k z H2 S2 (R1.step0 x2) (x1.trans x2.none_any) a2⟩
theorem e_len (C : Cok X p G) {isL : Bool} {q : Pos} (hn : nm = "len") (hg : gn G nm = true) (hm : X.mg nm = none) (hs : isStar a = false) (ha : PE X a (tL p ρ c isL ds c1)) : PE X (.Call (.Name nm q) [a] [] pos) (tE p ρ c (.int ds.length) c1) := by
  obtain ⟨g1, g2⟩ := gl_ok C hg
  subst hn
  refine e_row C hs ha (fun h => pe_callB call_len_seq g1 hm PySem.boot_len h (okN3 g2) (okN1 g2) (star_cons hs) rfl) fun w vs H S Q s hq r k => ?_
  refine ⟨w, vs, rfl, ?_, by rw [r.len]; exact k _ H S (Ext.refl s) (.int _)⟩
  cases isL with
  | true => exact .inl hq
  | false => exact .inr (sub_t s hq)
theorem e_lenStr (C : Cok X p G) {q : Pos} {z : Str} (hz : z.length ≤ line) (hn : nm = "len") (hg : gn G nm = true) (hm : X.mg nm = none) (hs : isStar a = false) (ha : PE X a (tE p ρ c (.str z) c1)) : PE X (.Call (.Name nm q) [a] [] pos) (tE p ρ c (.int z.length) c1) := by
  have hs' : ([a] : List Expr).any isStar = false := by rw [List.any_cons, hs]; rfl
  have pa : PA X [a] (tA p ρ c [.str z] c1) := a_cons hs ha a_nil
  subst hn
  exact e_callB C call_len_str hg hm (by decide +kernel) hs' pa (rc_pure rfl fun vs H S Q s r k => by
    obtain ⟨v, rfl, h⟩ := r.one
    exact ⟨z, by rw [h.scal rfl]; rfl, hz, k⟩)
theorem l_x {ys : List Str} (h : PE X e (tE p ρ c (.tpx ys) c1)) : PE X e (tL p ρ c false (ys.map .str) c1) :=
  peM h fun σ H Q ⟨S, R, k⟩ => ⟨S, R, fun v H1 S1 R1 x1 a1 => by
    obtain ⟨a, vs, rfl, q1, r1⟩ := a1.wk.tup_inv
    exact k a vs H1 S1 R1 x1 (fun H2 S2 x2 => sub_t x2.ss q1) r1⟩
theorem e_tupOfX (C : Cok X p G) {ys : List Str} {q : Pos} (hn : nm = "tuple") (hg : gn G nm = true) (hm : X.mg nm = none) (hs : isStar a = false) (ha : PE X a (tE p ρ c (.tpx ys) c1)) : PE X (.Call (.Name nm q) [a] [] pos) (tE p ρ c (.tpx ys) c1) := by
  obtain ⟨g1, g2⟩ := gl_ok C hg
  subst hn
  refine peM (pe_callTy call_tuple_of g1 hm (by decide +kernel) (a_cons hs ha a_nil) (okN3 g2) (okN1 g2) (star_cons hs) rfl) fun σ H Q ⟨S, R, k⟩ => ⟨S, R, fun vs H1 S1 R1 x1 a1 => ?_⟩
  cases a1 with
  | cons av an =>
    cases an
    have a0 := av
    obtain ⟨w, us, rfl, q1, r1⟩ := av.wk.tup_inv
    rw [C.K]
    exact ⟨w, us, rfl, .inr ⟨sub_t R1.sub q1, k _ H1 S1 R1 x1 a0⟩⟩
/-- a display of texts, its index at hand -/
theorem pe_tupF {k : Nat} {es : List Expr} {t : TA} (h : PA X es t) : PE X (.Tuple es k pos) (fun σ H Q => t σ H fun xs H1 => xs.length ≤ sizeLine ∧ ∀ p o, H1 p = none → o.dict = none → Q (.ref p) (upd H1 p (.frz o (.tup xs)))) := by
  refine ⟨fun pins s σ H Q I hq => ?_⟩
  refine wpAny_Tuple_spliced (thn (h.run pos pins s σ H _ I hq) fun us s1 ⟨xs, H1, I1, r, z, q⟩ => ⟨by rw [← r.length]; exact z, ?_⟩)
  have hf : H1 s1.heap.objs.size = none := I1.hok.fresh (Nat.le_refl _)
  refine ⟨.ref s1.heap.objs.size, upd H1 s1.heap.objs.size (.frz { cls := .type "tuple", data := .seq us.toArray } (.tup xs)), I1.laid (t' := s1.toks) (fun b u e => Heap.get?_push_of_some _ e) (Nat.le_refl _) ?_, rfl, q _ _ hf rfl⟩
  exact ⟨Heap.get?_push_size _ rfl, z, us, r, ⟨_, Heap.get?_push_size _ rfl, rfl, _, rfl⟩⟩
theorem txs_pa : ∀ {es : List Expr} {ys : List Str}, txsOf es = some ys → PA X es (tA p ρ c (ys.map .str) c)
  | [], ys, h => by cases h; exact a_nil
  | e :: es, ys, h => by
    unfold txsOf at h
    split at h
    · rename_i h1 h2; cases h2
    · rename_i s j q r h2
      cases h2
      cases e1 : txsOf es with
      | none => rw [e1] at h; cases h
      | some zs => rw [e1] at h; cases h; exact a_cons rfl (e_const rfl) (txs_pa e1)
    · cases h
theorem e_tpd {ys : List Str} (h : tupTx e = some ys) (hl : ys.length ≤ line) : PE X e (tE p ρ c (.tpx ys) c) := by
  unfold tupTx at h
  split at h
  · split at h
    · cases h
    · refine peM (pe_tupF (txs_pa (p := p) (ρ := ρ) (c := c) h)) fun σ H Q ⟨S, R, k⟩ => ⟨S, R, fun vs H1 S1 R1 x1 a1 => ?_⟩
      have ev := a1.strs
      subst ev
      refine ⟨by rw [List.length_map]; exact hl, fun w o hw ho => ?_⟩
      have x := Ext.new (g := none) R1.sub (o := .frz o (.tup (ys.map V.str))) hw
      exact k _ _ _ (R1.step0 x) (x1.trans x.none_any) (.tpx upd_same ho)
  · cases h
theorem e_tupOf (C : Cok X p G) {isL : Bool} {q : Pos} (hn : nm = "tuple") (hg : gn G nm = true) (hm : X.mg nm = none) (hs : isStar a = false) (ha : PE X a (tL p ρ c isL ds c1)) : PE X (.Call (.Name nm q) [a] [] pos) (tE p ρ c (.tup ds) c1) := by
  obtain ⟨g1, g2⟩ := gl_ok C hg
  subst hn
  refine e_row C hs ha (fun h => pe_callTy call_tuple_of g1 hm (by decide +kernel) h (okN3 g2) (okN1 g2) (star_cons hs) rfl) fun w vs H S Q s hq r k => ?_
  refine ⟨w, vs, rfl, ?_⟩
  cases isL with
  | true =>
    refine .inl ⟨hq, fun l hl => ?_⟩
    have x := Ext.new (g := none) s (o := .tup vs) hl
    exact k _ _ _ x (.tup (SqT.of upd_same) (r.sub x.ss))
  | false =>
    refine .inr ⟨sub_t s hq, k _ H S (Ext.refl s) (.tup ?_ r)⟩
    rw [← C.K]
    exact hq
theorem e_lstOf (C : Cok X p G) {isL : Bool} {q : Pos} (hn : nm = "list") (hg : gn G nm = true) (hm : X.mg nm = none) (hs : isStar a = false) (ha : PE X a (tL p ρ c isL ds c1)) : PE X (.Call (.Name nm q) [a] [] pos) (tE p ρ c (.lst ds) c1) := by
  obtain ⟨g1, g2⟩ := gl_ok C hg
  subst hn
  refine e_row C hs ha (fun h => pe_callTy call_list_of g1 hm (by decide +kernel) h (okN3 g2) (okN1 g2) (star_cons hs) rfl) fun w vs H S Q s hq r k => ?_
  refine ⟨w, vs, rfl, ?_, fun l hl => ?_⟩
  · cases isL with
    | true => exact .inl hq
    | false => exact .inr (sub_t s hq)
  · have x := Ext.new (g := none) s (o := .lst vs) hl
    exact k _ _ _ x (.lst (SqL.of upd_same) (r.sub x.ss))
end
end Rf

/-! Rf, part F: sets of ints, the draw list, calls of the text's own defs, what is walked, comprehensions. -/
namespace Rf
open PySem PySem.Spec L2

section
variable {X : Cx} {p : Par} {G : Gam} {ρ : List Slot} {c c1 c2 c3 : Int} {x y z d : D} {a b e : Expr} {es : List Expr} {pos : Pos} {r : R2} {nm : Str} {i : Nat} {ds : List D}

/-! ### sets of ints -/
def rSet (neg : Bool) : R2 := fun x y H Q => ∃ (k : Int) (a : Addr) (Sf : Int → Bool) (n : Nat), x = .int k ∧ y = .ref a ∧ H a = some (.set Sf n) ∧ Q (.bl (if neg then !Sf k else Sf k)) H
theorem or_in : OpR X (compareOp .In) (rSet false) := by
  intro pins s σ H x y v u Q I rx ry h
  obtain ⟨k, a, Sf, n, rfl, rfl, ha, q⟩ := h
  obtain ⟨tk, rfl⟩ := rx
  cases ry
  exact wpAny_inSet_of (intKind_is _ _ _ _) rfl (show s.heap.SetOf (intKind X.prog X.w) a Sf n from I.hok a _ ha) ⟨.bl (Sf k), H, I.tok _, rfl, q⟩
theorem or_notin : OpR X (compareOp .NotIn) (rSet true) := by
  intro pins s σ H x y v u Q I rx ry h
  obtain ⟨k, a, Sf, n, rfl, rfl, ha, q⟩ := h
  obtain ⟨tk, rfl⟩ := rx
  cases ry
  exact wpAny_notInSet_of (intKind_is _ _ _ _) rfl (show s.heap.SetOf (intKind X.prog X.w) a Sf n from I.hok a _ ha) ⟨.bl (!Sf k), H, I.tok _, rfl, q⟩
theorem set_slot {ns : List Int} {σ : L2.St} {H S : Hp} (R : Rel p σ H S ρ c) (hs : ρ[i]? = some (.st ns)) : ∃ w, σ[i]? = some (some (.ref w)) ∧ H w = some (.set (fun k => decide (k ∈ ns)) ns.length) := by
  obtain ⟨w, h1, h2, _⟩ := R.slot i _ hs
  exact ⟨w, h1, h2⟩
theorem rd_inS {neg : Bool} {ns : List Int} {k : Int} (hs : ρ[i]? = some (.st ns)) : ∀ (σ : L2.St) (H : Hp) (Q : VK), tE p ρ c (.bl (if neg then !decide (k ∈ ns) else decide (k ∈ ns))) c1 σ H Q → tOp (rSet neg) (tE p ρ c (.int k) c1) (tVar i) σ H Q := fun σ H Q ⟨S, R, q⟩ =>
  ⟨S, R, fun v H1 S1 R1 x1 a1 => by
    obtain ⟨w, h1, h2⟩ := set_slot R1 hs
    exact ⟨_, h1, k, w, _, _, a1.int_inv, rfl, h2, q _ H1 S1 R1 x1 (.bl _)⟩⟩
theorem e_inS (C : Cok X p G) {neg : Bool} {ns : List Int} {k : Int} {op : CmpOp} {q : Pos} (ho : op = if neg then .NotIn else .In) (hi : ixOf G.N nm = some i) (hv : (visB G.sc nm && okN nm) = true) (hs : ρ[i]? = some (.st ns)) (ha : PE X a (tE p ρ c (.int k) c1)) :
    PE X (.Compare a [op] [.Name nm q] pos) (tE p ρ c (.bl (if neg then !decide (k ∈ ns) else decide (k ∈ ns))) c1) := by
  subst ho
  cases neg with
  | true => exact peM (pe_cmpR or_notin ha (pe_nm C hi hv) rfl) (rd_inS (neg := true) hs)
  | false => exact peM (pe_cmpR or_in ha (pe_nm C hi hv) rfl) (rd_inS (neg := false) hs)
theorem t_inS (C : Cok X p G) {neg : Bool} {ns : List Int} {k : Int} {op : CmpOp} {q : Pos} (ho : op = if neg then .NotIn else .In) (hi : ixOf G.N nm = some i) (hv : (visB G.sc nm && okN nm) = true) (hs : ρ[i]? = some (.st ns)) (ha : PE X a (tE p ρ c (.int k) c1)) :
    PT X (.Compare a [op] [.Name nm q] pos) (tT p ρ c (if neg then !decide (k ∈ ns) else decide (k ∈ ns)) c1) := by
  subst ho
  cases neg with
  | true => exact ptM (pt_cmpR or_notin ha (pe_nm C hi hv) rfl) (t_test (rd_inS (neg := true) hs))
  | false => exact ptM (pt_cmpR or_in ha (pe_nm C hi hv) rfl) (t_test (rd_inS (neg := false) hs))
theorem rd_inO {neg : Bool} {ks : List Key} {ds : List D} {k : Key} (hs : ρ[i]? = some (.od ks ds)) (hk : keyOf x = some k) : ∀ (σ : L2.St) (H : Hp) (Q : VK), tE p ρ c (.bl (if neg then !hasK ks k else hasK ks k)) c1 σ H Q → tOp (rDin neg) (tE p ρ c x c1) (tVar i) σ H Q := fun σ H Q ⟨S, R, q⟩ =>
  ⟨S, R, fun v H1 S1 R1 x1 a1 => by
    obtain ⟨w, vs, h1, h2, _, _, h5, _⟩ := R1.slot i _ hs
    refine ⟨_, h1, w, _, rfl, .inl ⟨_, k, .inl h2, at_key a1 hk, rfl⟩, ?_⟩
    rw [valV_dval, dval_has h5]
    exact q _ H1 S1 R1 x1 (.bl _)⟩
theorem e_inO (C : Cok X p G) {neg : Bool} {ks : List Key} {ds : List D} {k : Key} {op : CmpOp} {q : Pos} (ho : op = if neg then .NotIn else .In) (hi : ixOf G.N nm = some i) (hv : (visB G.sc nm && okN nm) = true) (hs : ρ[i]? = some (.od ks ds)) (hk : keyOf x = some k) (ha : PE X a (tE p ρ c x c1)) :
    PE X (.Compare a [op] [.Name nm q] pos) (tE p ρ c (.bl (if neg then !hasK ks k else hasK ks k)) c1) := by
  subst ho
  cases neg with
  | true => exact peM (pe_cmpR (op_dnin C) ha (pe_nm C hi hv) rfl) (rd_inO (neg := true) hs hk)
  | false => exact peM (pe_cmpR (op_din C) ha (pe_nm C hi hv) rfl) (rd_inO (neg := false) hs hk)
theorem t_inO (C : Cok X p G) {neg : Bool} {ks : List Key} {ds : List D} {k : Key} {op : CmpOp} {q : Pos} (ho : op = if neg then .NotIn else .In) (hi : ixOf G.N nm = some i) (hv : (visB G.sc nm && okN nm) = true) (hs : ρ[i]? = some (.od ks ds)) (hk : keyOf x = some k) (ha : PE X a (tE p ρ c x c1)) :
    PT X (.Compare a [op] [.Name nm q] pos) (tT p ρ c (if neg then !hasK ks k else hasK ks k) c1) := by
  subst ho
  cases neg with
  | true => exact ptM (pt_cmpR (op_dnin C) ha (pe_nm C hi hv) rfl) (t_test (rd_inO (neg := true) hs hk))
  | false => exact ptM (pt_cmpR (op_din C) ha (pe_nm C hi hv) rfl) (t_test (rd_inO (neg := false) hs hk))
theorem call_lenSet : CallR X (.builtin "len") (fun xs H Q => ∃ (a : Addr) (Sf : Int → Bool) (n : Nat), xs = [.ref a] ∧ H a = some (.set Sf n) ∧ n < 100000 ∧ Q (.int n) H) := by
  intro pins s σ H xs us Q I r h
  obtain ⟨a, Sf, n, rfl, ha, hz, q⟩ := h
  obtain rfl := Vals.ref1 r
  obtain ⟨o, es, ep, t, ho, hex, hd, _, _, _, hf, hn⟩ := (show s.heap.SetOf (intKind X.prog X.w) a Sf n from I.hok a _ ha)
  exact call_len_set ho hex hd hf (by rw [hn] <;> omega) ⟨.int n, H, I.tok _, ⟨_, by rw [hn]⟩, q⟩
theorem e_lenS (C : Cok X p G) {ns : List Int} {q q2 : Pos} (hn : nm = "len") (hg : gn G nm = true) (hm : X.mg nm = none) {v : Str} (hi : ixOf G.N v = some i) (hv : (visB G.sc v && okN v) = true) (hs : ρ[i]? = some (.st ns)) (hz : ns.length < 100000) :
    PE X (.Call (.Name nm q) [.Name v q2] [] pos) (tE p ρ c (.int ns.length) c) := by
  obtain ⟨g1, g2⟩ := gl_ok C hg
  subst hn
  refine peM (pe_callB call_lenSet g1 hm PySem.boot_len (pa_cons (pe_nm C hi hv) pa_nil) (okN3 g2) (okN1 g2)) fun σ H Q ⟨S, R, k⟩ => ?_
  obtain ⟨w, h1, h2⟩ := set_slot R hs
  exact ⟨_, h1, w, _, _, rfl, h2, hz, k _ H S R (Ext.refl R.sub) (.int _)⟩

/-! ### the draw list -/
theorem e_scr (C : Cok X p G) {j : Nat} {q q2 : Pos} (hi : ixOf G.N nm = some i) (hv : (visB G.sc nm && okN nm) = true) (hs : ρ[i]? = some (.dr d)) : PE X (.Subscript (.Name nm q) (.Constant (.int 0) j q2) pos) (tE p ρ c d c) :=
  peM (pe_ix ix_list (pe_nm C hi hv) pe_int (fun _ _ => rfl)) fun σ H Q ⟨S, R, k⟩ => by
    obtain ⟨g, sc, h1, h2, h3⟩ := R.slot i _ hs
    obtain ⟨h4, h5, h6⟩ := R.dr g sc h1
    exact ⟨_, h2, g, _, 0, .ref sc, rfl, rfl, SqL.of h4, atI_nat (j := 0) rfl, k _ H S R (Ext.refl R.sub) h3⟩
theorem e_cnt (C : Cok X p G) {j : Nat} {q q2 : Pos} (hi : ixOf G.N nm = some i) (hv : (visB G.sc nm && okN nm) = true) (hs : ρ[i]? = some (.dr d)) : PE X (.Subscript (.Name nm q) (.Constant (.int 1) j q2) pos) (tE p ρ c (.int c) c) :=
  peM (pe_ix ix_list (pe_nm C hi hv) pe_int (fun _ _ => rfl)) fun σ H Q ⟨S, R, k⟩ => by
    obtain ⟨g, sc, h1, h2, h3⟩ := R.slot i _ hs
    obtain ⟨h4, h5, h6⟩ := R.dr g sc h1
    exact ⟨_, h2, g, _, 1, .int c, rfl, rfl, SqL.of h4, atI_nat (j := 1) rfl, k _ H S R (Ext.refl R.sub) (.int c)⟩

/-! ### own defs -/
theorem e_call (C : Cok X p G) {n : Nat} {f : List D → Option D} {q : Pos} (hf : G.fn nm = some (.pure n f)) (hg : gn G nm = true) (hs : (a :: es).any isStar = false) (ha : PA X (a :: es) (tA p ρ c ds c1)) (hn : ds.length = n) (hd : f ds = some d) :
    PE X (.Call (.Name nm q) (a :: es) [] pos) (tE p ρ c d c1) := by
  obtain ⟨w, fd, ps, k, h1, h2, h3, h4, h5⟩ := C.fn nm _ hf
  obtain ⟨g1, g2⟩ := gl_ok C hg
  rw [List.any_cons, Bool.or_eq_false_iff] at hs
  refine peM (pe_call h4 (h5.mono (Nat.le_succ _)) g1 h1 h2 h3 .nil pass0 ha (okN1 g2) (star_cons hs.1) (any_star hs.2)) fun σ H Q ⟨S, R, k⟩ => ⟨S, R, fun vs H1 S1 R1 x1 a1 => ?_⟩
  show spF p.Z (Fn.pure n f) (vs ++ []) H1 Q E0
  rw [List.append_nil]
  exact ⟨S1, ds, d, by rw [a1.len, hn], R1.sub, a1, hd, fun v H2 S2 x2 a2 => k v H2 S2 (R1.step0 x2) (x1.trans x2.none_any) a2⟩
theorem e_calld (C : Cok X p G) {n : Nat} {f : D → List D → Int → Option (D × Int)} {q q2 : Pos} {v : Str} (hf : G.fn nm = some (.draw n f)) (hg : gn G nm = true) (hs : es.any isStar = false) (hi : ixOf G.N v = some i) (hv : (visB G.sc v && okN v) = true)
    (hρ : ρ[i]? = some (.dr x)) (ha : PA X es (tA p ρ c ds c1)) (hn : ds.length = n) (hd : f x ds c1 = some (d, c2)) : PE X (.Call (.Name nm q) (.Name v q2 :: es) [] pos) (tE p ρ c d c2) := by
  obtain ⟨w, fd, ps, k, h1, h2, h3, h4, h5⟩ := C.fn nm _ hf
  obtain ⟨g1, g2⟩ := gl_ok C hg
  have pa : PA X (.Name v q2 :: es) (tCons (tVar i) (tA p ρ c ds c1)) := pa_cons (pe_nm C hi hv) ha
  refine peM (pe_call h4 (h5.mono (Nat.le_succ _)) g1 h1 h2 h3 .nil pass0 pa (okN1 g2) rfl (any_star hs)) fun σ H Q ⟨S, R, k⟩ => ?_
  obtain ⟨g, sc, e1, e2, e3⟩ := R.slot i _ hρ
  refine ⟨_, e2, S, R, fun vs H1 S1 R1 x1 a1 => ?_⟩
  show spF p.Z (Fn.draw n f) ((V.ref g :: vs) ++ []) H1 Q E0
  rw [List.append_nil]
  obtain ⟨h6, h7, h8⟩ := R1.dr g sc e1
  have eg : p.g = some g := by show p.dg.map (·.1) = _; rw [e1]; rfl
  refine ⟨g, sc, S1, c1, x, vs, ds, d, c2, rfl, by rw [a1.len, hn], h6, h7, R1.sub, e3.sub x1.ss, a1, hd, fun v H2 S2 x2 h9 a2 => ?_⟩
  rw [← eg] at x2
  exact k v H2 S2 (R1.step x2 fun g' sc' e' => by rw [e1] at e'; cases e'; exact h9) (x1.trans x2) a2

/-! ### what is walked -/
/-- J walks the rows ds, as long as S stands -/
def Good (p : Par) (J : It) (S : Hp) (ds : List D) : Prop := ∃ (Gd : Hp → Prop) (Y : Nat → Hp → V → Hp → Prop), Walk J ds.length Gd Y ∧ (∀ H2 S2, Sub S S2 → Sub S2 H2 → Gd H2) ∧
  ∀ (i : Nat) (H2 S2 : Hp) (v : V) (H3 : Hp), i < ds.length → Sub S S2 → Sub S2 H2 → Y i H2 v H3 → ∃ S3 d, ds[i]? = some d ∧ At p.Z S3 v d ∧ Ext none H2 S2 H3 S3
def tI (p : Par) (ρ : List Slot) (c : Int) (ds : List D) (c1 : Int) : TI := fun σ H R' =>
  ∃ S, Rel p σ H S ρ c ∧ ∀ J H1 S1, Rel p σ H1 S1 ρ c1 → Ext p.g H S H1 S1 → Good p J S1 ds → R' J H1
theorem good_list {S : Hp} {w : Addr} {vs : List V} (h : SqL p.Z.K S w vs) (r : Ats p.Z S vs ds) : Good p (Itl p.Z.K w) S ds := by
  have e := r.len
  refine ⟨_, _, e ▸ walk_list (K := p.Z.K) (a := w) (xs := vs), fun H2 S2 s1 s2 => sub_l (s1.trans s2) h, fun i H2 S2 v H3 hi s1 s2 y => ?_⟩
  obtain ⟨rfl, y⟩ := y
  obtain ⟨d, h1, h2⟩ := r.getV y
  exact ⟨S2, d, h1, h2.sub s1, Ext.refl s2⟩
theorem good_tup {S : Hp} {w : Addr} {vs : List V} (h : SqT p.Z.K S w vs) (r : Ats p.Z S vs ds) : Good p (Itt p.Z.K w) S ds := by
  have e := r.len
  refine ⟨_, _, e ▸ walk_tup (K := p.Z.K) (a := w) (xs := vs), fun H2 S2 s1 s2 => sub_t (s1.trans s2) h, fun i H2 S2 v H3 hi s1 s2 y => ?_⟩
  obtain ⟨rfl, y⟩ := y
  obtain ⟨d, h1, h2⟩ := r.getV y
  exact ⟨S2, d, h1, h2.sub s1, Ext.refl s2⟩
theorem rng_len (lo : Int) (n : Nat) : (rng lo n).length = n := by unfold rng; rw [List.length_map, List.length_range]
theorem rng_get {lo : Int} {n i : Nat} (h : i < n) : (rng lo n)[i]? = some (.int (lo + (i : Int))) := by
  unfold rng
  rw [List.getElem?_map, List.getElem?_range h]
  rfl
theorem good_rng {S : Hp} {lo : Int} {n : Nat} : Good p (Itr lo n) S (rng lo n) := by
  refine ⟨_, _, (by rw [rng_len]; exact walk_range (lo := lo) (n := n)), fun _ _ _ _ => trivial, fun i H2 S2 v H3 hi s1 s2 y => ?_⟩
  obtain ⟨rfl, rfl⟩ := y
  rw [rng_len] at hi
  exact ⟨S2, _, rng_get hi, .int _, Ext.refl s2⟩
theorem rngC_len (lo k : Int) (n : Nat) : (rngC lo k n).length = n := by unfold rngC; rw [List.length_map, List.length_range]
theorem good_rngC {S : Hp} {lo k : Int} {n : Nat} : Good p (Itc lo k n) S (rngC lo k n) := by
  refine ⟨_, _, (by rw [rngC_len]; exact walk_rangeC (lo := lo) (c := k) (n := n)), fun _ _ _ _ => trivial, fun i H2 S2 v H3 hi s1 s2 y => ?_⟩
  obtain ⟨rfl, rfl⟩ := y
  rw [rngC_len] at hi
  refine ⟨S2, .int (lo + (i : Nat) * k), ?_, .int _, Ext.refl s2⟩
  unfold rngC
  rw [List.getElem?_map, List.getElem?_range hi]
  rfl
theorem good_str {S : Hp} {z : Str} : Good p (Its z) S (signs z) := by
  have hl : (signs z).length = z.cps.size := by unfold signs; rw [List.length_map, Array.length_toList]
  refine ⟨_, _, (by rw [hl]; exact walk_str (z := z)), fun _ _ _ _ => trivial, fun i H2 S2 v H3 hi s1 s2 y => ?_⟩
  obtain ⟨rfl, c, hc, rfl⟩ := y
  refine ⟨S2, .str ⟨#[c]⟩, ?_, .str _, Ext.refl s2⟩
  unfold signs
  rw [List.getElem?_map, Array.getElem?_toList, hc]
  rfl
theorem kyD_at {S : Hp} {Z : KC} : ∀ (k : Key), At Z S (kV k) (kyD k)
  | .inl i => .int i
  | .inr x => .str x
theorem zip_fst' {α β : Type} : ∀ {ks : List α} {vs : List β} {i : Nat} {kv : α × β}, (ks.zip vs)[i]? = some kv → ks[i]? = some kv.1 ∧ vs[i]? = some kv.2 := fun {ks vs i kv} h => by
  rw [List.getElem?_zip_eq_some] at h
  exact h
theorem good_keys {S : Hp} {w : Addr} {o : Obj} {ks : List Key} {vs : List V} (h : S w = some (.frz o (.dK (ks.zip vs)))) (hl : vs.length = ks.length) : Good p (Itk w o (ks.zip vs)) S (ks.map kyD) := by
  have hn : (ks.map kyD).length = (ks.zip vs).length := by rw [List.length_map, List.length_zip, hl, Nat.min_self]
  refine ⟨_, _, (by rw [hn]; exact walk_keys (d := w) (o := o) (kvs := ks.zip vs)), fun H2 S2 s1 s2 => s2 _ _ (s1 _ _ h), fun i H2 S2 v H3 hi s1 s2 y => ?_⟩
  obtain ⟨rfl, k, u, hk, rfl⟩ := y
  refine ⟨S2, kyD k, ?_, kyD_at k, Ext.refl s2⟩
  rw [List.getElem?_map, (zip_fst' hk).1]
  rfl
theorem zip_len : ∀ (xs ys : List D), (zipD xs ys).length = min xs.length ys.length
  | [], _ => by simp [zipD]
  | _ :: _, [] => by simp [zipD]
  | x :: xs, y :: ys => by
    unfold zipD
    rw [List.length_cons, List.length_cons, List.length_cons, zip_len xs ys]
    omega
theorem zip_get : ∀ {xs ys : List D} {i : Nat} {x y : D}, xs[i]? = some x → ys[i]? = some y → (zipD xs ys)[i]? = some (.tup [x, y])
  | [], _, _, _, _, h, _ => by simp at h
  | _ :: _, [], _, _, _, _, h => by simp at h
  | a :: xs, b :: ys, 0, x, y, h1, h2 => by
    simp at h1 h2
    subst h1; subst h2
    rfl
  | a :: xs, b :: ys, i + 1, x, y, h1, h2 => by
    unfold zipD
    simp only [List.getElem?_cons_succ] at h1 h2 ⊢
    exact zip_get h1 h2
theorem pair_new {S2 H2 H3 : Hp} {xs ys : List D} {vs us : List V} {i : Nat} {v : V} (s2 : Sub S2 H2) (r1 : Ats p.Z S2 vs xs) (r2 : Ats p.Z S2 us ys) (y : YPair (fun i => vs[i]?) (fun i => us[i]?) i H2 v H3) :
    ∃ S3 d, (zipD xs ys)[i]? = some d ∧ At p.Z S3 v d ∧ Ext none H2 S2 H3 S3 := by
  obtain ⟨T, v1, v2, rfl, hT, rfl, g1, g2⟩ := y
  obtain ⟨d1, k1, m1⟩ := r1.getV g1
  obtain ⟨d2, k2, m2⟩ := r2.getV g2
  have x := Ext.new (g := none) s2 (o := .tup [v1, v2]) hT
  exact ⟨_, _, zip_get k1 k2, .tup (SqT.of upd_same) (.cons (m1.sub x.ss) (.cons (m2.sub x.ss) .nil)), x⟩
theorem kyD_ats {S : Hp} {Z : KC} : ∀ (ks : List Key), Ats Z S (ks.map kV) (ks.map kyD)
  | [] => .nil
  | k :: ks => .cons (kyD_at k) (kyD_ats ks)
theorem good_items {S : Hp} {w : Addr} {o : Obj} {ks : List Key} {vs : List V} {l : List D} (h : S w = some (.frz o (.dK (ks.zip vs)))) (hl : vs.length = ks.length) (r : Ats p.Z S vs l) : Good p (Iti w o (ks.zip vs)) S (zipD (ks.map kyD) l) := by
  have hn : (zipD (ks.map kyD) l).length = (ks.zip vs).length := by rw [zip_len, List.length_map, List.length_zip, hl, Nat.min_self, ← r.len, hl, Nat.min_self]
  refine ⟨_, _, (by rw [hn]; exact walk_items (d := w) (o := o) (kvs := ks.zip vs)), fun H2 S2 s1 s2 => s2 _ _ (s1 _ _ h), fun i H2 S2 v H3 hi s1 s2 y => ?_⟩
  refine pair_new (vs := ks.map kV) (us := vs) s2 (kyD_ats ks) (r.sub s1) ?_
  obtain ⟨T, v1, v2, e1, e2, e3, g1, g2⟩ := y
  dsimp only at g1 g2
  cases e : (ks.zip vs)[i]? with
  | none => rw [e] at g1; cases g1
  | some kv =>
    rw [e] at g1 g2
    cases g1
    cases g2
    refine ⟨T, _, _, e1, e2, e3, ?_, (zip_fst' e).2⟩
    show (ks.map kV)[i]? = _
    rw [List.getElem?_map, (zip_fst' e).1]
    rfl
theorem good_zipL {S : Hp} {w w2 : Addr} {vs us : List V} {xs ys : List D} (h : SqL p.Z.K S w vs) (h2 : SqL p.Z.K S w2 us) (r : Ats p.Z S vs xs) (r2 : Ats p.Z S us ys) : Good p (Itz p.Z.K w w2) S (zipD xs ys) := by
  refine ⟨_, _, walk_zip (K := p.Z.K) (a := w) (b := w2) (xs := vs) (ys := us) (by rw [zip_len, r.len, r2.len]), fun H2 S2 s1 s2 => ⟨sub_l (s1.trans s2) h, sub_l (s1.trans s2) h2⟩, fun i H2 S2 v H3 hi s1 s2 y => ?_⟩
  exact pair_new s2 (r.sub s1) (r2.sub s1) y
theorem walk_zipT {K : PySem.W.Frag} {a b : Addr} {xs ys : List V} {n : Nat} (hn : n = min xs.length ys.length) : Walk (RZ.ItzT K a b) n (fun H => SqT K H a xs ∧ SqT K H b ys) (YPair (fun i => xs[i]?) (fun i => ys[i]?)) := by
  subst hn
  refine ⟨fun i _ hi q => ?_, fun _ q => ⟨xs, ys, q.1, q.2, by omega⟩, fun i H v H' _ q y => ?_⟩
  · have h1 : i < xs.length := by omega
    have h2 : i < ys.length := by omega
    exact ⟨xs, ys, xs[i], ys[i], q.1, q.2, by simp [h1], by simp [h2]⟩
  · obtain ⟨T, x, z, h1, h2, h3, h4, h5⟩ := y
    exact ⟨T, x, z, h1, h2, h3, h4 xs q.1, h5 ys q.2⟩
theorem good_zipT {S : Hp} {w w2 : Addr} {vs us : List V} {xs ys : List D} (h : SqT p.Z.K S w vs) (h2 : SqT p.Z.K S w2 us) (r : Ats p.Z S vs xs) (r2 : Ats p.Z S us ys) : Good p (RZ.ItzT p.Z.K w w2) S (zipD xs ys) := by
  refine ⟨_, _, walk_zipT (K := p.Z.K) (a := w) (b := w2) (xs := vs) (ys := us) (by rw [zip_len, r.len, r2.len]), fun H2 S2 s1 s2 => ⟨sub_t (s1.trans s2) h, sub_t (s1.trans s2) h2⟩, fun i H2 S2 v H3 hi s1 s2 y => ?_⟩
  exact pair_new s2 (r.sub s1) (r2.sub s1) y
theorem i_seq (C : Cok X p G) {tg : Expr} {isL : Bool} (h : PE X e (tE p ρ c d c1)) (hd : seqOf d = some (isL, ds)) : PI X tg e (tI p ρ c ds c1) := by
  cases d <;> cases hd
  · refine piM (pi_tup h) fun σ H R' ⟨S, R, k⟩ => ⟨S, R, fun v H1 S1 R1 x1 a1 => ?_⟩
    obtain ⟨w, vs, rfl, h1, r1⟩ := a1.tup_inv
    rw [C.K]
    exact ⟨w, rfl, ⟨vs, sub_t R1.sub h1⟩, k _ H1 S1 R1 x1 (good_tup h1 r1)⟩
  · refine piM (pi_list h) fun σ H R' ⟨S, R, k⟩ => ⟨S, R, fun v H1 S1 R1 x1 a1 => ?_⟩
    obtain ⟨w, vs, rfl, h1, r1⟩ := a1.lst_inv
    rw [C.K]
    exact ⟨w, rfl, ⟨vs, sub_l R1.sub h1⟩, k _ H1 S1 R1 x1 (good_list h1 r1)⟩
theorem base_plain {f : Str} {env : Env} (h : plainO e = true) : attributeBase e f env (eval e env) = eval e env := by
  cases e <;> first | rfl | cases h
theorem i_it (C : Cok X p G) {tg : Expr} (h : PE X e (tE p ρ c d c1)) (hd : itOf d = some ds) : PI X tg e (tI p ρ c ds c1) := by
  cases d with
  | str z =>
    cases hd
    refine piM (pi_str h) fun σ H R' ⟨S, R, k⟩ => ⟨S, R, fun v H1 S1 R1 x1 a1 => ?_⟩
    exact ⟨z, a1.scal rfl, k _ H1 S1 R1 x1 good_str⟩
  | tpx ys =>
    cases hd
    refine piM (pi_tup h) fun σ H R' ⟨S, R, k⟩ => ⟨S, R, fun v H1 S1 R1 x1 a1 => ?_⟩
    obtain ⟨w, vs, rfl, h1, r1⟩ := a1.wk.tup_inv
    rw [C.K]
    exact ⟨w, rfl, ⟨vs, sub_t R1.sub h1⟩, k _ H1 S1 R1 x1 (good_tup h1 r1)⟩
  | dic ks l =>
    have hd' : (if l.length = ks.length then some (ks.map kyD) else none) = some ds := hd
    split at hd' <;> cases hd'
    refine piM (pi_keys h) fun σ H R' ⟨S, R, k⟩ => ⟨S, R, fun v H1 S1 R1 x1 a1 => ?_⟩
    cases a1 with
    | dic h1 h2 h3 =>
      obtain ⟨o, h1⟩ := h1
      exact ⟨_, o, rfl, .inl ⟨_, R1.sub _ _ h1, k _ H1 S1 R1 x1 (good_keys h1 h2)⟩⟩
  | _ => cases hd
theorem i_items (C : Cok X p G) {elts : List Expr} {kk : Nat} {tpos ap cp : Pos} {ks : List Key} {l : List D} (hp : attributeBase e "items" X.env (eval e X.env) = eval e X.env) (hline : (ap.endLine == cp.line) = true) (h : PE X e (tE p ρ c (.dic ks l) c1)) : PI X (.Tuple elts kk tpos) (.Call (.Attribute e "items" ap) [] [] cp) (tI p ρ c (zipD (ks.map kyD) l) c1) := by
  refine piM (pi_items h hp hline) fun σ H R' ⟨S, R, k⟩ => ⟨S, R, fun v H1 S1 R1 x1 a1 => ?_⟩
  cases a1 with
  | dic h1 h2 h3 =>
    obtain ⟨o, h1⟩ := h1
    exact ⟨_, o, _, rfl, R1.sub _ _ h1, k _ H1 S1 R1 x1 (good_items h1 h2 h3)⟩
theorem i_rng3 (C : Cok X p G) {tg a3 : Expr} {q : Pos} {i j s : Int} (hn : nm = "range") (hg : gn G nm = true) (hm : X.mg nm = none) (hs : isStar a = false) (hs2 : isStar b = false) (hs3 : isStar a3 = false) {c4 : Int} (h : PE X a (tE p ρ c (.int i) c1)) (h2 : PE X b (tE p ρ c1 (.int j) c2)) (h3 : PE X a3 (tE p ρ c2 (.int s) c4))
    (hj : s ≠ 0 ∧ s.natAbs < 1073741824 ∧ Builtin.Range.small i j s = true ∧ 0 ≤ Builtin.Range.rangeSize i j s) : PI X tg (.Call (.Name nm q) [a, b, a3] [] pos) (tI p ρ c (rngC i s (Builtin.Range.rangeSize i j s).toNat) c4) := by
  obtain ⟨g1, g2⟩ := gl_ok C hg
  subst hn
  refine piM (pi_range3 g1 hm (a_cons hs h (a_cons hs2 h2 (a_cons hs3 h3 a_nil))) (by rw [star_cons hs]) (by rw [star_cons hs2, star_cons hs3]; rfl)) fun σ H R' ⟨S, R, k⟩ => ⟨S, R, fun vs H1 S1 R1 x1 a1 => ?_⟩
  cases a1 with
  | cons b1 r1 =>
    obtain ⟨v2, v3, rfl, b2, b3⟩ := r1.two
    exact ⟨i, j, s, _, by rw [b1.int_inv, b2.int_inv, b3.int_inv], ⟨hj.1, hj.2.1, hj.2.2.1, (Int.toNat_of_nonneg hj.2.2.2).symm⟩, k _ H1 S1 R1 x1 good_rngC⟩
theorem rng_ats {S : Hp} {Z : KC} {n : Nat} : Ats Z S ((List.range n).map fun (i : Nat) => V.int (0 + (i : Int))) (rng 0 n) := by
  unfold rng
  generalize List.range n = l
  induction l with
  | nil => exact .nil
  | cons i l ih => exact .cons (.int _) ih
theorem enm_new {S2 H2 H3 : Hp} {xs : List D} {vs : List V} {i : Nat} {v : V} (hi : i < xs.length) (s2 : Sub S2 H2) (r1 : Ats p.Z S2 vs xs) (y : YPair (fun i => some (.int (i : Nat))) (fun i => vs[i]?) i H2 v H3) :
    ∃ S3 d, (zipD (rng 0 xs.length) xs)[i]? = some d ∧ At p.Z S3 v d ∧ Ext none H2 S2 H3 S3 := by
  refine pair_new (vs := (List.range xs.length).map fun (i : Nat) => V.int (0 + (i : Int))) s2 rng_ats r1 ?_
  obtain ⟨T, v1, v2, e1, e2, e3, g1, g2⟩ := y
  cases g1
  refine ⟨T, _, v2, e1, e2, e3, ?_, g2⟩
  show ((List.range xs.length).map fun (i : Nat) => V.int (0 + (i : Int)))[i]? = _
  rw [List.getElem?_map, List.getElem?_range hi]
  show some (V.int (0 + (i : Int))) = _
  rw [Int.zero_add]
theorem zip_rng_len (xs : List D) : (zipD (rng 0 xs.length) xs).length = xs.length := by rw [zip_len, rng_len, Nat.min_self]
theorem i_enm (C : Cok X p G) {elts : List Expr} {kk : Nat} {tpos q : Pos} {isL : Bool} (hg : gn G "enumerate" = true) (hm : X.mg "enumerate" = none) (hs : isStar a = false) (h : PE X a (tE p ρ c d c1)) (hd : seqOf d = some (isL, ds)) : PI X (.Tuple elts kk tpos) (.Call (.Name "enumerate" q) [a] [] pos) (tI p ρ c (zipD (rng 0 ds.length) ds) c1) := by
  obtain ⟨g1, g2⟩ := gl_ok C hg
  have hst : starEach [a] X.env = [(false, eval a X.env)] := by rw [star_cons hs]; rfl
  cases d <;> cases hd
  · refine piM (pi_enumT g1 hm (a_cons hs h a_nil) hst) fun σ H R' ⟨S, R, k⟩ => ⟨S, R, fun vs H1 S1 R1 x1 a1 => ?_⟩
    obtain ⟨v, rfl, h1⟩ := a1.one
    obtain ⟨w, us, rfl, k1, r1⟩ := h1.tup_inv
    rw [C.K]
    refine ⟨w, us, rfl, sub_t R1.sub k1, k _ H1 S1 R1 x1 ⟨_, _, (by rw [zip_rng_len, ← r1.len]; exact walk_enumT (K := p.Z.K) (a := w) (xs := us)), fun H2 S2 s1 s2 => sub_t (s1.trans s2) k1, fun i H2 S2 v H3 hi s1 s2 y => ?_⟩⟩
    rw [zip_rng_len] at hi
    exact enm_new hi s2 (r1.sub s1) y
  · refine piM (pi_enum g1 hm (a_cons hs h a_nil) hst) fun σ H R' ⟨S, R, k⟩ => ⟨S, R, fun vs H1 S1 R1 x1 a1 => ?_⟩
    obtain ⟨v, rfl, h1⟩ := a1.one
    obtain ⟨w, us, rfl, k1, r1⟩ := h1.lst_inv
    rw [C.K]
    refine ⟨w, us, rfl, sub_l R1.sub k1, k _ H1 S1 R1 x1 ⟨_, _, (by rw [zip_rng_len, ← r1.len]; exact walk_enum (K := p.Z.K) (a := w) (xs := us)), fun H2 S2 s1 s2 => sub_l (s1.trans s2) k1, fun i H2 S2 v H3 hi s1 s2 y => ?_⟩⟩
    rw [zip_rng_len] at hi
    exact enm_new hi s2 (r1.sub s1) y
theorem i_rng1 (C : Cok X p G) {tg : Expr} {q : Pos} {j : Int} (hn : nm = "range") (hg : gn G nm = true) (hm : X.mg nm = none) (hs : isStar a = false) (h : PE X a (tE p ρ c (.int j) c1)) (hj : -(2 ^ 62) ≤ j ∧ j < 2 ^ 62) : PI X tg (.Call (.Name nm q) [a] [] pos) (tI p ρ c (rng 0 j.toNat) c1) := by
  obtain ⟨g1, g2⟩ := gl_ok C hg
  subst hn
  refine piM (pi_range1 g1 hm (a_cons hs h a_nil) (star_cons hs)) fun σ H R' ⟨S, R, k⟩ => ⟨S, R, fun vs H1 S1 R1 x1 a1 => ?_⟩
  obtain ⟨v, rfl, h1⟩ := a1.one
  exact ⟨j, by rw [h1.int_inv], hj.1, hj.2, k _ H1 S1 R1 x1 good_rng⟩
theorem i_rng2 (C : Cok X p G) {tg : Expr} {q : Pos} {j l : Int} (hn : nm = "range") (hg : gn G nm = true) (hm : X.mg nm = none) (hs : isStar a = false) (hs2 : isStar b = false) (h : PE X a (tE p ρ c (.int j) c1)) (h2 : PE X b (tE p ρ c1 (.int l) c2))
    (hj : -(2 ^ 62) ≤ j ∧ j < 2 ^ 62 ∧ -(2 ^ 62) ≤ l ∧ l < 2 ^ 62) : PI X tg (.Call (.Name nm q) [a, b] [] pos) (tI p ρ c (rng j (l - j).toNat) c2) := by
  obtain ⟨g1, g2⟩ := gl_ok C hg
  subst hn
  refine piM (pi_range2 g1 hm (a_cons hs h (a_cons hs2 h2 a_nil)) (by rw [star_cons hs, star_cons hs2]; rfl) (by rw [star_cons hs2]; rfl)) fun σ H R' ⟨S, R, k⟩ => ⟨S, R, fun vs H1 S1 R1 x1 a1 => ?_⟩
  obtain ⟨v, u, rfl, h1, h2⟩ := a1.two
  exact ⟨j, l, by rw [h1.int_inv, h2.int_inv], hj, k _ H1 S1 R1 x1 good_rng⟩
theorem i_zip (C : Cok X p G) {elts : List Expr} {kk : Nat} {tpos q : Pos} {xs ys : List D} {isL : Bool} (hn : nm = "zip") (hg : gn G nm = true) (hm : X.mg nm = none) (hs : isStar a = false) (hs2 : isStar b = false) (h : PE X a (tE p ρ c x c1)) (h2 : PE X b (tE p ρ c1 y c2))
    (hx : seqOf x = some (isL, xs)) (hy : seqOf y = some (isL, ys)) : PI X (.Tuple elts kk tpos) (.Call (.Name nm q) [a, b] [] pos) (tI p ρ c (zipD xs ys) c2) := by
  obtain ⟨g1, g2⟩ := gl_ok C hg
  subst hn
  refine piM (RZ.pi_zipA g1 hm (a_cons hs h (a_cons hs2 h2 a_nil)) (star_cons hs) (by rw [star_cons hs2]; rfl)) fun σ H R' ⟨S, R, k⟩ => ⟨S, R, fun vs H1 S1 R1 x1 a1 => ?_⟩
  obtain ⟨v, u, rfl, h1, h2⟩ := a1.two
  rw [C.K]
  cases x <;> cases hx
  · cases y <;> cases hy
    obtain ⟨w, vs, rfl, k1, r1⟩ := h1.tup_inv
    obtain ⟨w2, us, rfl, k2, r2⟩ := h2.tup_inv
    exact ⟨w, w2, vs, us, rfl, .inr ⟨sub_t R1.sub k1, sub_t R1.sub k2, k _ H1 S1 R1 x1 (good_zipT k1 k2 r1 r2)⟩⟩
  · cases y <;> cases hy
    obtain ⟨w, vs, rfl, k1, r1⟩ := h1.lst_inv
    obtain ⟨w2, us, rfl, k2, r2⟩ := h2.lst_inv
    exact ⟨w, w2, vs, us, rfl, .inl ⟨sub_l R1.sub k1, sub_l R1.sub k2, k _ H1 S1 R1 x1 (good_zipL k1 k2 r1 r2)⟩⟩

/-! ### targets -/
/-- the slots but those of a list are as they were -/
def SameBut (is : List Nat) (σ σ' : L2.St) : Prop := σ'.length = σ.length ∧ ∀ i, i ∉ is → σ'[i]? = σ[i]?
theorem SameBut.refl (is : List Nat) (σ : L2.St) : SameBut is σ σ := ⟨rfl, fun _ _ => rfl⟩
theorem SameBut.trans {is js : List Nat} {σ σ1 σ2 : L2.St} (a : SameBut is σ σ1) (b : SameBut js σ1 σ2) : SameBut (is ++ js) σ σ2 :=
  ⟨b.1.trans a.1, fun i h => by
    rw [List.mem_append, not_or] at h
    exact (b.2 i h.2).trans (a.2 i h.1)⟩
/-- a slot is given a datum -/
theorem Rel.put {σ : L2.St} {H S : Hp} (R : Rel p σ H S ρ c) {v : V} (hi : i < ρ.length) (a : At p.Z S v d) : Rel p (σ.set i (some v)) H S (ρ.set i (.sh d)) c where
  ext := R.ext
  slot := fun j sl e => by
    by_cases hj : i = j
    · subst hj
      rw [List.getElem?_set_self hi] at e
      cases e
      exact ⟨v, by rw [List.getElem?_set_self (by rw [R.len]; exact hi)], a⟩
    · rw [List.getElem?_set_ne hj] at e
      have h := R.slot j sl e
      have es : (σ.set i (some v))[j]? = σ[j]? := List.getElem?_set_ne hj
      cases sl with
      | no => trivial
      | sh d => obtain ⟨u, h1, h2⟩ := h; exact ⟨u, es.trans h1, h2⟩
      | ow ds => obtain ⟨u, vs, h1, h2⟩ := h; exact ⟨u, vs, es.trans h1, h2⟩
      | st ns => obtain ⟨u, h1, h2⟩ := h; exact ⟨u, es.trans h1, h2⟩
      | ob k fs ds => obtain ⟨u, dx, vs, h0, h1, h2⟩ := h; exact ⟨u, dx, vs, h0, es.trans h1, h2⟩
      | od ks ds => obtain ⟨u, vs, h1, h2⟩ := h; exact ⟨u, vs, es.trans h1, h2⟩
      | dr scr => obtain ⟨g, sc, h1, h2, h3⟩ := h; exact ⟨g, sc, h1, es.trans h2, h3⟩
      | pin a => exact es.trans h
      | oda a ks ds => obtain ⟨vs, h1, h2⟩ := h; exact ⟨vs, es.trans h1, h2⟩
  apart := fun j l sj sl w e1 e2 o1 o2 f1 f2 => by
    have n1 : i ≠ j := fun h => by subst h; rw [List.getElem?_set_self hi] at e1; cases e1; cases o1
    have n2 : i ≠ l := fun h => by subst h; rw [List.getElem?_set_self hi] at e2; cases e2; cases o2
    rw [List.getElem?_set_ne n1] at e1 f1
    rw [List.getElem?_set_ne n2] at e2 f2
    exact R.apart j l sj sl w e1 e2 o1 o2 f1 f2
  dr := R.dr
  len := by rw [List.length_set, List.length_set]; exact R.len
def tG (p : Par) (ρ : List Slot) (d : D) (ρ1 : List Slot) (is : List Nat) : TG := fun v σ H Q =>
  ∃ S c, Rel p σ H S ρ c ∧ At p.Z S v d ∧ ∀ σ1, Rel p σ1 H S ρ1 c → SameBut is σ σ1 → Q σ1 H
def tGs (p : Par) (ρ : List Slot) (ds : List D) (ρ1 : List Slot) (is : List Nat) : TGs := fun vs σ H Q =>
  ∃ S c, Rel p σ H S ρ c ∧ Ats p.Z S vs ds ∧ ∀ σ1, Rel p σ1 H S ρ1 c → SameBut is σ σ1 → Q σ1 H
theorem put_len {ρ ρ1 : List Slot} {sl : Slot} (h : putS ρ i sl = some ρ1) : i < ρ.length ∧ ρ1 = ρ.set i sl := by
  unfold putS at h
  split at h <;> cases h
  exact ⟨by assumption, rfl⟩
theorem locG_ok (C : Cok X p G) (h : locG G nm = true) : L2.Loc X.env.scope nm ∧ (X.fn nm = true ∨ X.env.scope.names.lookup nm = some .local) := by
  unfold locG at h
  simp only [Bool.or_eq_true, Bool.and_eq_true, beq_iff_eq] at h
  rw [C.sc]
  rcases h with h | ⟨h1, h2⟩
  · exact ⟨.inl h, .inr h⟩
  · exact ⟨.inr h1, .inl (C.cell h2 nm h1)⟩
theorem g_nm (C : Cok X p G) {ρ1 : List Slot} (hi : ixOf G.N nm = some i) (hl : locG G nm = true) (hb : bindG (.nm i) d ρ = some ρ1) : PG X (.Name nm pos) (tG p ρ d ρ1 [i]) := by
  obtain ⟨h1, rfl⟩ := put_len (show putS ρ i (.sh d) = some ρ1 from hb)
  obtain ⟨hx, hf⟩ := locG_ok C hl
  refine pgM (pg_name C.nd (by rw [C.N]; exact ixOf_ok hi) hx hf) fun v σ H Q ⟨S, c, R, a, k⟩ => k _ (R.put h1 a) ⟨by rw [List.length_set], fun j hj => ?_⟩
  have : i ≠ j := fun e => hj (by rw [e]; exact List.mem_cons_self)
  exact List.getElem?_set_ne this
theorem gs_nil : PGs X [] (tGs p ρ [] ρ []) := pgsM pgs_nil fun vs σ H Q ⟨S, c, R, a, k⟩ => by
  cases a
  exact ⟨rfl, k σ R (.refl _ _)⟩
theorem asg_cons {e : Expr} {es : List Expr} {env : Env} (h : isStar e = false) : assignEach (e :: es) env = (false, assign e env) :: assignEach es env := by
  cases e <;> first | rfl | cases h
theorem gs_cons {ρ1 ρ2 : List Slot} {is js : List Nat} (hs : isStar a = false) (h1 : PG X a (tG p ρ d ρ1 is)) (h2 : PGs X es (tGs p ρ1 ds ρ2 js)) : PGs X (a :: es) (tGs p ρ (d :: ds) ρ2 (is ++ js)) :=
  pgsM (pgs_cons h1 h2 (by rw [asg_cons hs]; rfl)) fun vs σ H Q ⟨S, c, R, a, k⟩ => by
    cases a with
    | cons a1 ar => exact ⟨_, _, rfl, S, c, R, a1, fun σ1 R1 b1 => ⟨S, c, R1, ar, fun σ2 R2 b2 => k σ2 R2 (b1.trans b2)⟩⟩
theorem asg_len : ∀ {es : List Expr} {env : Env}, es.any isStar = false → (assignEach es env).length = es.length ∧ (assignEach es env).findIdx? (·.1) = none
  | [], _, _ => ⟨rfl, rfl⟩
  | e :: es, env, h => by
    rw [List.any_cons, Bool.or_eq_false_iff] at h
    obtain ⟨h1, h2⟩ := asg_len (env := env) h.2
    rw [asg_cons h.1]
    exact ⟨by rw [List.length_cons, List.length_cons, h1], by rw [List.findIdx?_cons]; simp [h2]⟩
theorem g_tp (C : Cok X p G) {k : Nat} {ρ1 : List Slot} {is : List Nat} (hs : es.any isStar = false) (hl : es.length = ds.length) (h : PGs X es (tGs p ρ ds ρ1 is)) : PG X (.Tuple es k pos) (tG p ρ (.tup ds) ρ1 is) := by
  obtain ⟨h1, h2⟩ := asg_len (env := X.env) hs
  refine pgM (pg_tup C.calm h h1 h2) fun v σ H Q ⟨S, c, R, a, q⟩ => ?_
  obtain ⟨w, vs, rfl, k1, r1⟩ := a.tup_inv
  rw [C.K]
  exact ⟨w, vs, rfl, sub_t R.sub k1, by rw [r1.len, hl], S, c, R, r1, q⟩

/-! ### comprehensions -/
theorem ownC_ix {N : List Str} {scope : Scope} : ∀ y ∈ ownC N scope, N[y.2]? = some y.1 := by
  intro y hy
  unfold ownC at hy
  obtain ⟨z, hz, e⟩ := List.mem_filterMap.mp hy
  split at e
  · cases e1 : ixOf N z.1 with
    | none => rw [e1] at e; cases e
    | some j => rw [e1] at e; cases e; exact ixOf_ok e1
  · cases e
theorem ixOf_none : ∀ {N : List Str} {x : Str}, ixOf N x = none → x ∉ N
  | [], _, _ => by simp
  | y :: r, x, h => by
    unfold ixOf at h
    split at h
    · cases h
    · rename_i ne
      cases e : ixOf r x with
      | none => rw [List.mem_cons, not_or]; exact ⟨fun q => ne q.symm, ixOf_none e⟩
      | some j => rw [e] at h; cases h
theorem blk_ok (C : Cok X p G) {scope : Scope} (h : blkB G.N G.sc scope = true) : BlkOk X.N X.env.scope scope (ownC G.N scope) := by
  unfold blkB at h
  simp only [Bool.and_eq_true, List.all_eq_true] at h
  obtain ⟨⟨h1, h2⟩, h3⟩ := h
  refine ⟨by simpa using h1, fun y hy => by simpa using h2 y hy, fun y hy => by rw [C.N]; exact ownC_ix y hy, fun y hy e => ?_, fun y hy e => ?_⟩
  · rw [C.sc]
    have q := h3 y hy
    rw [e] at q
    simpa using q
  · cases e1 : ixOf G.N y.1 with
    | none => exact .inr (by rw [C.N]; exact ixOf_none e1)
    | some j =>
      refine .inl (List.mem_map.mpr ⟨(y.1, j), ?_, rfl⟩)
      unfold ownC
      refine List.mem_filterMap.mpr ⟨y, hy, ?_⟩
      have c1 : (y.2 == NameKind.local || y.2 == NameKind.cell) = true := by
        rcases e with e | e <;> rw [e] <;> rfl
      rw [if_pos c1, e1]
      rfl
theorem Cok.blk (C : Cok X p G) {scope : Scope} (h : blkB G.N G.sc scope = true) (s : Shared) (H : Hp) (w : Addr) (cl : List (Str × Addr)) (fp : List Addr) :
    Cok (X.blk s H scope (compEnvC scope cl w X.env) fp) p { G with sc := relS scope G.sc, top := false } where
  K := C.K
  N := C.N
  nd := C.nd
  calm := C.calm
  sc := by rw [← C.sc]; rfl
  cell := fun h => by cases h
  fn := C.fn
  cn := C.cn
  bl := C.bl
  fl := C.fl
  mt := C.mt
  cl := C.cl
  kc := C.kc
  room := C.room
  pass := PassesOwn.never
end
end Rf

/-! Rf, part G: readings for all runs at once; comprehensions; statements; for. -/
namespace Rf
open PySem PySem.Spec L2

/-! ### readings for all runs at once -/
def uE (p : Par) (i : IE) : TE := fun σ H Q => ∃ ρ c d c1, i.run ρ c = some (d, c1) ∧ tE p ρ c d c1 σ H Q
def uT (p : Par) (i : IT) : TT := fun σ H Q => ∃ ρ c b c1, i.run ρ c = some (b, c1) ∧ tT p ρ c b c1 σ H Q
def uG (p : Par) (i : IG) : TG := fun v σ H Q => ∃ ρ d ρ1, bindG i d ρ = some ρ1 ∧ tG p ρ d ρ1 (gix i) v σ H Q
theorem pe_of {X : Cx} {p : Par} {e : Expr} {i : IE} {ρ : List Slot} {c c1 : Int} {d : D} (h : PE X e (uE p i)) (r : i.run ρ c = some (d, c1)) : PE X e (tE p ρ c d c1) := peM h fun σ H Q q => ⟨ρ, c, d, c1, r, q⟩
theorem pt_of {X : Cx} {p : Par} {e : Expr} {i : IT} {ρ : List Slot} {c c1 : Int} {b : Bool} (h : PT X e (uT p i)) (r : i.run ρ c = some (b, c1)) : PT X e (tT p ρ c b c1) := ptM h fun σ H Q q => ⟨ρ, c, b, c1, r, q⟩
theorem pg_of {X : Cx} {p : Par} {e : Expr} {i : IG} {ρ ρ1 : List Slot} {d : D} (h : PG X e (uG p i)) (r : bindG i d ρ = some ρ1) : PG X e (tG p ρ d ρ1 (gix i)) := pgM h fun v σ H Q q => ⟨ρ, d, ρ1, r, q⟩
theorem pe_all {X : Cx} {p : Par} {e : Expr} {i : IE} (h : ∀ ρ c d c1, i.run ρ c = some (d, c1) → PE X e (tE p ρ c d c1)) : PE X e (uE p i) :=
  ⟨fun pins s σ H Q I ⟨ρ, c, d, c1, r, q⟩ => (h ρ c d c1 r).run pins s σ H Q I q⟩
theorem pt_all {X : Cx} {p : Par} {e : Expr} {i : IT} (h : ∀ ρ c b c1, i.run ρ c = some (b, c1) → PT X e (tT p ρ c b c1)) : PT X e (uT p i) :=
  ⟨fun pins s σ H Q I ⟨ρ, c, d, c1, r, q⟩ => (h ρ c d c1 r).run pins s σ H Q I q⟩
theorem pg_all {X : Cx} {p : Par} {e : Expr} {i : IG} (h : ∀ ρ d ρ1, bindG i d ρ = some ρ1 → PG X e (tG p ρ d ρ1 (gix i))) : PG X e (uG p i) :=
  ⟨fun pins s σ H v u Q I rv ⟨ρ, d, ρ1, r, q⟩ => (h ρ d ρ1 r).run pins s σ H v u Q I rv q⟩

section
variable {X : Cx} {p : Par} {G : Gam} {ρ : List Slot} {c c1 c2 c3 : Int} {x y z d : D} {a b e : Expr} {es : List Expr} {pos : Pos} {r : R2} {nm : Str} {i : Nat} {ds : List D}

/-! ### forgetting slots -/
theorem Rel.clr {σ : L2.St} {H S : Hp} (R : Rel p σ H S ρ c) (i : Nat) (x : Option V) : Rel p (σ.set i x) H S (ρ.set i .no) c where
  ext := R.ext
  slot := fun j sl e => by
    by_cases hj : i = j
    · subst hj
      by_cases hi : i < ρ.length
      · rw [List.getElem?_set_self hi] at e
        cases e
        trivial
      · rw [List.getElem?_eq_none (by rw [List.length_set]; omega)] at e
        cases e
    · rw [List.getElem?_set_ne hj] at e
      have h := R.slot j sl e
      have es : (σ.set i x)[j]? = σ[j]? := List.getElem?_set_ne hj
      cases sl with
      | no => trivial
      | sh d => obtain ⟨u, h1, h2⟩ := h; exact ⟨u, es.trans h1, h2⟩
      | ow ds => obtain ⟨u, vs, h1, h2⟩ := h; exact ⟨u, vs, es.trans h1, h2⟩
      | st ns => obtain ⟨u, h1, h2⟩ := h; exact ⟨u, es.trans h1, h2⟩
      | ob k fs ds => obtain ⟨u, dx, vs, h0, h1, h2⟩ := h; exact ⟨u, dx, vs, h0, es.trans h1, h2⟩
      | od ks ds => obtain ⟨u, vs, h1, h2⟩ := h; exact ⟨u, vs, es.trans h1, h2⟩
      | dr scr => obtain ⟨g, sc, h1, h2, h3⟩ := h; exact ⟨g, sc, h1, es.trans h2, h3⟩
      | pin a => exact es.trans h
      | oda a ks ds => obtain ⟨vs, h1, h2⟩ := h; exact ⟨vs, es.trans h1, h2⟩
  apart := fun j l sj sl w e1 e2 o1 o2 f1 f2 => by
    have n1 : i ≠ j := fun h => by
      subst h
      by_cases hi : i < ρ.length
      · rw [List.getElem?_set_self hi] at e1; cases e1; cases o1
      · rw [List.getElem?_eq_none (by rw [List.length_set]; omega)] at e1; cases e1
    have n2 : i ≠ l := fun h => by
      subst h
      by_cases hi : i < ρ.length
      · rw [List.getElem?_set_self hi] at e2; cases e2; cases o2
      · rw [List.getElem?_eq_none (by rw [List.length_set]; omega)] at e2; cases e2
    rw [List.getElem?_set_ne n1] at e1 f1
    rw [List.getElem?_set_ne n2] at e2 f2
    exact R.apart j l sj sl w e1 e2 o1 o2 f1 f2
  dr := R.dr
  len := by rw [List.length_set, List.length_set]; exact R.len
theorem Rel.wipe {σ : L2.St} {H S : Hp} (R : Rel p σ H S ρ c) : ∀ vs : List Nat, Rel p (L2.wipe σ vs) H S (wipeS ρ vs) c
  | [] => R
  | v :: vs => (R.wipe vs).clr v none
theorem wipe_get (σ : L2.St) : ∀ (vs : List Nat) (i : Nat), (L2.wipe σ vs)[i]? = if i ∈ vs then (if i < σ.length then some none else none) else σ[i]?
  | [], i => by simp [L2.wipe]
  | v :: vs, i => by
    have ih := wipe_get σ vs i
    unfold L2.wipe
    by_cases hv : v = i
    · subst hv
      rw [if_pos List.mem_cons_self]
      by_cases hl : v < σ.length
      · rw [List.getElem?_set_self (by rw [wipe_length]; exact hl), if_pos hl]
      · rw [List.getElem?_eq_none (by rw [List.length_set, wipe_length]; omega), if_neg hl]
    · rw [List.getElem?_set_ne hv, ih]
      have e : (i ∈ v :: vs) ↔ i ∈ vs := by
        rw [List.mem_cons]
        exact ⟨fun h => h.resolve_left (fun q => hv q.symm), .inr⟩
      simp only [e]
theorem wipe_back {σ σ2 : L2.St} {vs is : List Nat} (h : SameBut is (L2.wipe σ vs) σ2) (hs : ∀ j ∈ is, j ∈ vs) : L2.wipe σ2 vs = L2.wipe σ vs := by
  apply List.ext_getElem?
  intro i
  rw [wipe_get, wipe_get]
  have hl : σ2.length = σ.length := h.1.trans (wipe_length σ vs)
  rw [hl]
  by_cases hi : i ∈ vs
  · rw [if_pos hi, if_pos hi]
  · rw [if_neg hi, if_neg hi, h.2 i fun q => hi (hs i q), wipe_get, if_neg hi]

/-! ### comprehensions -/
theorem Ext.updNew {g : Option Addr} {H S H1 S1 : Hp} (x : Ext g H S H1 S1) {w : Addr} {o : HO} (n : H w = none) (m : S1 w = none) : Ext g H S (upd H1 w o) S1 where
  kp := fun a u ne h => by rw [upd_ne (ne_of_none h n)]; exact x.kp a u ne h
  st := fun a h => by
    by_cases e : a = w
    · subst e; exact absurd n h
    · rw [upd_ne e]; exact x.st a h
  ss := x.ss
  no := x.no
  sub := fun a u h => by
    have e : a ≠ w := fun e => by subst e; rw [m] at h; cases h
    rw [upd_ne e]; exact x.sub a u h
theorem Ext.adopt {g : Option Addr} {H S H1 S1 : Hp} (x : Ext g H S H1 S1) {w : Addr} {o : HO} (n : H w = none) (h1 : H1 w = some o) (m : S1 w = none) : Ext g H S H1 (upd S1 w o) where
  kp := x.kp
  st := x.st
  ss := fun a u h => by
    have h2 := x.ss a u h
    rw [upd_ne (fun e => by subst e; rw [m] at h2; cases h2)]
    exact h2
  no := fun a h h' => by
    rw [upd_ne (fun e => by subst e; exact h' n)]
    exact x.no a h h'
  sub := fun a u h => by
    by_cases e : a = w
    · subst e; rw [upd_same] at h; cases h; exact h1
    · rw [upd_ne e] at h; exact x.sub a u h

/-- the turn of a comprehension, by data -/
def lcF (ρ : List Slot) (own : List Nat) (tg : IG) (t : IT) (e : IE) : D → Int → Option (Option D × Int) := fun d c =>
  match bindG tg d (wipeS ρ own) with
  | some ρ1 => match t.run ρ1 c with
    | some (true, c2) => match e.run ρ1 c2 with
      | some (x, c3) => some (some x, c3)
      | none => none
    | some (false, c2) => some (none, c2)
    | none => none
  | none => none
theorem lcGo_cons {f : D → Int → Option (Option D × Int)} {l : List D} (h : lcGo f (d :: ds) c = some (l, c2)) : ∃ o c1 l1, f d c = some (o, c1) ∧ lcGo f ds c1 = some (l1, c2) ∧ l = (match o with | some x => x :: l1 | none => l1) := by
  unfold lcGo at h
  cases e1 : f d c with
  | none => rw [e1] at h; cases h
  | some q =>
    obtain ⟨o, c1⟩ := q
    rw [e1] at h
    dsimp only at h
    cases e2 : lcGo f ds c1 with
    | none => rw [e2] at h; cases h
    | some q2 =>
      obtain ⟨l1, c3⟩ := q2
      rw [e2] at h
      dsimp only at h
      cases o with
      | none => cases h; exact ⟨_, _, _, rfl, e2, rfl⟩
      | some x => cases h; exact ⟨_, _, _, rfl, e2, rfl⟩
theorem lcF_inv {own : List Nat} {tg : IG} {t : IT} {ie : IE} {o : Option D} (h : lcF ρ own tg t ie d c = some (o, c1)) : ∃ ρ1 k c2, bindG tg d (wipeS ρ own) = some ρ1 ∧ t.run ρ1 c = some (k, c2) ∧
    ((k = true ∧ ∃ x, ie.run ρ1 c2 = some (x, c1) ∧ o = some x) ∨ (k = false ∧ c2 = c1 ∧ o = none)) := by
  unfold lcF at h
  cases e1 : bindG tg d (wipeS ρ own) with
  | none => rw [e1] at h; cases h
  | some ρ1 =>
    rw [e1] at h
    dsimp only at h
    cases e2 : t.run ρ1 c with
    | none => rw [e2] at h; cases h
    | some q =>
      obtain ⟨k, c2⟩ := q
      rw [e2] at h
      cases k with
      | false => cases h; exact ⟨ρ1, false, _, rfl, e2, .inr ⟨rfl, rfl, rfl⟩⟩
      | true =>
        dsimp only at h
        cases e3 : ie.run ρ1 c2 with
        | none => rw [e3] at h; cases h
        | some q =>
          obtain ⟨x, c3⟩ := q
          rw [e3] at h
          cases h
          exact ⟨ρ1, true, _, rfl, e2, .inl ⟨rfl, x, e3, rfl⟩⟩

/-- what holds between two turns: from (H1, S1), where nothing is made yet, one has come to H; the new list at w holds what is made -/
def LcInv (p : Par) (f : D → Int → Option (Option D × Int)) (ds l : List D) (c2 : Int) (H1 S1 : Hp) (w : Addr) (i : Nat) (H : Hp) : Prop :=
  ∃ S c vs acc rest, Ext p.g H1 S1 H S ∧ (∀ g sc, p.dg = some (g, sc) → H g = some (.lst [.ref sc, .int c])) ∧ H w = some (.lst vs) ∧ S w = none ∧ Ats p.Z S vs acc ∧
    lcGo f (ds.drop i) c = some (rest, c2) ∧ l = acc ++ rest ∧ acc.length ≤ i
theorem rd_lc {σ : L2.St} {H1 S1 : Hp} {own : List Nat} {tg : IG} {t : IT} {ie : IE} {l : List D} {w : Addr} {Q : VK} {J : It} (R1 : Rel p σ H1 S1 ρ c1) (hJ : Good p J S1 ds) (hgo : lcGo (lcF ρ own tg t ie) ds c1 = some (l, c2)) (hz : ds.length ≤ line) (ho : ∀ j ∈ gix tg, j ∈ own) (hw : H1 w = none)
    (k : ∀ v H2 S2, Rel p σ H2 S2 ρ c2 → Ext p.g H1 S1 H2 S2 → At p.Z S2 v (.lst l) → Q v H2) :
    ∃ W : Nat → Nat → Hp → Prop, (∃ m, W 0 m (upd H1 w (.lst []))) ∧ ∀ i m H, W i m H →
      (J.stop i H ∧ Q (.ref w) H) ∨ (J.go i H ∧ ∃ Nx : Hp → Prop, (∀ H', Nx H' → ∃ m', m' < m ∧ W (i + 1) m' H') ∧ ∀ v H', J.yld i H v H' → uG p tg v (L2.wipe σ own) H' fun σ2 H2 => L2.wipe σ2 own = L2.wipe σ own ∧ uT p t σ2 H2 fun b H3 =>
        if b = true then uE p ie σ2 H3 fun y H4 => ∃ acc, H4 w = some (.lst acc) ∧ acc.length < sizeLine ∧ Nx (upd H4 w (.lst (acc ++ [y]))) else Nx H3) := by
  obtain ⟨Gd, Y, wk, hG, hY⟩ := hJ
  have sw : S1 w = none := by
    cases e : S1 w with
    | none => rfl
    | some o => rw [R1.sub w o e] at hw; cases hw
  have dr0 : ∀ g sc, p.dg = some (g, sc) → w ≠ g := fun g sc e z => by
    subst z
    rw [(R1.dr w sc e).1] at hw
    cases hw
  refine lc_it wk (Qd := fun H => Q (.ref w) H) (LcInv p (lcF ρ own tg t ie) ds l c2 H1 S1 w) ?_ ?_ ?_ ?_
  · refine ⟨S1, c1, [], [], l, Ext.newOwn R1.sub hw, fun g sc e => ?_, upd_same, sw, .nil, hgo, rfl, Nat.le_refl _⟩
    rw [upd_ne (dr0 g sc e).symm]
    exact (R1.dr g sc e).1
  · rintro i H hi ⟨S, c, vs, acc, rest, x, _⟩
    exact hG H S x.ss x.sub
  · rintro i v H H' hi ⟨S, c, vs, acc, rest, x, hd, hwl, hS, ra, hg, hl, hai⟩ y
    obtain ⟨S3, d, hdi, av, x3⟩ := hY i H S v H' hi x.ss x.sub y
    have R : Rel p σ H S ρ c := R1.step x hd
    have R3 : Rel p σ H' S3 ρ c := R.step0 x3
    have w3 : H' w = some (.lst vs) := x3.kp w _ (by intro z; cases z) hwl
    have s3 : S3 w = none := x3.no w hS (by rw [hwl]; intro z; cases z)
    have hdrop : ds.drop i = d :: ds.drop (i + 1) := by
      have hlt : i < ds.length := hi
      rw [List.drop_eq_getElem_cons hlt]
      rw [List.getElem?_eq_getElem hlt] at hdi
      rw [Option.some.inj hdi]
    rw [hdrop] at hg
    obtain ⟨o, c3, l1, hf, hg1, hrest⟩ := lcGo_cons hg
    obtain ⟨ρ1, kk, c4, hb, ht, hcase⟩ := lcF_inv hf
    refine ⟨_, d, ρ1, hb, S3, c, R3.wipe own, av, fun σ2 R2 sb => ⟨wipe_back sb ho, ρ1, c, kk, c4, ht, S3, R2, fun H3 S4 R4 x4 => ?_⟩⟩
    have nw : some w ≠ p.g := fun z => by
      cases e : p.dg with
      | none => unfold Par.g at z; rw [e] at z; cases z
      | some q =>
        obtain ⟨g, sc⟩ := q
        unfold Par.g at z; rw [e] at z
        exact dr0 g sc e (Option.some.inj z)
    have w4 : H3 w = some (.lst vs) := x4.kp w _ nw w3
    have s4 : S4 w = none := x4.no w s3 (by rw [w3]; intro z; cases z)
    have x13 : Ext p.g H1 S1 H3 S4 := (x.trans x3.none_any).trans x4
    rcases hcase with ⟨rfl, u, he, rfl⟩ | ⟨rfl, rfl, rfl⟩
    · refine iteT ⟨ρ1, c4, u, c3, he, S4, R4, fun uv H5 S5 R5 x5 au => ?_⟩
      have w5 : H5 w = some (.lst vs) := x5.kp w _ nw w4
      have s5 : S5 w = none := x5.no w s4 (by rw [w4]; intro z; cases z)
      have x15 : Ext p.g H1 S1 H5 S5 := x13.trans x5
      refine ⟨vs, w5, ?_, S5, c3, vs ++ [uv], acc ++ [u], l1, x15.updNew hw s5, fun g sc e => ?_, upd_same, s5, ?_, hg1, ?_, ?_⟩
      · rw [ra.len]
        exact Nat.lt_of_le_of_lt hai (Nat.lt_of_lt_of_le hi hz)
      · rw [upd_ne (dr0 g sc e).symm]
        exact (R5.dr g sc e).1
      · exact (((ra.sub x3.ss).sub x4.ss).sub x5.ss).snoc au
      · rw [hl, hrest, List.append_assoc]
        rfl
      · rw [List.length_append]
        show acc.length + 1 ≤ i + 1
        omega
    · refine iteF ⟨S4, c4, vs, acc, l1, x13, fun g sc e => (R4.dr g sc e).1, w4, s4, (ra.sub x3.ss).sub x4.ss, hg1, by rw [hl, hrest], by omega⟩
  · rintro H ⟨S, c, vs, acc, rest, x, hd, hwl, hS, ra, hg, hl, hai⟩
    rw [List.drop_length] at hg
    cases hg
    rw [List.append_nil] at hl
    subst hl
    have x2 := x.adopt hw hwl hS
    refine k _ _ _ (R1.step x2 hd) x2 (.lst (SqL.of upd_same) (ra.sub fun a u h => ?_))
    rw [upd_ne (fun e => by subst e; rw [hS] at h; cases h)]
    exact h
theorem fold_pure {it : Expr} (h : isSet it = false) (env : Env) : ∀ x, foldedSetIterable it env x = pure x := by
  intro x
  cases it <;> first | rfl | cases h
theorem e_lc (C : Cok X p G) {own : List Nat} {elt tg it : Expr} {ifs : List Expr} {scope : Scope} {ig : IG} {t : IT} {ie : IE} {l : List D} (hk : blkB G.N G.sc scope = true) (hown : own = (ownC G.N scope).map (·.2)) (hset : isSet it = false) (hi : PI X tg it (tI p ρ c ds c1))
    (hg : ∀ X' : Cx, Cok X' p { G with sc := relS scope G.sc, top := false } → PG X' tg (uG p ig)) (ht : ∀ X' : Cx, Cok X' p { G with sc := relS scope G.sc, top := false } → PTs X' ifs (uT p t)) (he : ∀ X' : Cx, Cok X' p { G with sc := relS scope G.sc, top := false } → PE X' elt (uE p ie))
    (ho : ∀ j ∈ gix ig, j ∈ own) (hgo : lcGo (lcF ρ own ig t ie) ds c1 = some (l, c2)) (hz : ds.length ≤ line) : PE X (.ListComp elt [⟨tg, it, ifs, 0⟩] scope pos) (tE p ρ c (.lst l) c2) := by
  subst hown
  refine peM (pe_lc C.calm C.nd hi (blk_ok C hk) (fun s H w cl fp => hg _ (C.blk hk s H w cl fp)) (fun s H w cl fp => ht _ (C.blk hk s H w cl fp)) (fun s H w cl fp => he _ (C.blk hk s H w cl fp)) (fold_pure hset X.env)) fun σ H Q ⟨S, R, k⟩ => ⟨S, R, fun J H1 S1 R1 x1 hJ w hw => ?_⟩
  exact rd_lc R1 hJ hgo hz ho hw fun v H2 S2 R2 x2 a2 => k v H2 S2 R2 (x1.trans x2) a2
end
end Rf

/-! Rf, part H: every expression that is read in the text does what the small language says. -/
namespace Rf
open PySem PySem.Spec L2

structure Snd (r : CR) : Prop where
  E : ∀ G e ie, r.E G e = some ie → ∀ X p, Cok X p G → PE X e (uE p ie)
  T : ∀ G e it, r.T G e = some it → ∀ X p, Cok X p G → PT X e (uT p it)
  G : ∀ G e ig, r.G G e = some ig → ∀ X p, Cok X p G → PG X e (uG p ig)

section
variable {r : CR} {X : Cx} {p : Par} {G : Gam} {ρ : List Slot} {c c1 c2 c3 : Int} {x y z d : D} {a b e : Expr} {es : List Expr} {pos : Pos} {nm : Str} {i : Nat} {ds : List D} {isL : Bool}
theorem Snd.ex (S : Snd r) {ie : IE} (h : r.E G e = some ie) (C : Cok X p G) (hr : ie.run ρ c = some (d, c1)) : PE X e (tE p ρ c d c1) := pe_of (S.E G e ie h X p C) hr
theorem Snd.te (S : Snd r) {it : IT} {k : Bool} (h : r.T G e = some it) (C : Cok X p G) (hr : it.run ρ c = some (k, c1)) : PT X e (tT p ρ c k c1) := pt_of (S.T G e it h X p C) hr

theorem Snd.tx (S : Snd r) : Snd r.tx where
  E := fun G e ie h X p C => by
    have h' : (match tupTx e with
      | some ys => some (IE.tpd ys)
      | none => r.E G e) = some ie := h
    cases e1 : tupTx e with
    | none => rw [e1] at h'; exact S.E G e ie h' X p C
    | some ys =>
      rw [e1] at h'
      cases h'
      refine pe_all fun ρ c d c1 hr => ?_
      unfold IE.run at hr
      split at hr <;> cases hr
      rename_i hl
      exact e_tpd e1 hl
  T := S.T
  G := S.G
theorem map_some {α β : Type} {f : α → β} {o : Option α} {b : β} (h : o.map f = some b) : ∃ a, o = some a ∧ f a = b := by
  cases o with
  | none => cases h
  | some a => exact ⟨a, rfl, Option.some.inj h⟩
theorem lof_run {ie : IE} (h : (IL.of ie).run ρ c = some (isL, ds, c1)) : ∃ d, ie.run ρ c = some (d, c1) ∧ seqOf d = some (isL, ds) := by
  unfold IL.run at h
  cases e1 : ie.run ρ c with
  | none => rw [e1] at h; cases h
  | some q =>
    obtain ⟨d, c2⟩ := q
    rw [e1] at h
    obtain ⟨q, h1, h2⟩ := map_some h
    cases h2
    exact ⟨d, rfl, h1⟩
theorem cL_ok (S : Snd r) {il : IL} (h : cL r G e = some il) (C : Cok X p G) (hr : il.run ρ c = some (isL, ds, c1)) : PE X e (tL p ρ c isL ds c1) := by
  have gen : ∀ {e : Expr} {il : IL}, (r.E G e).map .of = some il → il.run ρ c = some (isL, ds, c1) → PE X e (tL p ρ c isL ds c1) := fun {e il} h hr => by
    obtain ⟨ie, h1, rfl⟩ := map_some h
    obtain ⟨d, h2, h3⟩ := lof_run hr
    exact l_of (S.ex h1 C h2) h3
  cases e with
  | Name x q =>
    have h' : (if G.ow.contains x then (match ixOf G.N x with
      | some i => if visB G.sc x && okN x then some (IL.own i) else none
      | none => none) else (r.E G (.Name x q)).map .of) = some il := h
    split at h'
    · cases e1 : ixOf G.N x with
      | none => rw [e1] at h'; cases h'
      | some j =>
        rw [e1] at h'
        dsimp only at h'
        split at h' <;> cases h'
        rename_i hv
        unfold IL.run at hr
        cases e2 : ρ[j]? with
        | none => rw [e2] at hr; cases hr
        | some sl =>
          rw [e2] at hr
          cases sl <;> cases hr
          exact l_own C e1 hv e2
    · exact gen h' hr
  | _ => exact gen h hr
theorem cA_ok (S : Snd r) (C : Cok X p G) : ∀ {es : List Expr} {ia : IA} {c c1 : Int} {ds : List D}, cA r G es = some ia → ia.run ρ c = some (ds, c1) → PA X es (tA p ρ c ds c1)
  | [], _, c, c1, ds, h, hr => by
    cases h
    cases hr
    exact a_nil
  | e :: es, ia, c, c1, ds, h, hr => by
    by_cases hs : isStar e = true
    · cases e <;> first | (cases hs; done) | skip
      rename_i l q
      unfold cA at h
      dsimp only at h
      cases e1 : cL r G l with
      | none => rw [e1] at h; cases h
      | some a =>
        cases e2 : cA r G es with
        | none => rw [e1, e2] at h; cases h
        | some b =>
          rw [e1, e2] at h
          cases h
          unfold IA.run at hr
          cases e3 : a.run ρ c with
          | none => rw [e3] at hr; cases hr
          | some w =>
            obtain ⟨isL, xs, c2⟩ := w
            rw [e3] at hr
            dsimp only at hr
            cases e4 : b.run ρ c2 with
            | none => rw [e4] at hr; cases hr
            | some w =>
              obtain ⟨ys, c3⟩ := w
              rw [e4] at hr
              cases hr
              exact a_star C (cL_ok S e1 C e3) (cA_ok S C e2 e4)
    · have hs : isStar e = false := by simpa using hs
      have h' : (match r.E G e, cA r G es with
        | some a, some b => some (IA.cons a b)
        | _, _ => none) = some ia := by
        cases e <;> first | exact h | cases hs
      cases e1 : r.E G e with
      | none => rw [e1] at h'; cases h'
      | some a =>
        cases e2 : cA r G es with
        | none => rw [e1, e2] at h'; cases h'
        | some b =>
          rw [e1, e2] at h'
          cases h'
          unfold IA.run at hr
          cases e3 : a.run ρ c with
          | none => rw [e3] at hr; cases hr
          | some w =>
            obtain ⟨x, c2⟩ := w
            rw [e3] at hr
            dsimp only at hr
            cases e4 : b.run ρ c2 with
            | none => rw [e4] at hr; cases hr
            | some w =>
              obtain ⟨ys, c3⟩ := w
              rw [e4] at hr
              cases hr
              exact a_cons hs (S.ex e1 C e3) (cA_ok S C e2 e4)
theorem cO_ok (S : Snd r) {o : Option Expr} {io : IO} {k : Option Int} (h : cO r G o = some io) (C : Cok X p G) (hr : io.run ρ c = some (k, c1)) : PO X o (tO p ρ c k c1) := by
  cases o with
  | none =>
    cases h
    cases hr
    exact o_no
  | some e =>
    obtain ⟨ie, h1, rfl⟩ := map_some (show (r.E G e).map .at = some io from h)
    unfold IO.run at hr
    split at hr <;> cases hr
    rename_i i hi
    exact o_at (S.ex h1 C hi)
theorem bl_none (C : Cok X p G) (hb : nm ∈ blts) (h1 : (G.fn nm).isNone = true) (h2 : (G.cn nm).isNone = true) : X.mg nm = none := C.bl nm hb (by simpa using h1) (by simpa using h2)
theorem fr_ok (C : Cok X p G) (hb : nm ∈ blts) (h : fr G nm = true) : gn G nm = true ∧ X.mg nm = none := by
  unfold fr at h
  rw [Bool.and_eq_true, Bool.and_eq_true] at h
  exact ⟨h.1.1, bl_none C hb h.1.2 h.2⟩
theorem ii_seq {ie : IE} (S : Snd r) (C : Cok X p G) {tg : Expr} {ii : II} (h : (r.E G e).map .seq = some ii) (hr : ii.run ρ c = some (ds, c1)) : PI X tg e (tI p ρ c ds c1) := by
  obtain ⟨ie, h1, rfl⟩ := map_some h
  unfold II.run at hr
  cases e1 : ie.run ρ c with
  | none => rw [e1] at hr; cases hr
  | some q =>
    obtain ⟨d, c2⟩ := q
    rw [e1] at hr
    dsimp only at hr
    split at hr
    · rename_i q h2
      cases hr
      exact i_seq (isL := q.1) C (S.ex h1 C e1) h2
    · obtain ⟨l, h2, h3⟩ := map_some hr
      cases h3
      exact i_it C (S.ex h1 C e1) h2
theorem cI_ok (S : Snd r) (C : Cok X p G) {tg : Expr} {ii : II} (h : cI r G tg e = some ii) (hr : ii.run ρ c = some (ds, c1)) : PI X tg e (tI p ρ c ds c1) := by
  have gen : (r.E G e).map .seq = some ii → PI X tg e (tI p ρ c ds c1) := fun h => ii_seq (ie := .con .non) S C h hr
  unfold cI at h
  split at h
  · -- range(a)
    rename_i x q a pos
    split at h
    · rename_i hc
      obtain ⟨rfl, h1, h2⟩ := hc
      obtain ⟨ie, h3, rfl⟩ := map_some h
      obtain ⟨g1, g2⟩ := fr_ok C (by decide +kernel) h1
      unfold II.run at hr
      split at hr
      · rename_i j c2 e1
        split at hr <;> cases hr
        rename_i hj
        exact i_rng1 C rfl g1 g2 h2 (S.ex h3 C e1) hj
      · cases hr
    · split at h
      · rename_i hc
        obtain ⟨rfl, h1, h2⟩ := hc
        obtain ⟨g1, g2⟩ := fr_ok C (by decide +kernel) h1
        split at h
        · obtain ⟨ie, h3, rfl⟩ := map_some h
          unfold II.run at hr
          cases e1 : ie.run ρ c with
          | none => rw [e1] at hr; cases hr
          | some q =>
            obtain ⟨d, c2⟩ := q
            rw [e1] at hr
            obtain ⟨q, h4, h5⟩ := map_some hr
            cases h5
            exact i_enm (isL := q.1) C g1 g2 h2 (S.ex h3 C e1) h4
        · exact gen h
      · exact gen h
  · rename_i x q a b pos
    split at h
    · rename_i hc
      obtain ⟨rfl, h1, h2, h3⟩ := hc
      obtain ⟨g1, g2⟩ := fr_ok C (by decide +kernel) h1
      split at h <;> cases h
      rename_i pa pb e1 e2
      unfold II.run at hr
      split at hr
      · rename_i j c2 e3
        split at hr
        · rename_i l c3 e4
          split at hr <;> cases hr
          rename_i hj
          exact i_rng2 C rfl g1 g2 h2 h3 (S.ex e1 C e3) (S.ex e2 C e4) hj
        · cases hr
      · cases hr
    · split at h
      · rename_i hc
        obtain ⟨rfl, h1, h2, h3⟩ := hc
        obtain ⟨g1, g2⟩ := fr_ok C (by decide +kernel) h1
        split at h <;> cases h
        rename_i elts kk tpos pa pb e1 e2
        unfold II.run at hr
        split at hr
        · rename_i x1 c2 e3
          split at hr
          · rename_i y1 c3 e4
            split at hr
            · rename_i pl xs ql ys e5 e6
              split at hr <;> cases hr
              rename_i hpq
              subst hpq
              exact i_zip C rfl g1 g2 h2 h3 (S.ex e1 C e3) (S.ex e2 C e4) e5 e6
            · cases hr
          · cases hr
        · cases hr
      · exact gen h
  · rename_i x q a b k pos
    split at h
    · rename_i hc
      obtain ⟨rfl, h1, h2, h3, h4⟩ := hc
      obtain ⟨g1, g2⟩ := fr_ok C (by decide +kernel) h1
      split at h <;> cases h
      rename_i pa pb pk e1 e2 e3
      unfold II.run at hr
      split at hr
      · rename_i i c2 e4
        split at hr
        · rename_i j c3 e5
          split at hr
          · rename_i s c4 e6
            split at hr <;> cases hr
            rename_i hj
            exact i_rng3 C rfl g1 g2 h2 h3 h4 (S.ex e1 C e4) (S.ex e2 C e5) (S.ex e3 C e6) hj
          · cases hr
        · cases hr
      · cases hr
    · exact gen h
  · rename_i e1 m ap cp
    split at h
    · rename_i elts kk tpos
      split at h
      · rename_i hc
        obtain ⟨rfl, h1, h2⟩ := hc
        obtain ⟨ie, h3, rfl⟩ := map_some h
        unfold II.run at hr
        split at hr
        · rename_i ks l c2 e4
          split at hr <;> cases hr
          exact i_items C (base_plain h1) h2 (S.ex h3 C e4)
        · cases hr
      · exact gen h
    · exact gen h
  · split at h
    · cases h
    · exact gen h
theorem cBo_ok (S : Snd r) (C : Cok X p G) {op : BoolOp} : ∀ {es : List Expr} {ie : IE} {c c1 : Int} {d : D}, cBo r G op es = some ie → ie.run ρ c = some (d, c1) → PE X (.BoolOp op es pos) (tE p ρ c d c1)
  | [], _, _, _, _, h, _ => by cases h
  | [a], ie, c, c1, d, h, hr => pe_one (S.ex (show r.E G a = some ie from h) C hr)
  | a :: b :: es, ie, c, c1, d, h, hr => by
    unfold cBo at h
    split at h <;> cases h
    rename_i x y e1 e2
    cases op with
    | And =>
      have hr' : (IE.and x y).run ρ c = some (d, c1) := hr
      unfold IE.run at hr'
      split at hr'
      · rename_i c2 e3
        exact e_andT (S.ex e1 C e3) (cBo_ok S C e2 hr')
      · rename_i c2 e3
        cases hr'
        exact e_andF (t := uE p x) (S.ex e1 C e3)
      · cases hr'
    | Or =>
      have hr' : (IE.or x y).run ρ c = some (d, c1) := hr
      unfold IE.run at hr'
      split at hr'
      · rename_i c2 e3
        cases hr'
        exact e_orT (S.ex e1 C e3)
      · rename_i c2 e3
        exact e_orF (S.ex e1 C e3) (cBo_ok S C e2 hr')
      · rename_i s c2 e3
        split at hr'
        · rename_i hz
          split at hr'
          · rename_i h0
            exact e_orS0 C hz h0 (S.ex e1 C e3) (cBo_ok S C e2 hr')
          · rename_i h0
            cases hr'
            exact e_orS1 C hz h0 (S.ex e1 C e3)
        · cases hr'
      · cases hr'
theorem cBt_ok (S : Snd r) (C : Cok X p G) {op : BoolOp} : ∀ {es : List Expr} {it : IT} {c c1 : Int} {k : Bool}, cBt r G op es = some it → it.run ρ c = some (k, c1) → PW X (.BoolOp op es pos) (tT p ρ c k c1)
  | [], _, _, _, _, h, _ => by cases h
  | [a], it, c, c1, k, h, hr => by
    have hp := S.te (show r.T G a = some it from h) C hr
    cases op with
    | And => exact pw_and1 hp
    | Or => exact pw_or1 hp
  | a :: b :: es, it, c, c1, k, h, hr => by
    unfold cBt at h
    split at h <;> cases h
    rename_i x y e1 e2
    cases op with
    | And =>
      have hr' : (IT.and x y).run ρ c = some (k, c1) := hr
      unfold IT.run at hr'
      split at hr'
      · rename_i c2 e3
        exact w_andT (S.te e1 C e3) (cBt_ok S C e2 hr')
      · rename_i c2 e3
        cases hr'
        exact w_andF (S.te e1 C e3)
      · cases hr'
    | Or =>
      have hr' : (IT.or x y).run ρ c = some (k, c1) := hr
      unfold IT.run at hr'
      split at hr'
      · rename_i c2 e3
        cases hr'
        exact w_orT (S.te e1 C e3)
      · rename_i c2 e3
        exact w_orF (S.te e1 C e3) (cBt_ok S C e2 hr')
      · cases hr'
theorem cIfs_ok (S : Snd r) (C : Cok X p G) {it : IT} (h : cIfs r G es = some it) : PTs X es (uT p it) := by
  unfold cIfs at h
  split at h
  · cases h
    refine ⟨fun pins s σ H Q I ⟨ρ, c, k, c1, hr, q⟩ => ?_⟩
    cases hr
    obtain ⟨S1, R, q⟩ := q
    exact pts_nil.run pins s σ H Q I (q H S1 R (Ext.refl R.sub))
  · exact pts_one (S.T G _ it h X p C)
  · cases h
theorem cGs_ok (S : Snd r) (C : Cok X p G) : ∀ {es : List Expr} {ig : IGs} {ds : List D} {ρ ρ1 : List Slot}, cGs r G es = some ig → bindGs ig ds ρ = some ρ1 → PGs X es (tGs p ρ ds ρ1 (gixs ig)) ∧ es.length = ds.length ∧ es.any isStar = false
  | [], _, ds, ρ, ρ1, h, hb => by
    cases h
    cases ds with
    | nil => cases hb; exact ⟨gs_nil, rfl, rfl⟩
    | cons d ds => cases hb
  | e :: es, ig, ds, ρ, ρ1, h, hb => by
    unfold cGs at h
    split at h
    · cases h
    · rename_i hs
      have hs : isStar e = false := by simpa using hs
      split at h <;> cases h
      rename_i g gr e1 e2
      cases ds with
      | nil => cases hb
      | cons d ds =>
        unfold bindGs at hb
        cases e3 : bindG g d ρ with
        | none => rw [e3] at hb; cases hb
        | some ρ2 =>
          rw [e3] at hb
          dsimp only at hb
          obtain ⟨h1, h2, h3⟩ := cGs_ok S C e2 hb
          exact ⟨gs_cons hs (pg_of (S.G G e g e1 X p C) e3) h1, by rw [List.length_cons, List.length_cons, h2], by rw [List.any_cons, hs, h3]; rfl⟩
theorem stepG_ok (S : Snd r) (C : Cok X p G) {ig : IG} (h : stepG r G e = some ig) : PG X e (uG p ig) := by
  refine pg_all fun ρ d ρ1 hb => ?_
  unfold stepG at h
  split at h
  · rename_i x q
    split at h
    · rename_i j e1
      split at h <;> cases h
      rename_i hl
      exact g_nm C e1 hl hb
    · cases h
  · rename_i es k q
    obtain ⟨gs, h1, rfl⟩ := map_some h
    cases d <;> first | (cases hb; done) | skip
    rename_i l
    obtain ⟨h2, h3, h4⟩ := cGs_ok S C h1 (show bindGs gs l ρ = some ρ1 from hb)
    exact g_tp C h4 h3 h2
  · cases h
end
end Rf

/-! Rf, part N: attributes, methods of objects that stand still, isinstance. -/
namespace Rf
open PySem PySem.Spec L2
section
variable {X : Cx} {p : Par} {G : Gam} {ρ : List Slot} {c c1 c2 : Int} {d : D} {e : Expr} {es : List Expr} {pos : Pos} {k m f : Str} {fs : List Str} {ds es1 : List D}
theorem Ats.lookup {Z : KC} {S : Hp} {f : Str} {d : D} : ∀ {fs : List Str} {vs : List V} {ds : List D}, Ats Z S vs ds → vs.length = fs.length → (fs.zip ds).lookup f = some d → ∃ u, (fs.zip vs).lookup f = some u ∧ At Z S u d
  | [], _, _, _, _, h => by cases h
  | g :: fs, _, _, .nil, h, _ => by cases h
  | g :: fs, v :: vs, d' :: ds, .cons a as, h, e => by
    rw [List.zip_cons_cons, List.lookup_cons] at e
    rw [List.zip_cons_cons, List.lookup_cons]
    split at e
    · cases e
      exact ⟨v, rfl, a⟩
    · exact as.lookup (by simpa using h) e
theorem zip_none {β : Type} {m : Str} : ∀ {fs : List Str} {vs : List β}, fs.contains m = false → (fs.zip vs).lookup m = none
  | [], _, _ => rfl
  | g :: fs, [], _ => rfl
  | g :: fs, v :: vs, h => by
    rw [List.contains_cons, Bool.or_eq_false_iff] at h
    rw [List.zip_cons_cons, List.lookup_cons]
    rw [h.1]
    exact zip_none h.2
theorem e_fld (C : Cok X p G) (hk : k ∈ G.fl f) (hp : plainO e = true) (he : PE X e (tE p ρ c (.obj k fs ds) c1)) (hl : (fs.zip ds).lookup f = some d) : PE X (.Attribute e f pos) (tE p ρ c d c1) := by
  obtain ⟨h1, h2⟩ := C.fl f k hk
  refine peM (pe_fld he (base_plain hp)) fun σ H Q ⟨S, R, q⟩ => ⟨S, R, fun v H1 S1 R1 x1 a1 => ?_⟩
  cases a1 with
  | obj h l r =>
    obtain ⟨u, hu, au⟩ := r.lookup l hl
    exact ⟨_, _, _, _, u, rfl, R1.sub _ _ h, h1, h2, hu, q u H1 S1 R1 x1 au⟩
theorem all_star : ∀ {es : List Expr} {pos : Pos} {env : Env}, es.any isStar = false → (backTo pos (starEach es env)).all (!·.1) = true := fun {es pos env} h => by
  have := any_star (pos := pos) (env := env) h
  rw [List.all_eq_true]
  rw [List.any_eq_false] at this
  intro x hx
  have h1 := this x hx
  simpa using h1
theorem meth_eval {env : Env} {ap cp : Pos} (hp : plainO e = true) (hs : es.any isStar = false) (hl : es.length < 29) (hline : (ap.endLine == cp.line) = true) : eval (.Call (.Attribute e m ap) es [] cp) env = (do
      let ov ← eval e env
      standAt ap.atName
      let (f, first) ← holding [ov] (getMethod ov m (do return (← importBound e env).getD true))
      callWith cp f first (backTo cp (starEach es env)) (backToKw cp (keywordEach [] env))) := by
  have few : methodCallForm (es.length + ([] : List Keyword).length) (backTo cp (starEach es env)) (backToKw cp (keywordEach [] env)) = true := by
    unfold methodCallForm
    rw [all_star hs]
    show (true && true && decide (es.length + 0 + 0 < 30)) = true
    rw [decide_eq_true (by omega)]
    rfl
  have e0 : eval (.Call (.Attribute e m ap) es [] cp) env = (do
      let ov ← attributeBase e m env (eval e env)
      standAt ap.atName
      methodCall e m ap cp env ov (es.length + ([] : List Keyword).length) (backTo cp (starEach es env)) (backToKw cp (keywordEach [] env))) := by
    cases e <;> first | rfl | cases hp
  rw [e0, base_plain hp]
  unfold methodCall methodCallPos calleeOf
  rw [few]
  simp only [Bool.not_true, Bool.false_or, hline, if_true, pure_bind]
theorem meth_fin {a : Addr} {n : Nat} {F : List D → Option D} (hm : fs.contains m = false) (hn : es1.length + 1 = n) (hd : F (.obj k fs ds :: es1) = some d) {σ : L2.St} {H S : Hp} {Q : VK} (q : ∀ v H1 S1, Rel p σ H1 S1 ρ c2 → Ext p.g H S H1 S1 → At p.Z S1 v d → Q v H1) (x : V) (H1 S1 : Hp) (R1 : Rel p σ H1 S1 ρ c1) (x1 : Ext p.g H S H1 S1) (a1 : At p.Z S1 x (.obj k fs ds)) :
    ∃ b dx gs, x = V.ref b ∧ H1 b = some (.ins (p.Z.cl k) dx gs) ∧ gs.lookup m = none ∧ tA p ρ c1 es1 c2 σ H1 fun vs H2 => spF p.Z (Fn.pure n F) (x :: (vs ++ [])) H2 Q E0 := by
  have a1' := a1
  cases a1 with
  | obj h l r =>
    refine ⟨_, _, _, rfl, R1.sub _ _ h, zip_none hm, S1, R1, fun vs H2 S2 R2 x2 a2 => ?_⟩
    show spF p.Z (Fn.pure n F) (_ :: (vs ++ [])) H2 Q E0
    rw [List.append_nil]
    exact ⟨S2, .obj k fs ds :: es1, d, by rw [List.length_cons, a2.len, hn], R2.sub, .cons (a1'.sub x2.ss) a2, hd, fun v H3 S3 x3 a3 => q v H3 S3 (R2.step0 x3) (x1.trans (x2.trans x3.none_any)) a3⟩
theorem e_meth (C : Cok X p G) {n : Nat} {F : List D → Option D} {ap cp : Pos} {e1 : Expr} (hk : (k, Fn.pure n F) ∈ G.mt m) (hp : plainO e = true) (hl : (e1 :: es).length < 29) (hline : (ap.endLine == cp.line) = true) (he : PE X e (tE p ρ c (.obj k fs ds) c1)) (hs : (e1 :: es).any isStar = false) (ha : PA X (e1 :: es) (tA p ρ c1 es1 c2)) (hm : fs.contains m = false) (hn : es1.length + 1 = n) (hd : F (.obj k fs ds :: es1) = some d) :
    PE X (.Call (.Attribute e m ap) (e1 :: es) [] cp) (tE p ρ c d c2) := by
  obtain ⟨a, fd, ps, lv, h1, h2, h3, h4, h5⟩ := C.mt m k n F hk
  have ht := meth_eval (env := X.env) (m := m) hp hs hl hline
  have hs' := hs
  rw [List.any_cons, Bool.or_eq_false_iff] at hs'
  exact peM (pe_meth he h1 h2 h4 (h5.mono (Nat.le_succ _)) h3 .nil pass0 ha (star_cons hs'.1) (any_star hs'.2) ht) fun σ H Q ⟨S, R, q⟩ => ⟨S, R, fun x H1 S1 R1 x1 a1 => meth_fin (a := a) hm hn hd q x H1 S1 R1 x1 a1⟩
theorem e_meth0 (C : Cok X p G) {n : Nat} {F : List D → Option D} {ap cp : Pos} (hk : (k, Fn.pure n F) ∈ G.mt m) (hp : plainO e = true) (hline : (ap.endLine == cp.line) = true) (he : PE X e (tE p ρ c (.obj k fs ds) c1)) (hm : fs.contains m = false) (hn : 1 = n) (hd : F [.obj k fs ds] = some d) :
    PE X (.Call (.Attribute e m ap) [] [] cp) (tE p ρ c d c1) := by
  obtain ⟨a, fd, ps, lv, h1, h2, h3, h4, h5⟩ := C.mt m k n F hk
  have ht := meth_eval (env := X.env) (m := m) (es := []) hp rfl (by decide) hline
  refine peM (pe_meth0 he h1 h2 h4 (h5.mono (Nat.le_succ _)) h3 .nil pass0 ht) fun σ H Q ⟨S, R, q⟩ => ⟨S, R, fun x H1 S1 R1 x1 a1 => ?_⟩
  have a1' := a1
  cases a1 with
  | obj h l r =>
    refine ⟨_, _, _, rfl, R1.sub _ _ h, zip_none hm, ?_⟩
    show spF p.Z (Fn.pure n F) [_] H1 Q E0
    exact ⟨S1, [.obj k fs ds], d, hn, R1.sub, .cons a1' .nil, hd, fun v H3 S3 x3 a3 => q v H3 S3 (R1.step0 x3) (x1.trans x3.none_any) a3⟩
/-! ### dicts -/
def tD (p : Par) (ρ : List Slot) (c : Int) (ks : List Key) (ds : List D) (c1 : Int) : TE := fun σ H Q =>
  ∃ S, Rel p σ H S ρ c ∧ ∀ a vs H1 S1, Rel p σ H1 S1 ρ c1 → Ext p.g H S H1 S1 → (∀ H2 S2, Ext p.g H1 S1 H2 S2 → Rd H2 a (.dK (ks.zip vs))) → vs.length = ks.length → Ats p.Z S1 vs ds → Q (.ref a) H1
theorem d_own (C : Cok X p G) {i : Nat} {nm : Str} {ks : List Key} (hi : ixOf G.N nm = some i) (hv : (visB G.sc nm && okN nm) = true) (hs : ρ[i]? = some (.od ks ds)) : PE X (.Name nm pos) (tD p ρ c ks ds c) :=
  peM (pe_nm C hi hv) fun σ H Q ⟨S, R, k⟩ => by
    obtain ⟨a, vs, h1, h2, h3, h4, h5, h6⟩ := R.slot i _ hs
    exact ⟨_, h1, k a vs H S R (Ext.refl R.sub) (fun H2 S2 x => .inl (x.kp a _ (R.ne_g h4) h2)) h5 h6⟩
theorem d_ownA (C : Cok X p G) {i : Nat} {nm : Str} {ks : List Key} {w : Addr} (hi : ixOf G.N nm = some i) (hv : (visB G.sc nm && okN nm) = true) (hs : ρ[i]? = some (.oda w ks ds)) : PE X (.Name nm pos) (tD p ρ c ks ds c) :=
  peM (pe_nm C hi hv) fun σ H Q ⟨S, R, k⟩ => by
    obtain ⟨vs, h1, h2, h3, h4, h5, h6⟩ := R.slot i _ hs
    exact ⟨_, h1, k w vs H S R (Ext.refl R.sub) (fun H2 S2 x => .inl (x.kp w _ (R.ne_g h4) h2)) h5 h6⟩
theorem d_of {ks : List Key} (h : PE X e (tE p ρ c (.dic ks ds) c1)) : PE X e (tD p ρ c ks ds c1) :=
  peM h fun σ H Q ⟨S, R, k⟩ => ⟨S, R, fun v H1 S1 R1 x1 a1 => by
    cases a1 with
    | dic h1 h2 h3 => exact k _ _ H1 S1 R1 x1 (fun H2 S2 x => sub_rd (x.ss.trans x.sub) h1.rd) h2 h3⟩
theorem d_ofO {ks : List Key} (h : PE X e (tE p ρ c (.dio ks ds) c1)) : PE X e (tD p ρ c ks ds c1) :=
  peM h fun σ H Q ⟨S, R, k⟩ => ⟨S, R, fun v H1 S1 R1 x1 a1 => by
    cases a1 with
    | dio h1 h2 h3 => exact k _ _ H1 S1 R1 x1 (fun H2 S2 x => .inl (x.sub _ _ (x.ss _ _ h1))) h2 h3⟩
theorem noSl_ok {b : Expr} (h : plainIxB b = true) : NoSl b := by
  intro o i
  cases b <;> first | rfl | cases h
theorem e_dix (C : Cok X p G) {b : Expr} {ks : List Key} {y : D} {q : Key} (hp : plainIxB b = true) (ha : PE X e (tD p ρ c ks ds c1)) (hb : PE X b (tE p ρ c1 y c2)) (hq : keyOf y = some q) (h : dval ks ds q = some d) : PE X (.Subscript e b pos) (tE p ρ c d c2) :=
  peM (pe_dget (by have := C.room.un; omega) ha hb (noSl_ok hp)) fun σ H Q ⟨S, R, k⟩ => ⟨S, R, fun a vs H1 S1 R1 x1 hd hl a1 => ⟨S1, R1, fun u H2 S2 R2 x2 a2 => by
    obtain ⟨v, e1, av⟩ := dval_at (a1.sub x2.ss) h
    exact ⟨a, v, rfl, .inl ⟨_, q, hd H2 S2 x2, at_key a2 hq, by rw [valV_dval, e1]⟩, k v H2 S2 R2 (x1.trans x2) av⟩⟩⟩
theorem few1 {env : Env} {b : Expr} {cp : Pos} (hs : isStar b = false) : ((backTo cp (starEach [b] env)).all (fun x => !x.1) && (backToKw cp (keywordEach [] env)).all (fun x => x.1.isSome)
    && decide (([b] : List Expr).length + ([] : List Keyword).length + (if ([] : List Keyword).isEmpty then 0 else 1) < 30)) = true := by
  rw [all_star (by rw [List.any_cons, hs]; rfl)]
  rfl
theorem few2 {env : Env} {b b2 : Expr} {cp : Pos} (hs : isStar b = false) (hs2 : isStar b2 = false) : ((backTo cp (starEach [b, b2] env)).all (fun x => !x.1) && (backToKw cp (keywordEach [] env)).all (fun x => x.1.isSome)
    && decide (([b, b2] : List Expr).length + ([] : List Keyword).length + (if ([] : List Keyword).isEmpty then 0 else 1) < 30)) = true := by
  rw [all_star (by rw [List.any_cons, List.any_cons, hs, hs2]; rfl)]
  rfl
theorem e_dgt1 (C : Cok X p G) {b : Expr} {ks : List Key} {y : D} {q : Key} {ap cp : Pos} (hp : plainO e = true) (hs : isStar b = false) (hline : (ap.endLine == cp.line) = true) (ha : PE X e (tD p ρ c ks ds c1)) (hb : PE X b (tE p ρ c1 y c2)) (hq : keyOf y = some q) :
    PE X (.Call (.Attribute e "get" ap) [b] [] cp) (tE p ρ c ((dval ks ds q).getD .non) c2) := by
  have m : M1 X e "get" ap b cp := ⟨base_plain hp, few1 hs, hline, by rw [star_cons hs]; rfl⟩
  refine peM (pe_dget1 (by have := C.room.un; omega) ha hb m) fun σ H Q ⟨S, R, k⟩ => ⟨S, R, fun a vs H1 S1 R1 x1 hd hl a1 => ⟨a, rfl, .inl ⟨_, hd H1 S1 (Ext.refl R1.sub)⟩, S1, R1, fun u H2 S2 R2 x2 a2 => ?_⟩⟩
  refine ⟨_, .inl ⟨_, q, hd H2 S2 x2, at_key a2 hq, rfl⟩, ?_⟩
  rw [valV_dval]
  cases e1 : dval ks ds q with
  | some d =>
    obtain ⟨v, e2, av⟩ := dval_at (a1.sub x2.ss) e1
    rw [e1] at k
    rw [e2]
    exact k v H2 S2 R2 (x1.trans x2) av
  | none =>
    rw [e1] at k
    rw [dval_no a1 e1]
    exact k .non H2 S2 R2 (x1.trans x2) .non
theorem e_dgt2 (C : Cok X p G) {b b2 : Expr} {ks : List Key} {y z : D} {q : Key} {c3 : Int} {ap cp : Pos} (hp : plainO e = true) (hs : isStar b = false) (hs2 : isStar b2 = false) (hline : (ap.endLine == cp.line) = true) (ha : PE X e (tD p ρ c ks ds c1)) (hb : PE X b (tE p ρ c1 y c2)) (hb2 : PE X b2 (tE p ρ c2 z c3)) (hq : keyOf y = some q) :
    PE X (.Call (.Attribute e "get" ap) [b, b2] [] cp) (tE p ρ c ((dval ks ds q).getD z) c3) := by
  have m : M2 X e "get" ap b b2 cp := ⟨base_plain hp, few2 hs hs2, hline, by rw [star_cons hs, star_cons hs2]; rfl⟩
  refine peM (pe_dget2 (by have := C.room.un; omega) ha hb hb2 m) fun σ H Q ⟨S, R, k⟩ => ⟨S, R, fun a vs H1 S1 R1 x1 hd hl a1 => ⟨a, rfl, .inl ⟨_, hd H1 S1 (Ext.refl R1.sub)⟩, S1, R1, fun u H2 S2 R2 x2 a2 => ⟨S2, R2, fun w H3 S3 R3 x3 a3 => ?_⟩⟩⟩
  refine ⟨_, .inl ⟨_, q, hd H3 S3 (x2.trans x3), at_key a2 hq, rfl⟩, ?_⟩
  rw [valV_dval]
  cases e1 : dval ks ds q with
  | some d =>
    obtain ⟨v, e2, av⟩ := dval_at ((a1.sub x2.ss).sub x3.ss) e1
    rw [e1] at k
    rw [e2]
    exact k v H3 S3 R3 (x1.trans (x2.trans x3)) av
  | none =>
    rw [e1] at k
    rw [dval_no a1 e1]
    exact k w H3 S3 R3 (x1.trans (x2.trans x3)) a3
theorem dset_zip {q : Key} {v : V} : ∀ {ks : List Key} {vs : List V}, (ks.zip vs).map (fun kv => if kv.1 = q then (kv.1, v) else kv) = ks.zip (dset ks vs q v)
  | [], _ => rfl
  | k :: ks, [] => by unfold dset; rfl
  | k :: ks, u :: vs => by
    rw [List.zip_cons_cons, List.map_cons, dset_zip]
    show (if k = q then (k, v) else (k, u)) :: _ = (k, if k = q then v else u) :: _
    split <;> rfl
theorem dset_len {α : Type} {q : Key} {v : α} : ∀ {ks : List Key} {vs : List α}, vs.length = ks.length → (dset ks vs q v).length = ks.length
  | [], [], _ => rfl
  | k :: ks, u :: vs, h => by
    unfold dset
    rw [List.length_cons, List.length_cons, dset_len (by simpa using h)]
theorem dset_at {Z : KC} {S : Hp} {q : Key} {v : V} {d : D} (a : At Z S v d) : ∀ {ks : List Key} {vs : List V} {ds : List D}, Ats Z S vs ds → Ats Z S (dset ks vs q v) (dset ks ds q d)
  | [], _, _, _ => .nil
  | k :: ks, _, _, .nil => .nil
  | k :: ks, u :: vs, x :: ds, .cons b r => by
    unfold dset
    refine .cons ?_ (dset_at a r)
    split
    · exact a
    · exact b
theorem zip_any {q : Key} : ∀ {ks : List Key} {vs : List V}, vs.length = ks.length → ((ks.zip vs).any fun kv => decide (kv.1 = q)) = hasK ks q
  | [], _, _ => rfl
  | k :: ks, u :: vs, h => by
    rw [List.zip_cons_cons, List.any_cons, zip_any (by simpa using h)]
    rfl
theorem put_zip {Z : KC} {S : Hp} {q : Key} {v : V} {d : D} {ks : List Key} {vs : List V} {ds : List D} (a : At Z S v d) (r : Ats Z S vs ds) (hl : vs.length = ks.length) :
    ∃ vs2, putK (ks.zip vs) q v = (dputD ks ds q d).1.zip vs2 ∧ vs2.length = (dputD ks ds q d).1.length ∧ Ats Z S vs2 (dputD ks ds q d).2 := by
  unfold putK dputD
  rw [zip_any hl]
  by_cases h : hasK ks q = true
  · rw [if_pos h, if_pos h]
    exact ⟨_, dset_zip, dset_len hl, dset_at a r⟩
  · rw [if_neg h, if_neg h]
    refine ⟨vs ++ [v], ?_, by rw [List.length_append, List.length_append, hl]; rfl, r.append (.cons a .nil)⟩
    show ks.zip vs ++ [q].zip [v] = _
    rw [List.zip_append hl.symm]
/-! ### dict displays -/
/-- the values of a display, one after another -/
inductive Chain (X : Cx) (p : Par) (ρ : List Slot) : List Expr → List D → Int → Int → Prop
  | nil {c : Int} : Chain X p ρ [] [] c c
  | cons {e : Expr} {es : List Expr} {d : D} {ds : List D} {c c1 c2 : Int} : PE X e (tE p ρ c d c1) → Chain X p ρ es ds c1 c2 → Chain X p ρ (e :: es) (d :: ds) c c2
theorem keysC_cons {q : Option Expr} {r : List (Option Expr)} {ks : List Key} (h : keysC (q :: r) = some ks) : ∃ s j q2, q = some (.Constant (.str s) j q2) ∧ ∃ ks', keysC r = some ks' ∧ ks = .inr s :: ks' := by
  cases q with
  | none => cases h
  | some e =>
    cases e with
    | Constant k j q2 =>
      cases k with
      | str s =>
        have h' : (keysC r).map (fun l => (Sum.inr s : Key) :: l) = some ks := h
        cases e1 : keysC r with
        | none => rw [e1] at h'; cases h'
        | some ks' =>
          rw [e1] at h'
          cases h'
          exact ⟨s, j, q2, rfl, ks', rfl, rfl⟩
      | _ => cases h
    | _ => cases h
theorem Chain.len {ds : List D} : ∀ {es : List Expr} {c c1 : Int}, Chain X p ρ es ds c c1 → es.length = ds.length := by
  intro es c c1 h
  induction h with
  | nil => rfl
  | cons _ _ ih => rw [List.length_cons, List.length_cons, ih]
theorem pps_ok {ds : List D} {es : List Expr} {c c1 : Int} (h : Chain X p ρ es ds c c1) : ∀ {keys : List (Option Expr)} {ks : List Key}, keysC keys = some ks → keys.length = es.length → ∃ trs, PPs X pos keys es trs ∧ ∀ (σ : L2.St) (H : Hp) (Q : List (V × V) → Hp → Prop),
    (∃ S, Rel p σ H S ρ c ∧ ∀ vs H1 S1, Rel p σ H1 S1 ρ c1 → Ext p.g H S H1 S1 → Ats p.Z S1 vs ds → Q ((ks.zip vs).map fun kv => (kV kv.1, kv.2)) H1) → tPairs trs σ H Q := by
  induction h with
  | nil =>
    intro keys ks hk hl
    cases keys with
    | nil =>
      cases hk
      exact ⟨[], pps_nil, fun σ H Q ⟨S, R, k⟩ => k [] H S R (Ext.refl R.sub) .nil⟩
    | cons q r => cases hl
  | @cons e es d ds c c1 c2 he hr ih =>
    intro keys ks hk hl
    cases keys with
    | nil => cases hl
    | cons q r =>
      obtain ⟨s, j, q2, rfl, ks', e1, rfl⟩ := keysC_cons hk
      obtain ⟨trs, h3, h4⟩ := ih e1 (by simpa using hl)
      refine ⟨_, pps_cons pe_str he h3, fun σ H Q ⟨S, R, k⟩ => ?_⟩
      refine ⟨S, R, fun y H2 S2 R2 x2 a2 => h4 σ H2 _ ⟨S2, R2, fun vs H3 S3 R3 x3 a3 => ?_⟩⟩
      exact k (y :: vs) H3 S3 R3 (x2.trans x3) (.cons (a2.sub x3.ss) a3)
theorem putK_new {q : Key} {v : V} {kvs : List (Key × V)} (h : (kvs.any fun kv => decide (kv.1 = q)) = false) : putK kvs q v = kvs ++ [(q, v)] := by
  unfold putK
  rw [h]
  rfl
theorem merge_go : ∀ {more acc : List (Key × V)}, ((acc ++ more).map (·.1)).Nodup → mergeK acc more = acc ++ more
  | [], acc, _ => by rw [List.append_nil]; rfl
  | (q, v) :: more, acc, h => by
    have h1 : (acc.any fun kv => decide (kv.1 = q)) = false := by
      rw [List.any_eq_false]
      intro kv hkv
      rw [List.map_append, List.map_cons] at h
      have := (List.nodup_append.mp h).2.2 kv.1 (List.mem_map_of_mem hkv) q List.mem_cons_self
      simpa using this
    show mergeK (putK acc q v) more = _
    rw [putK_new h1, merge_go (by rw [List.append_assoc]; exact h), List.append_assoc]
    rfl
theorem zip_keys {ks : List Key} : ∀ {vs : List V}, vs.length = ks.length → (ks.zip vs).map (·.1) = ks := by
  induction ks with
  | nil => intro vs _; rfl
  | cons k ks ih =>
    intro vs h
    cases vs with
    | nil => cases h
    | cons v vs => rw [List.zip_cons_cons, List.map_cons, ih (by simpa using h)]
theorem merge_zip {ks : List Key} {vs : List V} (h : ks.Nodup) (hl : vs.length = ks.length) : mergeK [] (ks.zip vs) = ks.zip vs := merge_go (by rw [List.nil_append, zip_keys hl]; exact h)
theorem keysC_ok : ∀ {keys : List (Option Expr)} {ks : List Key}, keysC keys = some ks → keys.all (·.isSome) = true ∧ ks.length = keys.length
  | [], _, h => by cases h; exact ⟨rfl, rfl⟩
  | q :: r, ks, h => by
    obtain ⟨s, j, q2, rfl, ks', e1, rfl⟩ := keysC_cons h
    obtain ⟨h3, h4⟩ := keysC_ok e1
    exact ⟨by rw [List.all_cons, h3]; rfl, by rw [List.length_cons, List.length_cons, h4]⟩
/-- what a display does: w the new dict's place -/
theorem disp_core {ks : List Key} {trs : List (TE × TE)} (hn : ks.Nodup) (hl : ds.length = ks.length) (h15 : ks.length ≤ 15)
    (ht : ∀ (σ : L2.St) (H : Hp) (Q : List (V × V) → Hp → Prop), (∃ S, Rel p σ H S ρ c ∧ ∀ vs H1 S1, Rel p σ H1 S1 ρ c1 → Ext p.g H S H1 S1 → Ats p.Z S1 vs ds → Q ((ks.zip vs).map fun kv => (kV kv.1, kv.2)) H1) → tPairs trs σ H Q)
    {σ : L2.St} {H S : Hp} {Q : VK} (R : Rel p σ H S ρ c)
    (q : ∀ w vs H2 S2, H w = none → S w = none → p.H0 w = none → Rel p σ H2 S2 ρ c1 → Ext p.g H S H2 S2 → H2 w = some (.dK []) → S2 w = none → Ats p.Z S2 vs ds → vs.length = ks.length → Q (.ref w) (upd H2 w (.dK (ks.zip vs)))) : tDisp trs σ H Q := by
  intro w hw
  have h0 : p.H0 w = none := R.ext.free hw
  have sw : S w = none := by
    cases e : S w with
    | none => rfl
    | some u => rw [R.sub w u e] at hw; cases hw
  have y : Ext none H S (upd H w (.dK [])) S := Ext.newOwn R.sub hw
  refine ht σ _ _ ⟨S, R.step0 y, fun vs H2 S2 R2 x2 a2 => ?_⟩
  have e2 : H2 w = some (.dK []) := x2.kp w _ (R.ne_g h0) upd_same
  have hv : vs.length = ks.length := by rw [a2.len, hl]
  refine ⟨e2, ks.zip vs, rfl, ?_, ?_⟩
  · rw [List.length_zip]
    omega
  · rw [merge_zip hn hv]
    exact q w vs H2 S2 hw sw h0 R2 (y.none_any.trans x2) e2 (x2.no w sw (by rw [upd_same]; intro z; cases z)) a2 hv
theorem e_dct {ks : List Key} {keys : List (Option Expr)} (hch : Chain X p ρ es ds c c1) (hk : keysC keys = some ks) (hlen : keys.length = es.length) (h0 : keys.isEmpty = false) (h15 : keys.length ≤ 15) (hn : ks.Nodup) : PE X (.Dict keys es pos) (tE p ρ c (.dic ks ds) c1) := by
  obtain ⟨trs, h1, h2⟩ := pps_ok (pos := pos) hch hk hlen
  obtain ⟨h3, h4⟩ := keysC_ok hk
  have hl : ds.length = ks.length := by rw [← hch.len, ← hlen, h4]
  refine peM (pe_frz (pe_disp h1 h3 hlen (by intro z; rw [z] at h0; cases h0) h15)) fun σ H Q ⟨S, R, k⟩ => disp_core hn hl (by omega) h2 R fun w vs H2 S2 hw sw hw0 R2 x2 e2 s2 a2 hv => ?_
  refine ⟨w, _, rfl, upd_same, trivial, fun od => ?_⟩
  rw [upd2]
  have z2 : Sub S2 (upd S2 w (.frz od (.dK (ks.zip vs)))) := fun b o e => by rw [upd_ne (ne_of_none e s2)]; exact e
  have z : Ext p.g H S (upd H2 w (.frz od (.dK (ks.zip vs)))) (upd S2 w (.frz od (.dK (ks.zip vs)))) := by
    refine ⟨fun b o nb e => ?_, fun b e => ?_, x2.ss.trans z2, fun b e e' => ?_, fun b o e => ?_⟩
    · rw [upd_ne (ne_of_none e hw)]; exact x2.kp b o nb e
    · have nb : b ≠ w := fun z => by subst z; exact e hw
      rw [upd_ne nb]; exact x2.st b e
    · have nb : b ≠ w := fun z => by subst z; exact e' hw
      rw [upd_ne nb]; exact x2.no b e e'
    · by_cases nb : b = w
      · subst nb; rw [upd_same] at e ⊢; exact e
      · rw [upd_ne nb] at e ⊢; exact R2.sub b o e
  refine k (.ref w) _ _ (R.step z fun g sc e => ?_) z (.dic ⟨od, upd_same⟩ hv (Ats.sub z2 a2))
  have ng : w ≠ g := fun z => by subst z; exact (R.dr w sc e).2.2 hw0
  rw [upd_ne (Ne.symm ng)]
  exact (R2.dr g sc e).1
/-- {} -/
theorem e_dct0 : PE X (.Dict [] [] pos) (tE p ρ c (.dic [] []) c) := by
  refine peM (pe_frz pe_dnewK) fun σ H Q ⟨S, R, k⟩ => fun w hw => ?_
  have sw : S w = none := by
    cases e : S w with
    | none => rfl
    | some o => rw [R.sub w o e] at hw; cases hw
  refine ⟨w, _, rfl, upd_same, trivial, fun od => ?_⟩
  rw [upd2]
  have z := Ext.new (g := none) R.sub (o := .frz od (.dK [])) hw
  exact k (.ref w) _ _ (R.step0 z) z.none_any (.dic (ks := []) (vs := []) ⟨od, upd_same⟩ rfl .nil)
/-- t.index(x) of texts -/
theorem idxS_ok {z : Str} : ∀ {ys : List Str} {i j : Nat}, idxS z ys i = some j → ∃ k, j = i + k ∧ ys[k]? = some z ∧ ∀ m, m < k → ys[m]? ≠ some z
  | [], i, j, h => by cases h
  | y :: ys, i, j, h => by
    unfold idxS at h
    split at h
    · rename_i e
      cases h
      subst e
      exact ⟨0, rfl, rfl, fun m hm => absurd hm (Nat.not_lt_zero m)⟩
    · rename_i e
      obtain ⟨k, h1, h2, h3⟩ := idxS_ok h
      refine ⟨k + 1, by omega, by simpa using h2, fun m hm => ?_⟩
      cases m with
      | zero => simpa using e
      | succ m => simpa using h3 m (by omega)
theorem e_idx {b : Expr} {ap cp : Pos} {ys : List Str} {z : Str} {j : Nat} (C : Cok X p G) (hp : plainO e = true) (hs : isStar b = false) (hline : (ap.endLine == cp.line) = true) (ha : PE X e (tE p ρ c (.tpx ys) c1)) (hb : PE X b (tE p ρ c1 (.str z) c2)) (hj : idxS z ys 0 = some j) :
    PE X (.Call (.Attribute e "index" ap) [b] [] cp) (tE p ρ c (.int (j : Nat)) c2) := by
  obtain ⟨k, h1, h2, h3⟩ := idxS_ok hj
  rw [Nat.zero_add] at h1
  have hf : ((backTo cp (starEach [b] X.env)).all (fun x => !x.1) && (backToKw cp (keywordEach [] X.env)).all (fun x => x.1.isSome)
      && decide (([b] : List Expr).length + ([] : List Keyword).length + (if ([] : List Keyword).isEmpty then 0 else 1) < 30)) = true := by
    rw [star_cons hs]
    rfl
  have ht : TyOk X "tuple" (fun x H => ∃ a o xs, x = .ref a ∧ H a = some (.frz o (.tup xs)) ∧ o.dict = none) := fun pins σ H s x v I r ⟨a, o, xs, ex, hH, hd⟩ => by
    subst ex
    cases r
    obtain ⟨g1, g2, its, g3, g4⟩ := I.hok a _ hH
    obtain ⟨o', e1, e2, _⟩ := g4
    exact ⟨⟨o', e1, e2⟩, fun b eb => by cases eb; exact ⟨o, g1, hd⟩⟩
  refine peM (pe_mG ht PySem.F.plainAttrs_tuple PySem.F.slot_tuple_index PySem.F.type_tuple_index mt_tup_index ha (pa_cons hb pa_nil (star_cons hs)) (base_plain hp) hf hline (star_cons hs) rfl) fun σ H Q ⟨S, R, q⟩ => ⟨S, R, fun v H1 S1 R1 x1 a1 => ?_⟩
  cases a1 with
  | tpx q1 q2 =>
    refine ⟨⟨_, _, _, rfl, R1.sub _ _ q1, q2⟩, S1, R1, fun u H2 S2 R2 x2 a2 => ⟨_, ys, z, k, rfl, by rw [a2.scal rfl]; rfl, .inl (.inr ⟨_, x2.sub _ _ (x2.ss _ _ q1)⟩), h2, h3, by rw [← h1]; exact q _ H2 S2 R2 (x1.trans x2) (.int _)⟩⟩
/-! ### an object that is made -/
theorem isSf_ok {x : Str} {i : Nat} (h : isSf G x = some i) : ixOf G.N x = some i ∧ (visB G.sc x && okN x) = true := by
  unfold isSf at h
  split at h
  · split at h
    · split at h
      · rename_i j e
        split at h <;> cases h
        exact ⟨e, by assumption⟩
      · cases h
    · cases h
  · cases h
theorem e_sfl (C : Cok X p G) {i : Nat} {nm : Str} {q : Pos} (hk : k ∈ G.fl f) (hi : ixOf G.N nm = some i) (hv : (visB G.sc nm && okN nm) = true) (ho : ρ[i]? = some (.ob k fs ds)) (hl : (fs.zip ds).lookup f = some d) : PE X (.Attribute (.Name nm q) f pos) (tE p ρ c d c) := by
  obtain ⟨h1, h2⟩ := C.fl f k hk
  refine peM (pe_fld (pe_nm C hi hv) rfl) fun σ H Q ⟨S, R, q⟩ => ?_
  obtain ⟨a, dx, vs, g0, g1, g2, g3, g4, g5, g6⟩ := R.slot i _ ho
  obtain ⟨u, hu, au⟩ := g6.lookup g5 hl
  exact ⟨_, g1, a, _, dx, _, u, rfl, g2, h1, h2, hu, q u H S R (Ext.refl R.sub) au⟩
theorem e_mk (C : Cok X p G) {n : Nat} {F : List D → Option (List Str × List D)} {q : Pos} {a : Expr} {es2 : List D} (hk : G.cl k = some (n, F)) (hg : gn G k = true) (hs : (a :: es).any isStar = false) (ha : PA X (a :: es) (tA p ρ c es1 c1)) (hn : es1.length = n) (hd : F es1 = some (fs, es2)) :
    PE X (.Call (.Name k q) (a :: es) [] pos) (tE p ρ c (.obj k fs es2) c1) := by
  obtain ⟨f, fd, ps, lv, h1, h2, h3, h4, h5⟩ := C.cl k n F hk
  obtain ⟨g1, g2⟩ := gl_ok C hg
  rw [List.any_cons, Bool.or_eq_false_iff] at hs
  refine peM (pe_make h2 h4 h5 g1 h1 h3 .nil pass0 ha (okN1 g2) (star_cons hs.1) (any_star hs.2)) fun σ H Q ⟨S, R, k'⟩ => ⟨S, R, fun vs H1 S1 R1 x1 a1 x dx hx hdx hne => ?_⟩
  show spI p.Z k n F (.ref x :: (vs ++ [])) _ _ E0
  rw [List.append_nil]
  have sx : S1 x = none := by
    cases e : S1 x with
    | none => rfl
    | some o => rw [R1.sub x o e] at hx; cases hx
  have y1 : Ext none H1 S1 (upd H1 dx (.own x)) S1 := Ext.newOwn R1.sub hdx
  have hx' : upd H1 dx (.own x) x = none := by rw [upd_ne hne.symm]; exact hx
  have y2 : Ext none (upd H1 dx (.own x)) S1 (upd (upd H1 dx (.own x)) x (.ins (p.Z.cl k) dx [])) S1 := Ext.newOwn y1.sub hx'
  have y := y1.trans y2
  refine ⟨x, dx, S1, vs, es1, es2, fs, rfl, by rw [a1.len, hn], upd_same, sx, y.sub, a1, hd, fun H2 S2 ws dx' x2 e2 hw a2 => ⟨rfl, ?_⟩⟩
  have sx2 : S2 x = none := x2.no x sx (by rw [upd_same]; intro z; cases z)
  have z2 : Sub S2 (upd S2 x (.ins (p.Z.cl k) dx' (fs.zip ws))) := fun b o e => by rw [upd_ne (ne_of_none e sx2)]; exact e
  have z : Ext none H1 S1 H2 (upd S2 x (.ins (p.Z.cl k) dx' (fs.zip ws))) := by
    refine ⟨fun b o _ e => ?_, fun b e => ?_, x2.ss.trans z2, fun b e e' => ?_, fun b o e => ?_⟩
    · exact x2.kp b o (fun w => by cases w; rw [hx] at e; cases e) (y.kp b o (by intro w; cases w) e)
    · exact x2.st b (y.st b e)
    · have nb : b ≠ x := fun w => by subst w; exact e' hx
      rw [upd_ne nb]
      exact x2.no b e (y.st b e')
    · by_cases w : b = x
      · subst w; rw [upd_same] at e; cases e; exact e2
      · rw [upd_ne w] at e; exact x2.sub b o e
  exact k' (.ref x) H2 _ (R1.step0 z) (x1.trans z.none_any) (.obj upd_same hw (Ats.sub z2 a2))
/-! ### isinstance -/
def tyS : Option Ty → String
  | none => "NoneType"
  | some .int => "int"
  | some .bool => "bool"
  | some .str => "str"
  | some .list => "list"
  | some .tuple => "tuple"
  | some .dict => "dict"
theorem at_ty {Z : KC} {S H : Hp} {v : V} {d : D} {q : Option Ty} (s : Sub S H) (a : At Z S v d) (h : tyD d = some q) : TyX Z.K H v (.type (tyS q)) := by
  cases a with
  | non => cases h; exact .base .non
  | bl b => cases h; exact .base (.bl b)
  | int i => cases h; exact .base (.int i)
  | str x => cases h; exact .base (.str x)
  | tup h1 r =>
    cases h
    rcases sub_t s h1 with (h1 | ⟨o, h1⟩) | ⟨o, its, n, h1, h2, _⟩
    · exact .base (.tup h1)
    · exact .fTuple h1
    · exact .kTuple h1 h2
  | lst h1 r =>
    cases h
    rcases sub_l s h1 with (h1 | ⟨o, h1⟩) | ⟨o, its, n, h1, h2, _⟩
    · exact .base (.lst h1)
    · exact .base (.frz h1)
    · exact .kList h1 h2
  | obj h1 l r => cases h
  | dic h1 l r =>
    cases h
    obtain ⟨o, h1⟩ := sub_fz s h1
    exact .fDict h1
  | tpx h1 h2 =>
    cases h
    exact .fTuple (s _ _ h1)
  | dio h1 l r => cases h
theorem kit_one {K : PySem.W.Frag} (q : Option Ty) (u : Ty) : PySem.W.kitOne K (.type (tyS q)) (.type (tyS (some u))) = some (isiD q [u]) := by
  rcases q with _ | q
  · cases u <;> exact kit_ty (by decide +kernel)
  · cases q <;> cases u <;> exact kit_ty (by decide +kernel)
theorem kit_any {K : PySem.W.Frag} (q : Option Ty) : ∀ ts : List Ty, PySem.W.kitAny K (.type (tyS q)) (ts.map fun u => Value.type (tyS (some u))) = some (isiD q ts)
  | [] => by cases q <;> rfl
  | u :: ts => by
    rw [List.map_cons]
    have e : isiD q (u :: ts) = (isiD q [u] || isiD q ts) := by
      cases q with
      | none => rfl
      | some t => simp [isiD]
    refine kitAny_cons (kit_one q u) (fun h => ?_) fun h => ?_
    · rw [e, h, Bool.false_or]; exact kit_any q ts
    · rw [e, h, Bool.true_or]
theorem fr_nm (C : Cok X p G) {x : Str} {t : Ty} (hf : fr G x = true) (ht : tyNm x = some t) : gn G x = true ∧ X.mg x = none ∧ bootBuiltins x = some (.type (tyS (some t))) := by
  unfold tyNm at ht
  split at ht
  · rename_i e; subst e; cases ht; obtain ⟨h1, h2⟩ := fr_ok C (by decide +kernel) hf; exact ⟨h1, h2, rfl⟩
  split at ht
  · rename_i e; subst e; cases ht; obtain ⟨h1, h2⟩ := fr_ok C (by decide +kernel) hf; exact ⟨h1, h2, rfl⟩
  split at ht
  · rename_i e; subst e; cases ht; obtain ⟨h1, h2⟩ := fr_ok C (by decide +kernel) hf; exact ⟨h1, h2, rfl⟩
  split at ht
  · rename_i e; subst e; cases ht; obtain ⟨h1, h2⟩ := fr_ok C (by decide +kernel) hf; exact ⟨h1, h2, rfl⟩
  split at ht
  · rename_i e; subst e; cases ht; obtain ⟨h1, h2⟩ := fr_ok C (by decide +kernel) hf; exact ⟨h1, h2, rfl⟩
  split at ht
  · rename_i e; subst e; cases ht; obtain ⟨h1, h2⟩ := fr_ok C (by decide +kernel) hf; exact ⟨h1, h2, rfl⟩
  · cases ht
theorem pe_tyC (C : Cok X p G) {t : Ty} (h : tyC G e = some t) : PE X e (tC (.ty (tyS (some t)))) := by
  unfold tyC at h
  split at h
  · rename_i x q
    split at h
    · rename_i hf
      obtain ⟨h1, h2, h3⟩ := fr_nm C hf h
      obtain ⟨g1, g2⟩ := gl_ok C h1
      exact pe_bltn g1 h2 h3 rfl (okN3 g2) (okN1 g2)
    · cases h
  · cases h
theorem tyC_star {t : Ty} (h : tyC G e = some t) : isStar e = false := by
  unfold tyC at h
  split at h
  · rfl
  · cases h
/-- a row of types -/
def tTys (ts : List Ty) : TA := fun _ H Q => Q (ts.map fun u => V.ty (tyS (some u))) H
theorem pa_tyCs (C : Cok X p G) : ∀ {es : List Expr} {ts : List Ty}, tyCs G es = some ts → PA X es (tTys ts)
  | [], _, h => by cases h; exact pa_nil
  | e :: es, ts, h => by
    unfold tyCs at h
    split at h
    · rename_i t ts' e1 e2
      cases h
      exact pa_cons (pe_tyC C e1) (pa_tyCs C e2) (star_cons (tyC_star e1))
    · cases h
theorem clsV (ts : List Ty) : Paired ClsV (ts.map fun u => V.ty (tyS (some u))) (ts.map fun u => Value.type (tyS (some u))) := by
  induction ts with
  | nil => exact .nil
  | cons u ts ih => exact .cons (.ty _) ih
theorem e_isi1 (C : Cok X p G) {a t : Expr} {q : Pos} {u : Ty} {ty : Option Ty} (hf : fr G "isinstance" = true) (hs : isStar a = false) (ha : PE X a (tE p ρ c d c1)) (ht : tyC G t = some u) (hd : tyD d = some ty) :
    PE X (.Call (.Name "isinstance" q) [a, t] [] pos) (tE p ρ c (.bl (isiD ty [u])) c1) := by
  obtain ⟨b1, b2⟩ := fr_ok C (by decide +kernel) hf
  obtain ⟨g1, g2⟩ := gl_ok C b1
  refine peM (pe_callB call_isi g1 b2 rfl (pa_cons ha (pa_cons (pe_tyC C ht) pa_nil (star_cons (tyC_star ht))) (star_cons hs)) (by decide) (by decide) (star_cons hs) (any_star (by rw [List.any_cons, tyC_star ht]; rfl))) fun σ H Q ⟨S, R, k⟩ => ⟨S, R, fun v H1 S1 R1 x1 a1 => ?_⟩
  have hty := at_ty R1.sub a1 hd
  rw [← C.K] at hty
  exact ⟨v, _, _, _, _, rfl, .ty _, hty, kit_one ty u, k _ H1 S1 R1 x1 (.bl _)⟩
theorem e_isiT (C : Cok X p G) {a : Expr} {ts : List Expr} {q tp : Pos} {j : Nat} {us : List Ty} {ty : Option Ty} (hf : fr G "isinstance" = true) (hs : isStar a = false) (ha : PE X a (tE p ρ c d c1)) (ht : tyCs G ts = some us) (hd : tyD d = some ty) (hl : us.length ≤ 20) :
    PE X (.Call (.Name "isinstance" q) [a, .Tuple ts j tp] [] pos) (tE p ρ c (.bl (isiD ty us)) c1) := by
  obtain ⟨b1, b2⟩ := fr_ok C (by decide +kernel) hf
  obtain ⟨g1, g2⟩ := gl_ok C b1
  refine peM (pe_callB call_isiT g1 b2 rfl (pa_cons ha (pa_cons (pe_tup (pa_tyCs C ht)) pa_nil) (star_cons hs)) (by decide) (by decide) (star_cons hs) rfl) fun σ H Q ⟨S, R, k⟩ => ⟨S, R, fun v H1 S1 R1 x1 a1 => ?_⟩
  have hz : (us.map fun u => V.ty (tyS (some u))).length ≤ sizeLine := by
    rw [List.length_map]
    exact Nat.le_trans hl (by decide)
  refine ⟨hz, fun w hw => ?_⟩
  have x2 := Ext.newOwn (g := none) R1.sub (o := .tup (us.map fun u => V.ty (tyS (some u)))) hw
  have hty := at_ty x2.sub a1 hd
  rw [← C.K] at hty
  exact ⟨v, w, _, _, _, _, rfl, upd_same, clsV us, hty, kit_any ty us, k _ _ S1 (R1.step0 x2) (x1.trans x2.none_any) (.bl _)⟩
/-! ### texts -/
theorem Ats.of_strs {Z : KC} {S : Hp} : ∀ (ns : List Str), Ats Z S (ns.map V.str) (ns.map D.str)
  | [] => .nil
  | n :: ns => .cons (.str n) (Ats.of_strs ns)
theorem e_sls {lo hi : Option Expr} {l h : Option Int} {p2 : Pos} {z : Str} (hz : z.length ≤ line) (ha : PE X a (tE p ρ c (.str z) c1)) (hl : PO X lo (tO p ρ c1 l c2)) (hh : PO X hi (tO p ρ c2 h c3)) :
    PE X (.Subscript a (.Slice lo hi none p2) pos) (tE p ρ c (.str (cutS z l h)) c3) :=
  peM (pe_slice sl_str ha hl hh) fun σ H Q ⟨S, R, q⟩ => ⟨S, R, fun v H1 S1 R1 x1 a1 => ⟨S1, R1, fun H2 S2 R2 x2 => ⟨S2, R2, fun H3 S3 R3 x3 => ⟨z, a1.scal rfl, hz, q _ H3 S3 R3 ((x1.trans x2).trans x3) (.str _)⟩⟩⟩⟩
theorem e_ixs (hp : plainIxB b = true) {k : Int} {z : Str} {ch : Nat} (hz : z.length ≤ line) (ha : PE X a (tE p ρ c (.str z) c1)) (hb : PE X b (tE p ρ c1 (.int k) c2)) (h : atI z.cps.toList k = some ch) : PE X (.Subscript a b pos) (tE p ρ c (.str ⟨#[ch]⟩) c2) :=
  peM (pe_ix ix_str ha hb (plainIx_ok hp)) fun σ H Q ⟨S, R, q⟩ => ⟨S, R, fun v H1 S1 R1 x1 a1 => ⟨S1, R1, fun u H2 S2 R2 x2 a2 => ⟨z, k, ch, a1.scal rfl, a2.int_inv, hz, h, q _ H2 S2 R2 (x1.trans x2) (.str _)⟩⟩⟩
theorem e_tm0 {ap cp : Pos} {x : Str} (hp : plainO e = true) (hline : (ap.endLine == cp.line) = true) (ha : PE X e (tE p ρ c (.str x) c1)) : PE X (.Call (.Attribute e "isdigit" ap) [] [] cp) (tE p ρ c (.bl (Txt.isdigit x)) c1) :=
  peM (pe_m0 F.slot_str_isdigit F.type_str_isdigit mt_isdigit ha (base_plain hp) hline) fun σ H Q ⟨S, R, k⟩ => ⟨S, R, fun v H1 S1 R1 x1 a1 => ⟨⟨x, a1.scal rfl⟩, x, a1.scal rfl, rfl, trivial, k _ H1 S1 R1 x1 (.bl _)⟩⟩
theorem e_tm1 {m : M1t} {nm : Str} {b : Expr} {ap cp : Pos} {x y : Str} (hn : m1C nm = some m) (hp : plainO e = true) (hs : isStar b = false) (hline : (ap.endLine == cp.line) = true) (ha : PE X e (tE p ρ c (.str x) c1)) (hb : PE X b (tE p ρ c1 (.str y) c2)) (hd : m1D m x y = some d) :
    PE X (.Call (.Attribute e nm ap) [b] [] cp) (tE p ρ c d c2) := by
  have st : starEach [b] X.env = [(false, eval b X.env)] := by rw [star_cons hs]; rfl
  unfold m1C at hn
  split at hn
  · rename_i e1; subst e1; cases hn; cases hd
    exact peM (pe_m1 F.slot_str_startswith F.type_str_startswith mt_startswith ha hb st (base_plain hp) hline) fun σ H Q ⟨S, R, k⟩ => ⟨S, R, fun v H1 S1 R1 x1 a1 => ⟨⟨x, a1.scal rfl⟩, S1, R1, fun u H2 S2 R2 x2 a2 => ⟨x, y, a1.scal rfl, by rw [a2.scal rfl]; rfl, k _ H2 S2 R2 (x1.trans x2) (.bl _)⟩⟩⟩
  split at hn
  · rename_i e1; subst e1; cases hn; cases hd
    exact peM (pe_m1 F.slot_str_endswith F.type_str_endswith mt_endswith ha hb st (base_plain hp) hline) fun σ H Q ⟨S, R, k⟩ => ⟨S, R, fun v H1 S1 R1 x1 a1 => ⟨⟨x, a1.scal rfl⟩, S1, R1, fun u H2 S2 R2 x2 a2 => ⟨x, y, a1.scal rfl, by rw [a2.scal rfl]; rfl, k _ H2 S2 R2 (x1.trans x2) (.bl _)⟩⟩⟩
  split at hn
  · rename_i e1; subst e1; cases hn; cases hd
    exact peM (pe_m1 F.slot_str_find F.type_str_find mt_find ha hb st (base_plain hp) hline) fun σ H Q ⟨S, R, k⟩ => ⟨S, R, fun v H1 S1 R1 x1 a1 => ⟨⟨x, a1.scal rfl⟩, S1, R1, fun u H2 S2 R2 x2 a2 => ⟨x, y, a1.scal rfl, by rw [a2.scal rfl]; rfl, k _ H2 S2 R2 (x1.trans x2) (.int _)⟩⟩⟩
  split at hn
  · rename_i e1; subst e1; cases hn
    have hd' : (if (y.length == 0) = false ∧ x.length + 2 ≤ line then some (D.lst ((Txt.split x y).map .str)) else none) = some d := hd
    split at hd' <;> cases hd'
    rename_i hz
    exact peM (pe_m1 F.slot_str_split F.type_str_split mt_split ha hb st (base_plain hp) hline) fun σ H Q ⟨S, R, k⟩ => ⟨S, R, fun v H1 S1 R1 x1 a1 => ⟨⟨x, a1.scal rfl⟩, S1, R1, fun u H2 S2 R2 x2 a2 => ⟨x, y, a1.scal rfl, by rw [a2.scal rfl]; rfl, hz.1, hz.2, fun w hw => by
      have x3 := Ext.new (g := none) R2.sub (o := .lst ((Txt.split x y).map V.str)) hw
      exact k _ _ _ (R2.step0 x3) ((x1.trans x2).trans x3.none_any) (.lst (SqL.of upd_same) (Ats.of_strs _))⟩⟩⟩
  · cases hn
theorem strs_data {Z : KC} {S : Hp} : ∀ {ds : List D} {ys : List Str} {vs : List V}, D.strs ds = some ys → Ats Z S vs ds → vs = ys.map V.str
  | [], _, _, h, .nil => by cases h; rfl
  | .str i :: r, ys, _, h, .cons a as => by
    cases e : D.strs r with
    | none =>
      have h' : (D.strs r).map (i :: ·) = some ys := h
      rw [e] at h'
      cases h'
    | some zs =>
      have h' : (D.strs r).map (i :: ·) = some ys := h
      rw [e] at h'
      cases h'
      rw [List.map_cons, ← strs_data e as, a.scal rfl]
      rfl
theorem e_join {b : Expr} {ap cp : Pos} {x : Str} {isL : Bool} (C : Cok X p G) (hp : plainO e = true) (hs : isStar b = false) (hline : (ap.endLine == cp.line) = true) (ha : PE X e (tE p ρ c (.str x) c1)) (hb : PE X b (tL p ρ c1 isL ds c2)) (hd : joinD x ds = some d) :
    PE X (.Call (.Attribute e "join" ap) [b] [] cp) (tE p ρ c d c2) := by
  have st : starEach [b] X.env = [(false, eval b X.env)] := by rw [star_cons hs]; rfl
  unfold joinD at hd
  split at hd
  · rename_i ys hy
    split at hd <;> cases hd
    rename_i hz
    refine peM (pe_m1 F.slot_str_join F.type_str_join mt_join ha hb st (base_plain hp) hline) fun σ H Q ⟨S, R, k⟩ => ⟨S, R, fun v H1 S1 R1 x1 a1 => ⟨⟨x, a1.scal rfl⟩, S1, R1, fun w vs H2 S2 R2 x2 hq a2 => ?_⟩⟩
    have hv := strs_data hy a2
    subst hv
    have hq2 := hq H2 S2 (Ext.refl R2.sub)
    refine ⟨x, w, ys, a1.scal rfl, rfl, ?_, hz, k _ H2 S2 R2 (x1.trans x2) (.str _)⟩
    rw [C.K]
    cases isL with
    | true => exact .inl hq2
    | false => exact .inr (sub_t R2.sub hq2)
  · cases hd
theorem e_fst {v1 v2 : Expr} {rest : List Expr} {ts : List TE} {out : Str} (hj : PJ X (v1 :: v2 :: rest) ts) (h : ∀ (σ : L2.St) (H : Hp) (Q : Str → Hp → Prop), (∃ S, Rel p σ H S ρ c ∧ ∀ H1 S1, Rel p σ H1 S1 ρ c1 → Ext p.g H S H1 S1 → Q out H1) → tJs ts Str.empty σ H Q) : PE X (.JoinedStr (v1 :: v2 :: rest) pos) (tE p ρ c (.str out) c1) :=
  peM (pe_joined hj) fun σ H Q ⟨S, R, k⟩ => h σ H _ ⟨S, R, fun H1 S1 R1 x1 => k _ H1 S1 R1 x1 (.str _)⟩
theorem fst_cons {e1 : Expr} {te : TE} {es : List Expr} {ts : List TE} {y acc out : Str} (he : PE X e1 te) (hj : PJ X es ts) (hz : (acc ++ y).length ≤ line) (ht : ∀ (σ : L2.St) (H : Hp) (Q : VK), (∃ S, Rel p σ H S ρ c ∧ ∀ H1 S1, Rel p σ H1 S1 ρ c1 → Ext p.g H S H1 S1 → Q (.str y) H1) → te σ H Q)
    (h : ∀ (σ : L2.St) (H : Hp) (Q : Str → Hp → Prop), (∃ S, Rel p σ H S ρ c1 ∧ ∀ H1 S1, Rel p σ H1 S1 ρ c2 → Ext p.g H S H1 S1 → Q out H1) → tJs ts (acc ++ y) σ H Q) :
    PJ X (e1 :: es) (te :: ts) ∧ ∀ (σ : L2.St) (H : Hp) (Q : Str → Hp → Prop), (∃ S, Rel p σ H S ρ c ∧ ∀ H1 S1, Rel p σ H1 S1 ρ c2 → Ext p.g H S H1 S1 → Q out H1) → tJs (te :: ts) acc σ H Q :=
  ⟨.cons he hj, fun σ H Q ⟨S, R, k⟩ => ht σ H _ ⟨S, R, fun H1 S1 R1 x1 => ⟨y, rfl, hz, h σ H1 Q ⟨S1, R1, fun H2 S2 R2 x2 => k H2 S2 R2 (x1.trans x2)⟩⟩⟩⟩
theorem fmt_int {i : Int} {y : Str} (h : fmtD (.int i) = some y) : i.natAbs.log2 < 1920 ∧ y = (toString i : Str) := by
  by_cases hz : i.natAbs.log2 < 1920
  · have h : (if i.natAbs.log2 < 1920 then some (toString i : Str) else none) = some y := h
    rw [if_pos hz] at h
    exact ⟨hz, (Option.some.inj h).symm⟩
  · have h : (if i.natAbs.log2 < 1920 then some (toString i : Str) else none) = some y := h
    rw [if_neg hz] at h
    cases h
theorem fmt_str {x y : Str} (h : fmtD (.str x) = some y) : x.length ≤ line ∧ y = x := by
  have h : (if x.length ≤ line then some x else none) = some y := h
  by_cases hz : x.length ≤ line
  · rw [if_pos hz] at h
    exact ⟨hz, (Option.some.inj h).symm⟩
  · rw [if_neg hz] at h
    cases h
theorem fmt_val {e1 : Expr} {y : Str} {q : Pos} (he : PE X e1 (tE p ρ c d c1)) (hd : fmtD d = some y) : PE X (.FormattedValue e1 (-1) none q) (tFmt (tE p ρ c d c1)) ∧ ∀ (σ : L2.St) (H : Hp) (Q : VK), (∃ S, Rel p σ H S ρ c ∧ ∀ H1 S1, Rel p σ H1 S1 ρ c1 → Ext p.g H S H1 S1 → Q (.str y) H1) → tFmt (tE p ρ c d c1) σ H Q := by
  refine ⟨pe_fmt he, fun σ H Q ⟨S, R, k⟩ => ⟨S, R, fun v H1 S1 R1 x1 a1 => ?_⟩⟩
  cases d with
  | int i =>
    obtain ⟨h1, h2⟩ := fmt_int hd
    subst h2
    exact .inr ⟨i, a1.int_inv, h1, k H1 S1 R1 x1⟩
  | str x =>
    obtain ⟨h1, h2⟩ := fmt_str hd
    subst h2
    exact .inl ⟨_, a1.scal rfl, h1, k H1 S1 R1 x1⟩
  | _ => cases hd
end
end Rf

/-! Rf, part R: dict comprehensions. -/
namespace Rf
open PySem PySem.Spec L2
section
variable {J : It} {n : Nat} {G : Hp → Prop} {Y : Nat → Hp → V → Hp → Prop}
theorem dc_by (w : Walk J n G Y) {g : TG} {tt : TT} {tk tv : TE} {vs : List Nat} {σ : L2.St} {H1 : Hp} {a : Addr} {Qd : Hp → Prop} (Pv : Nat → Hp → Prop) (h0 : Pv 0 (upd H1 a (.dK []))) (hG : ∀ i H, i ≤ n → Pv i H → G H)
    (hs : ∀ i x H H', i < n → Pv i H → Y i H x H' → g x (L2.wipe σ vs) H' fun σ2 H2 => L2.wipe σ2 vs = L2.wipe σ vs ∧ tt σ2 H2 fun b H3 => if b = true then tk σ2 H3 fun y H4 => tv σ2 H4 fun z H5 => ∃ kvs k, y = kV k ∧ H5 a = some (.dK kvs) ∧ kvs.length < sizeLine ∧ Pv (i + 1) (upd H5 a (.dK (putK kvs k z))) else Pv (i + 1) H3)
    (hd : ∀ H, Pv n H → Qd H) : ∃ W : Nat → Nat → Hp → Prop, (∃ m, W 0 m (upd H1 a (.dK []))) ∧ ∀ i m H, W i m H → (J.stop i H ∧ Qd H) ∨ (J.go i H ∧ ∃ Nx : Hp → Prop, (∀ H', Nx H' → ∃ m', m' < m ∧ W (i + 1) m' H') ∧ ∀ x H', J.yld i H x H' → g x (L2.wipe σ vs) H' fun σ2 H2 => L2.wipe σ2 vs = L2.wipe σ vs ∧ tt σ2 H2 fun b H3 =>
      if b = true then tk σ2 H3 fun y H4 => tv σ2 H4 fun z H5 => ∃ kvs k, y = kV k ∧ H5 a = some (.dK kvs) ∧ kvs.length < sizeLine ∧ Nx (upd H5 a (.dK (putK kvs k z))) else Nx H3) := by
  refine ⟨fun i m H => m = n - i ∧ i ≤ n ∧ Pv i H, ⟨n, by simp, Nat.zero_le _, h0⟩, ?_⟩
  rintro i m H ⟨rfl, hi, q⟩
  by_cases lt : i < n
  · exact .inr ⟨w.goes i H lt (hG i H hi q), Pv (i + 1), fun H' q' => ⟨n - (i + 1), by omega, rfl, lt, q'⟩, fun x H' y => hs i x H H' lt q (w.yields i H x H' lt (hG i H hi q) y)⟩
  · obtain rfl : i = n := by omega
    exact .inl ⟨w.stops H (hG _ H hi q), hd H q⟩
end
section
variable {X : Cx} {p : Par} {G : Gam} {ρ : List Slot} {c c1 c2 : Int} {d : D} {ds : List D} {pos : Pos}
def dcF (ρ : List Slot) (own : List Nat) (tg : IG) (t : IT) (k e : IE) : D → Int → Option (Option (Key × D) × Int) := fun d c =>
  match bindG tg d (wipeS ρ own) with
  | some ρ1 => match t.run ρ1 c with
    | some (true, c2) => match k.run ρ1 c2 with
      | some (y, c3) => match e.run ρ1 c3 with
        | some (x, c4) => (keyOf y).map fun q => (some (q, x), c4)
        | none => none
      | none => none
    | some (false, c2) => some (none, c2)
    | none => none
  | none => none
theorem dcGo_cons {f : D → Int → Option (Option (Key × D) × Int)} {a l : List Key × List D} (h : dcGo f (d :: ds) a c = some (l, c2)) : ∃ o c1, f d c = some (o, c1) ∧ (match o with
    | some q => a.1.length < line ∧ dcGo f ds (dputD a.1 a.2 q.1 q.2) c1 = some (l, c2)
    | none => dcGo f ds a c1 = some (l, c2)) := by
  unfold dcGo at h
  cases e1 : f d c with
  | none => rw [e1] at h; cases h
  | some q =>
    obtain ⟨o, c1⟩ := q
    rw [e1] at h
    refine ⟨o, c1, rfl, ?_⟩
    cases o with
    | none => exact h
    | some q =>
      dsimp only at h
      split at h
      · exact ⟨by assumption, h⟩
      · cases h
theorem dcF_inv {own : List Nat} {tg : IG} {t : IT} {k e : IE} {o : Option (Key × D)} (h : dcF ρ own tg t k e d c = some (o, c1)) : ∃ ρ1 b c2, bindG tg d (wipeS ρ own) = some ρ1 ∧ t.run ρ1 c = some (b, c2) ∧
    ((b = true ∧ ∃ y c3 x q, k.run ρ1 c2 = some (y, c3) ∧ e.run ρ1 c3 = some (x, c1) ∧ keyOf y = some q ∧ o = some (q, x)) ∨ (b = false ∧ c2 = c1 ∧ o = none)) := by
  unfold dcF at h
  cases e1 : bindG tg d (wipeS ρ own) with
  | none => rw [e1] at h; cases h
  | some ρ1 =>
    rw [e1] at h
    dsimp only at h
    cases e2 : t.run ρ1 c with
    | none => rw [e2] at h; cases h
    | some q =>
      obtain ⟨b, c2⟩ := q
      rw [e2] at h
      cases b with
      | false => cases h; exact ⟨ρ1, false, _, rfl, e2, .inr ⟨rfl, rfl, rfl⟩⟩
      | true =>
        dsimp only at h
        cases e3 : k.run ρ1 c2 with
        | none => rw [e3] at h; cases h
        | some q =>
          obtain ⟨y, c3⟩ := q
          rw [e3] at h
          dsimp only at h
          cases e4 : e.run ρ1 c3 with
          | none => rw [e4] at h; cases h
          | some q =>
            obtain ⟨x, c4⟩ := q
            rw [e4] at h
            obtain ⟨q, e5, h5⟩ := map_some h
            cases h5
            exact ⟨ρ1, true, _, rfl, e2, .inl ⟨rfl, y, c3, x, q, e3, e4, e5, rfl⟩⟩
/-- what holds between two turns -/
def DcInv (p : Par) (f : D → Int → Option (Option (Key × D) × Int)) (ds : List D) (l : List Key × List D) (c2 : Int) (H1 S1 : Hp) (w : Addr) (i : Nat) (H : Hp) : Prop :=
  ∃ S c vs a, Ext p.g H1 S1 H S ∧ (∀ g sc, p.dg = some (g, sc) → H g = some (.lst [.ref sc, .int c])) ∧ H w = some (.dK (a.1.zip vs)) ∧ S w = none ∧ vs.length = a.1.length ∧ Ats p.Z S vs a.2 ∧ dcGo f (ds.drop i) a c = some (l, c2)
theorem e_dc (C : Cok X p G) {own : List Nat} {kx elt tg it : Expr} {ifs : List Expr} {scope : Scope} {ig : IG} {t : IT} {ik ie : IE} {l : List Key × List D} (hk : blkB G.N G.sc scope = true) (hown : own = (ownC G.N scope).map (·.2)) (hset : isSet it = false) (hi : PI X tg it (tI p ρ c ds c1))
    (hg : ∀ X' : Cx, Cok X' p { G with sc := relS scope G.sc, top := false } → PG X' tg (uG p ig)) (ht : ∀ X' : Cx, Cok X' p { G with sc := relS scope G.sc, top := false } → PTs X' ifs (uT p t)) (hkx : ∀ X' : Cx, Cok X' p { G with sc := relS scope G.sc, top := false } → PE X' kx (uE p ik)) (he : ∀ X' : Cx, Cok X' p { G with sc := relS scope G.sc, top := false } → PE X' elt (uE p ie))
    (ho : ∀ j ∈ gix ig, j ∈ own) (hgo : dcGo (dcF ρ own ig t ik ie) ds ([], []) c1 = some (l, c2)) : PE X (.DictComp kx elt [⟨tg, it, ifs, 0⟩] scope pos) (tE p ρ c (.dic l.1 l.2) c2) := by
  subst hown
  refine peM (pe_frz (pe_dc C.calm C.nd hi (blk_ok C hk) (fun s H w cl fp => hg _ (C.blk hk s H w cl fp)) (fun s H w cl fp => ht _ (C.blk hk s H w cl fp)) (fun s H w cl fp => hkx _ (C.blk hk s H w cl fp)) (fun s H w cl fp => he _ (C.blk hk s H w cl fp)) (fold_pure hset X.env))) fun σ H Q ⟨S, R, kk⟩ => ⟨S, R, fun J H1 S1 R1 x1 hJ w hw => ?_⟩
  obtain ⟨Gd, Y, wk, hG, hY⟩ := hJ
  have sw : S1 w = none := by
    cases e : S1 w with
    | none => rfl
    | some o => rw [R1.sub w o e] at hw; cases hw
  have dr0 : ∀ g sc, p.dg = some (g, sc) → w ≠ g := fun g sc e z => by
    subst z
    rw [(R1.dr w sc e).1] at hw
    cases hw
  have nw : some w ≠ p.g := fun z => by
    cases e : p.dg with
    | none => unfold Par.g at z; rw [e] at z; cases z
    | some q =>
      obtain ⟨g, sc⟩ := q
      unfold Par.g at z; rw [e] at z
      exact dr0 g sc e (Option.some.inj z)
  refine dc_by wk (Qd := fun H => ∃ d u, V.ref w = .ref d ∧ H d = some u ∧ Mut (some u) ∧ ∀ od, Q (.ref w) (upd H d (.frz od u))) (DcInv p (dcF ρ ((ownC G.N scope).map (·.2)) ig t ik ie) ds l c2 H1 S1 w) ?_ ?_ ?_ ?_
  · refine ⟨S1, c1, [], ([], []), Ext.newOwn R1.sub hw, fun g sc e => ?_, upd_same, sw, rfl, .nil, hgo⟩
    rw [upd_ne (dr0 g sc e).symm]
    exact (R1.dr g sc e).1
  · rintro i H hi ⟨S, c, vs, a, x, _⟩
    exact hG H S x.ss x.sub
  · rintro i v H H' hi ⟨S, c, vs, a, x, hd, hwl, hS, hl, ra, hgo⟩ y
    obtain ⟨S3, d, hdi, av, x3⟩ := hY i H S v H' hi x.ss x.sub y
    have R : Rel p σ H S ρ c := R1.step x hd
    have R3 : Rel p σ H' S3 ρ c := R.step0 x3
    have w3 : H' w = some (.dK (a.1.zip vs)) := x3.kp w _ (by intro z; cases z) hwl
    have s3 : S3 w = none := x3.no w hS (by rw [hwl]; intro z; cases z)
    have hdrop : ds.drop i = d :: ds.drop (i + 1) := by
      have hlt : i < ds.length := hi
      rw [List.drop_eq_getElem_cons hlt]
      rw [List.getElem?_eq_getElem hlt] at hdi
      rw [Option.some.inj hdi]
    rw [hdrop] at hgo
    obtain ⟨o, c3, hf, hrest⟩ := dcGo_cons hgo
    obtain ⟨ρ1, b, c4, hb, ht, hcase⟩ := dcF_inv hf
    refine ⟨_, d, ρ1, hb, S3, c, R3.wipe _, av, fun σ2 R2 sb => ⟨wipe_back sb ho, ρ1, c, b, c4, ht, S3, R2, fun H3 S4 R4 x4 => ?_⟩⟩
    have w4 : H3 w = some (.dK (a.1.zip vs)) := x4.kp w _ nw w3
    have s4 : S4 w = none := x4.no w s3 (by rw [w3]; intro z; cases z)
    have x13 : Ext p.g H1 S1 H3 S4 := (x.trans x3.none_any).trans x4
    rcases hcase with ⟨rfl, y, c5, u, q, hy, hu, hq, rfl⟩ | ⟨rfl, rfl, rfl⟩
    · refine iteT ⟨ρ1, c4, y, c5, hy, S4, R4, fun yv H5 S5 R5 x5 ay => ⟨ρ1, c5, u, c3, hu, S5, R5, fun uv H6 S6 R6 x6 au => ?_⟩⟩
      have w6 : H6 w = some (.dK (a.1.zip vs)) := x6.kp w _ nw (x5.kp w _ nw w4)
      have s6 : S6 w = none := x6.no w (x5.no w s4 (by rw [w4]; intro z; cases z)) (by rw [x5.kp w _ nw w4]; intro z; cases z)
      have x16 : Ext p.g H1 S1 H6 S6 := (x13.trans x5).trans x6
      obtain ⟨vs2, e1, e2, e3⟩ := put_zip (q := q) au ((((ra.sub x3.ss).sub x4.ss).sub x5.ss).sub x6.ss) hl
      refine ⟨_, q, at_key ay hq, w6, ?_, S6, c3, vs2, dputD a.1 a.2 q u, x16.updNew hw s6, fun g sc e => ?_, ?_, s6, e2, e3, hrest.2⟩
      · rw [List.length_zip]
        exact Nat.lt_of_le_of_lt (Nat.min_le_left _ _) hrest.1
      · rw [upd_ne (dr0 g sc e).symm]
        exact (R6.dr g sc e).1
      · rw [upd_same, e1]
    · exact iteF ⟨S4, c4, vs, a, x13, fun g sc e => (R4.dr g sc e).1, w4, s4, hl, (ra.sub x3.ss).sub x4.ss, hrest⟩
  · rintro H ⟨S, c, vs, a, x, hd, hwl, hS, hl, ra, hgo⟩
    rw [List.drop_length] at hgo
    cases hgo
    refine ⟨w, _, rfl, hwl, trivial, fun od => ?_⟩
    have x2 : Ext p.g H1 S1 (upd H w (.frz od (.dK (l.1.zip vs)))) (upd S w (.frz od (.dK (l.1.zip vs)))) := (x.updNew (o := .frz od (.dK (l.1.zip vs))) hw hS).adopt hw upd_same hS
    refine kk _ _ _ (R1.step x2 fun g sc e => ?_) (x1.trans x2) (.dic ⟨od, upd_same⟩ hl (ra.sub fun b u h => ?_))
    · rw [upd_ne (dr0 g sc e).symm]
      exact hd g sc e
    · rw [upd_ne (fun e => by subst e; rw [hS] at h; cases h)]
      exact h
end
end Rf

/-! Rf, part J0: what sorting needs. -/
namespace Rf
open PySem PySem.Spec L2
open PyProof.Rows (ksk_rest ksk_tree ksk_end ksk_fold ksk_t1 ksk_s1 ksk_l1)

section
variable {X : Cx} {pins : List (Addr × Obj)} {σ : L2.St} {H : Hp} {s : Shared} {h' : Heap}
/-- two untracked records of ours have turned, one of them is tracked from now on -/
theorem Inv.adopt {t' : Nat} {a b : Addr} {o : HO} (I : Inv X pins σ H s) (fa : FpOk X pins H a) (fb : FpOk X pins H b) (ha : ∃ u, h'.get? a = some u)
    (k : ∀ d u, d ≠ a → d ≠ b → s.heap.get? d = some u → h'.get? d = some u) (new : ObjOk X.prog X.w (upd H a o) h' a o) : Inv X pins σ (upd H a o) { s with heap := h', toks := t' } := by
  have hch : ∀ d ∈ [a, b], FpOk X pins H d := fun d hd => by
    rcases List.mem_cons.mp hd with e | hd
    · rw [e]; exact fa
    · rw [List.mem_singleton.mp hd]; exact fb
  have out : ∀ d, d ∉ [a, b] → d ≠ a ∧ d ≠ b := fun d hd => ⟨fun e => hd (e ▸ List.mem_cons_self), fun e => hd (e ▸ List.mem_cons_of_mem _ List.mem_cons_self)⟩
  have hn : H a = none := fa.1
  have nit : ∀ d u, H d = some u → d ≠ a ∧ d ≠ b := fun d u e => ⟨ne_of_none e hn, ne_of_none e fb.1⟩
  refine I.step (g' := s.gens) (d' := s.drawn) (ch := [a, b]) (fun d hd => ⟨(hch d hd).2.2.2.1, (hch d hd).2.1, (hch d hd).2.2.2.2.1, (hch d hd).2.2.2.2.2⟩) (fun d u _ _ hc e _ => k d u (out d hc).1 (out d hc).2 e)
    (fun d u _ _ hc e _ => ⟨u.slots, k d u (out d hc).1 (out d hc).2 e⟩) (fun d u hc e n => ?_) (fun d u hc e => ⟨u, k d u (out d hc).1 (out d hc).2 e⟩) (fun d xs e => ?_) (fun d u v e => ?_) (fun d ps e => ⟨#[], ?_⟩) (fun m hm => ?_) (fun d u e => ?_) I.bare
  · rw [upd_ne (out d hc).1]; exact n
  · rw [upd_ne (ne_of_none e hn)]; exact e
  · rw [upd_ne (ne_of_none e hn)]; exact e
  · rw [upd_ne (ne_of_none e hn), e]; simp
  · obtain ⟨u, es, ep, ho, r⟩ := hm
    exact ⟨u, es, ep, k _ u (fun z => fa.2.1 z.symm) (fun z => fb.2.1 z.symm) ho, r⟩
  · by_cases hb : d = a
    · subst hb
      rw [upd_same] at e
      cases e
      exact new
    · rw [upd_ne hb] at e
      refine (I.hok d u e).stay (fun c v hc q => ?_) (fun c q => by rw [upd_ne (ne_of_none q hn)]; exact q) fun c xs q => by rw [upd_ne (ne_of_none q hn)]; exact q
      rcases hc with z | z
      · rw [z] at q ⊢; exact k _ v (nit d u e).1 (nit d u e).2 q
      · exact k c v (nit c _ z).1 (nit c _ z).2 q
/-- .. one has turned -/
theorem FpOk.turn {t' : Nat} {it : Addr} (I : Inv X pins σ H s) (f : FpOk X pins H it) (k : ∀ b o, b ≠ it → s.heap.get? b = some o → h'.get? b = some o) : Inv X pins σ H { s with heap := h', toks := t' } :=
  I.turned k f.1 f.2.1 f.2.2.2.1 f.2.2.2.2.1 f.2.2.2.2.2
end
theorem keysD_get {f : List D → Option D} : ∀ {l ks : List D} {i : Nat} {d : D}, keysD f l = some ks → l[i]? = some d → ∃ k, ks[i]? = some k ∧ f [d] = some k
  | [], _, _, _, _, h => by simp at h
  | d0 :: l, ks, i, d, e, h => by
    unfold keysD at e
    split at e
    · rename_i k ks' e1 e2
      cases e
      cases i with
      | zero => simp at h; subst h; exact ⟨k, rfl, e1⟩
      | succ i =>
        obtain ⟨k', h1, h2⟩ := keysD_get (i := i) (d := d) e2 (by simpa using h)
        exact ⟨k', by simpa using h1, h2⟩
    · cases e
theorem keysD_len {f : List D → Option D} : ∀ {l ks : List D}, keysD f l = some ks → ks.length = l.length
  | [], _, e => by cases e; rfl
  | d0 :: l, ks, e => by
    unfold keysD at e
    split at e
    · rename_i k ks' e1 e2
      cases e
      rw [List.length_cons, List.length_cons, keysD_len e2]
    · cases e
theorem each_keysD {X : Cx} {Z : KC} {pins : List (Addr × Obj)} {σ : L2.St} {H S : Hp} {s : Shared} (hK : X.K = Z.K) (I : Inv X pins σ H s) (hs : Sub S H) : ∀ {kvs : List V} {us : List Value} {ks : List D}, Vals kvs us → Ats Z S kvs ks → ks.all (fun k => k.pd.isSome) = true →
    PySem.W.EachIs (fun u k => ∃ as, Reads s.heap u k as) us (ks.map pdK)
  | _, _, _, .nil, .nil, _ => .nil
  | _, _, _, .cons r rs, .cons a as, h => by
    rw [List.all_cons, Bool.and_eq_true] at h
    refine .cons ?_ (each_keysD hK I hs rs as h.2)
    obtain ⟨e, he⟩ := Option.isSome_iff_exists.mp h.1
    have q := (At.sub hs a).dp he
    rw [← hK] at q
    unfold pdK
    rw [he]
    exact Dp.reads I _ _ _ q r
theorem each_back {Z : KC} {S : Hp} {β : Type} {f : β → D} : ∀ {us : List Value} {bs : List β}, PySem.W.EachIs (fun u b => ∃ v, RelV v u ∧ At Z S v (f b)) us bs → ∃ vs, Vals vs us ∧ Ats Z S vs (bs.map f)
  | _, _, .nil => ⟨[], .nil, .nil⟩
  | _, _, .cons ⟨v, r, a⟩ t => by
    obtain ⟨vs, h1, h2⟩ := each_back t
    exact ⟨v :: vs, .cons r h1, .cons a h2⟩
theorem each_zip {Z : KC} {S : Hp} : ∀ {vs : List V} {us : List Value} {ds : List D} {ks : List PyData}, Vals vs us → Ats Z S vs ds → ks.length = ds.length → PySem.W.EachIs (fun u (b : PyData × D) => ∃ v, RelV v u ∧ At Z S v b.2) us (ks.zip ds)
  | [], [], [], [], .nil, .nil, _ => .nil
  | _ :: _, _ :: _, _ :: _, k :: ks, .cons r rs, .cons a as, h => .cons ⟨_, r, a⟩ (each_zip rs as (by simpa using h))
theorem zip_fst : ∀ {ks : List PyData} {ds : List D}, ks.length = ds.length → (ks.zip ds).map (·.1) = ks
  | [], [], _ => rfl
  | k :: ks, d :: ds, h => by
    rw [List.zip_cons_cons, List.map_cons, zip_fst (by simpa using h)]
theorem srtOk_alike {ks : List PyData} (h : srtOk ks = true) : PySem.W.AllAlike ks ∧ PySem.W.Sortable ks ∧ ∀ d ∈ ks, d.depth ≤ 60 := by
  unfold srtOk at h
  rw [Bool.and_eq_true, Bool.and_eq_true, Bool.or_eq_true] at h
  obtain ⟨⟨h1, h2⟩, h3⟩ := h
  refine ⟨fun d hd d' hd' => List.all_eq_true.mp (List.all_eq_true.mp h1 d hd) d' hd', ?_, fun d hd => by simpa using List.all_eq_true.mp h3 d hd⟩
  rcases h2 with h2 | h2
  · refine .inl fun d hd => ?_
    have := List.all_eq_true.mp h2 d hd
    cases d with
    | tuple l => cases l with
      | nil => cases this
      | cons x r => exact ⟨x, r, rfl⟩
    | _ => cases this
  · refine .inr fun d hd => ?_
    have := List.all_eq_true.mp h2 d hd
    exact ⟨fun z => (by rw [z] at this; cases this), fun xs z => (by rw [z] at this; cases this)⟩

theorem gone_none (h : Heap) (a : Addr) : (h.update a fun o => { o with data := .freed }).get? a = none := by
  cases h with
  | mk objs l =>
    show (match (objs.modify a fun o => { o with data := .freed })[a]? with
      | some ⟨_, _, .freed, _⟩ => none
      | o => o) = none
    rw [Array.getElem?_modify, if_pos rfl]
    cases objs[a]? <;> rfl
end Rf

/-! Rf, part S: sorted(l) of data. -/
namespace Rf
open PySem PySem.Spec L2
def rSrtP (X : Cx) (Z : KC) (ds l : List D) : List V → Hp → VK → Prop := fun xs H Q => ∃ (w : Addr) (S : Hp) (vs : List V), xs = [.ref w] ∧ SqL X.K H w vs ∧ Sub S H ∧ Ats Z S vs ds ∧ ∀ v H1 S1, Ext none H S H1 S1 → At Z S1 v (.lst l) → Q v H1
theorem each_at {Z : KC} {S : Hp} : ∀ {vs : List V} {us : List Value} {ds : List D}, Vals vs us → Ats Z S vs ds → PySem.W.EachIs (fun u (d : D) => ∃ v, RelV v u ∧ At Z S v d) us ds
  | [], [], [], .nil, .nil => .nil
  | _ :: _, _ :: _, _ :: _, .cons r rs, .cons a as => .cons ⟨_, r, a⟩ (each_at rs as)
theorem each_of_map {β : Type} {R : Value → PyData → Prop} {f : β → PyData} : ∀ {us : List Value} {bs : List β}, PySem.W.EachIs R us (bs.map f) → PySem.W.EachIs (fun u b => R u (f b)) us bs
  | [], [], .nil => .nil
  | _ :: _, _ :: _, .cons h t => .cons h (each_of_map t)
theorem cr_srtP {X : Cx} {Z : KC} {ds l : List D} (hK : X.K = Z.K) (hu : X.A.units + 65 < cLine) (hl : srtPD ds = some l) : CallR X (.builtin "sorted") (rSrtP X Z ds l) := by
  intro pins s σ H xs us Q I r ⟨w, S, vs, e1, hs, hS, ha, q⟩
  subst e1
  obtain rfl := Vals.ref1 r
  obtain ⟨its, rv, pl, hz⟩ := I.list hs
  unfold srtPD at hl
  split at hl <;> cases hl
  rename_i hc
  obtain ⟨hL, hpd, hok⟩ := hc
  obtain ⟨hal, hsk, hdp⟩ := srtOk_alike hok
  have er := each_of_map (each_keysD hK I hS rv ha hpd)
  refine PySem.W.sorted_data (bs := ds) (enc := pdK) (R := fun u d => ∃ v, RelV v u ∧ At Z S v d) pl.isList (each_at rv ha) er hal hsk hL (fun b hb => ?_) fun out ho hR => ?_
  · have := hdp (pdK b) (List.mem_map_of_mem hb)
    omega
  · obtain ⟨outV, ro, ao⟩ := each_back (f := fun d => d) hR
    rw [List.map_id'] at ao
    obtain ⟨ep, he'⟩ := PyProof.Rows.sortedAll_at s.heap its out.toArray
    have hlen : outV.length ≤ sizeLine := by rw [ro.length, ho]; exact hL
    refine ⟨.ref _, upd H (s.heap.objs.size + 1) (.lst outV), I.laid (t' := s.toks) (fun _ _ => PyProof.Rows.sortedAll_old) (Nat.le_succ _) ⟨hlen, out, ep, ro, by simpa using he'⟩, rfl, ?_⟩
    have hn : H (s.heap.objs.size + 1) = none := I.hok.fresh (Nat.le_succ _)
    have x := Ext.new (g := none) hS (o := .lst outV) hn
    exact q _ _ _ x (.lst (SqL.of upd_same) (ao.sub x.ss))
section
variable {X : Cx} {p : Par} {G : Gam} {ρ : List Slot} {c c1 : Int} {a : Expr} {pos q : Pos} {ds l : List D} {isL : Bool}
theorem e_srtP (C : Cok X p G) (hfr : fr G "sorted" = true) (hst : isStar a = false) (ha : PE X a (tL p ρ c true ds c1)) (hl : srtPD ds = some l) : PE X (.Call (.Name "sorted" q) [a] [] pos) (tE p ρ c (.lst l) c1) := by
  obtain ⟨b1, b2⟩ := fr_ok C (by decide +kernel) hfr
  obtain ⟨b3, b4⟩ := gl_ok C b1
  have e0 := star_cons (es := []) (env := X.env) hst
  refine peM (pe_callB (cr_srtP C.K C.units65 hl) b3 b2 rfl (pa_cons ha pa_nil e0) (by decide) (by decide) e0 rfl) fun σ H Q ⟨S, R, k⟩ => ⟨S, R, fun b vs H1 S1 R1 x1 hs a1 => ?_⟩
  show rSrtP X p.Z ds l [.ref b] H1 Q
  refine ⟨b, S1, vs, rfl, ?_, R1.sub, a1, fun v H2 S2 x2 a2 => k v H2 S2 (R1.step0 x2) (x1.trans x2.none_any) a2⟩
  rw [C.K]
  exact hs H1 S1 (Ext.refl R1.sub)
/-! ### sorted(d), the keys texts -/
theorem strKs_ok : ∀ {ks : List Key} {ss : List Str}, strKs ks = some ss → ks = ss.map Sum.inr
  | [], _, h => by cases h; rfl
  | .inr s :: r, ss, h => by
    obtain ⟨ss', h1, rfl⟩ := map_some (show (strKs r).map (s :: ·) = some ss from h)
    rw [List.map_cons, ← strKs_ok h1]
  | .inl _ :: _, _, h => by cases h
theorem strKs_len {ks : List Key} {ss : List Str} (h : strKs ks = some ss) : ks.length = ss.length := by rw [strKs_ok h, List.length_map]
theorem kyD_strs {ks : List Key} {ss : List Str} (h : strKs ks = some ss) : ks.map kyD = ss.map D.str := by rw [strKs_ok h, List.map_map]; rfl
theorem strs_ats {Z : KC} {S : Hp} : ∀ (ys : List Str), Ats Z S (ys.map V.str) (ys.map D.str)
  | [] => .nil
  | y :: ys => .cons (.str y) (strs_ats ys)
theorem rising_pw : ∀ (x : Str) (l : List Str), PyProof.Rows.risingS x l = true → (x :: l).Pairwise fun a b : Str => a.cps.toList ≤ b.cps.toList
  | x, [], _ => List.pairwise_singleton _ _
  | x, y :: l, h => by
    unfold PyProof.Rows.risingS at h
    rw [Bool.and_eq_true] at h
    have h2 := rising_pw y l h.2
    have h1 : x.cps.toList ≤ y.cps.toList := by
      have q := h.1
      rw [PyProof.Rows.ltCps_eq, Bool.not_eq_true', decide_eq_false_iff_not] at q
      exact List.not_lt.mp q
    refine List.pairwise_cons.mpr ⟨fun z hz => ?_, h2⟩
    rcases List.mem_cons.mp hz with rfl | hz
    · exact h1
    · exact List.le_trans h1 ((List.pairwise_cons.mp h2).1 z hz)
theorem sortedS_pw {l : List Str} (h : PyProof.Rows.sortedS l = true) : l.Pairwise fun a b : Str => a.cps.toList ≤ b.cps.toList := by
  cases l with
  | nil => exact .nil
  | cons x r => exact rising_pw x r h
theorem str_ext {a b : Str} (h : a.cps.toList = b.cps.toList) : a = b := by
  obtain ⟨⟨a⟩⟩ := a
  obtain ⟨⟨b⟩⟩ := b
  have : a = b := h
  rw [this]
theorem sorted_strs {ss ys : List Str} (hp : ys.Perm ss) (hs : PyProof.Rows.sortedS ys = true) : ys.map D.str = (ss.map D.str).mergeSort (PySem.W.dataLe false pdK) := by
  have hle : ∀ a b : Str, PySem.W.dataLe false pdK (D.str a) (D.str b) = decide (a.cps.toList ≤ b.cps.toList) := fun a b => by
    have := congrFun (congrFun (PySem.W.dataLe_str (fun x : Str => x)) a) b
    exact this
  rw [← List.map_mergeSort (r := fun a b : Str => decide (a.cps.toList ≤ b.cps.toList)) fun a _ b _ => (hle a b).symm]
  refine congrArg (List.map D.str) (List.Perm.eq_of_pairwise (le := fun a b : Str => a.cps.toList ≤ b.cps.toList) (fun a b _ _ h1 h2 => str_ext (List.le_antisymm h1 h2)) (sortedS_pw hs) ?_ (hp.trans (List.mergeSort_perm _ _).symm))
  have q := List.pairwise_mergeSort (le := fun a b : Str => decide (a.cps.toList ≤ b.cps.toList)) (fun a b c h1 h2 => by simp only [decide_eq_true_eq] at *; exact List.le_trans h1 h2) (fun a b => by
    simp only [Bool.or_eq_true, decide_eq_true_eq]; exact List.le_total _ _) ss
  exact q.imp fun h => by simpa using h
theorem e_srtD (C : Cok X p G) {ks : List Key} {vds : List D} {ss : List Str} (hfr : fr G "sorted" = true) (hst : isStar a = false) (ha : PE X a (tD p ρ c ks vds c1)) (hk : strKs ks = some ss) (h64 : ss.length < 64) : PE X (.Call (.Name "sorted" q) [a] [] pos) (tE p ρ c (.lst ((ks.map kyD).mergeSort (PySem.W.dataLe false pdK))) c1) := by
  obtain ⟨b1, b2⟩ := fr_ok C (by decide +kernel) hfr
  obtain ⟨b3, b4⟩ := gl_ok C b1
  have e0 := star_cons (es := []) (env := X.env) hst
  refine peM (pe_callB (call_sortedD C.calm) b3 b2 rfl (pa_cons ha pa_nil e0) (by decide) (by decide) e0 rfl) fun σ H Q ⟨S, R, k⟩ => ⟨S, R, fun b vs H1 S1 R1 x1 hd hl a1 => ?_⟩
  refine ⟨b, _, ss, rfl, hd H1 S1 (Ext.refl R1.sub), ?_, h64, fun ys w hp hs hw => ?_⟩
  · rw [zip_keys hl]; exact strKs_ok hk
  · rw [kyD_strs hk, ← sorted_strs hp hs] at k
    have x := Ext.new (g := none) R1.sub (o := .lst (ys.map V.str)) hw
    refine k _ _ _ (R1.step0 x) (x1.trans x.none_any) (.lst (SqL.of upd_same) ?_)
    exact (strs_ats ys)
end
end Rf

/-! Rf, part U: tuple(zip(a, b)) over two tuples with one pair at most. -/
namespace Rf
open PySem PySem.Spec L2 PyProof.Rows PySem.P
theorem zip_nolen : typeLookup (.type "zip") "__len__" = pure none := am_miss_of_fast (by decide +kernel)
theorem zip_nohint : typeLookup (.type "zip") "__length_hint__" = pure none := am_miss_of_fast (by decide +kernel)
section
variable {prog : Program} {w : World} {A : Around} {E : Value → Shared → Prop} {s : Shared}
theorem heldT_end {z TI TO T i1 i2 l1 l2 : Addr} {f : Bool} {oT : Obj} {k1 k2 : Nat} {xs ys : Array Value} {Q : Option Value → Shared → Prop} (hh : A.handled = none) (D : ZipApart z TI TO i1 i2 l1 l2) (hz : IsZipHeld s.heap z TI TO T f) (hT : s.heap.get? T = some oT) (hTI : IsPair s.heap TI (.ref i1) (.ref i2))
    (h1 : s.heap.IsTupleIter i1 l1 k1) (h2 : s.heap.IsTupleIter i2 l2 k2) (hl1 : s.heap.IsTuple l1 xs) (hl2 : s.heap.IsTuple l2 ys) (hend : xs[k1]? = none ∨ ys[k2]? = none) (hQ : ∀ h', (∀ c o, c ≠ z → c ≠ i1 → c ≠ i2 → s.heap.get? c = some o → h'.get? c = some o) → Q none { s with heap := h' }) : wpAny (model prog w) A (pyNext (.ref z)) Q E s := by
  have ty : s.TypeIs (.ref z) "zip" := ⟨_, hz, rfl⟩
  have fin : ∀ (h' : Heap) (e : Addr), (∀ c o, c ≠ z → c ≠ i1 → c ≠ i2 → s.heap.get? c = some o → h'.get? c = some o) → (∃ o, h'.get? e = some o ∧ o.cls = .type "StopIteration") →
      wpAny (model prog w) A (do if ← isInstance (.ref e) (.type "StopIteration") then pure (none : Option Value) else throw (.ref e)) Q E { s with heap := h' } := fun h' e hk ⟨o, ho, hc⟩ => wpAny_bind (wpAny_isInstance (T := "StopIteration") (b := true) ⟨o, ho, hc⟩ isSubtype_stop (wpAny_pure (hQ _ hk)))
  unfold pyNext
  refine wpAny_bind (wpAny_attempt (wpAny_callSpecial?_slot (name := Str.ofString "__next__") ty F.slot_zip_next (wpAny_call_entry F.slot_zip_next ty F.entry_zip_next ?_ (F.args_zip_next_1 _))))
  show wpAny _ _ (field (.ref z) 2 >>= _) _ _ _; refine wpAny_bind (wpAny_field hz rfl (x := .bool false) rfl ?_)
  show wpAny _ _ (field (.ref z) 3 >>= _) _ _ _; refine wpAny_bind (wpAny_field hz rfl (x := .ref TI) rfl (wpAny_bind (wpAny_seqItems hTI rfl ?_)))
  show wpAny _ _ (Builtin.SmallTypes.ownedTupleIsFree (.ref z) >>= _) _ _ _; refine wpAny_bind (wpAny_tupleHeld_zip hz hT fun h₁ hz₁ hs₁ => ?_)
  simp only [Bool.false_eq_true, if_false]; refine wpAny_bind ?_; rw [← Array.forIn_toList]; simp only [List.forIn_cons, List.forIn_nil]; refine wpAny_bind (wpAny_bind (wpAny_holding ?_))
  show wpAny _ _ (Builtin.SmallTypes.nextOf (.ref i1) >>= _) _ _ _
  cases hx : xs[k1]? with
  | none =>
    refine wpAny_bind (wpAny_nextOf_tuple_end (s := { s with heap := h₁ }) hh (h1.extBut hs₁.extBut D.i1z) (hl1.extBut hs₁.extBut D.l1z) hx fun h₂ e hs₂ he => ?_)
    exact fin h₂ e (fun c o c1 c2 _ x => hs₂ _ _ c2 (hs₁.extBut _ _ c1 x)) he
  | some x =>
    have hy : ys[k2]? = none := by rcases hend with h | h; rw [hx] at h; cases h; exact h
    refine wpAny_bind (wpAny_nextOf_tuple_item (s := { s with heap := h₁ }) (h1.extBut hs₁.extBut D.i1z) (hl1.extBut hs₁.extBut D.l1z) hx fun h₂ h1₂ hs₂ => wpAny_pure (wpAny_pure ?_))
    refine wpAny_bind (wpAny_bind (wpAny_holding ?_)); show wpAny _ _ (Builtin.SmallTypes.nextOf (.ref i2) >>= _) _ _ _
    refine wpAny_bind (wpAny_nextOf_tuple_end (s := { s with heap := h₂ }) hh ((h2.extBut hs₁.extBut D.i2z).extBut hs₂.extBut D.i12.symm) ((hl2.extBut hs₁.extBut D.l2z).extBut hs₂.extBut D.l2i1) hy fun h₃ e hs₃ he => ?_)
    exact fin h₃ e (fun c o c1 c2 c3 x => hs₃ _ _ c3 (hs₂.extBut _ _ c2 (hs₁.extBut _ _ c1 x))) he
/-- a fresh list -/
abbrev lst0 (vs : Array Value) (n : Nat) : Obj := { cls := .type "list", dict := none, data := .seq vs n, slots := #[] }
theorem zip_collect {z TI TO : Addr} {Q : List Value → Shared → Prop} (hz : IsZip s.heap z TI TO .none)
    (h : ∀ h1, (∀ b o, s.heap.get? b = some o → h1.get? b = some o) → h1.objs.size = s.heap.objs.size + 1 → (∃ n, h1.get? s.heap.objs.size = some (lst0 #[] n)) →
      codeAny (model prog w) A (.builtin "list.extend.loop" ⟨[.ref s.heap.objs.size, .ref z, .ref s.heap.objs.size], []⟩) (fun r s' => ∃ acc n, r = .ok (.ret (.ref s.heap.objs.size)) ∧ s'.heap.get? s.heap.objs.size = some (lst0 acc n) ∧ Q acc.toList s') { s with heap := h1 }) : wpAny (model prog w) A (collect (.ref z)) Q E s := by
  have ne : s.heap.objs.size ≠ z := Nat.ne_of_gt (Heap.lt_size hz)
  unfold collect
  refine wpAny_bind (wpAny_runValue (codeAny_builtin F.entry_proto_collect ?_))
  rw [Around.under_plainId F.plain_proto_collect _]
  show wpAny _ A.in1 (newList [] >>= fun l => again (.builtin "list.__iadd__" ⟨[l, .ref z], []⟩)) _ _ s
  refine wpAny_bind (wpAny_newObj_type (wpAny_pure ⟨plainId_quiet F.plain_list_iadd _, codeAny_builtin F.entry_list_iadd ?_⟩))
  rw [Around.under_plainId F.plain_list_iadd _]
  show wpAny _ A.in1 (Builtin.List.listExtendWith (.ref s.heap.objs.size) (.ref z) (.ref s.heap.objs.size)) _ _ _
  unfold Builtin.List.listExtendWith
  have hz1 : IsZip (s.heap.push (lst0 #[] 0)) z TI TO .none := Heap.get?_push_of_some _ hz
  have ty : (⟨s.heap.push (lst0 #[] 0), s.gens, s.drawn, s.toks, s.os⟩ : Shared).TypeIs (.ref z) "zip" := ⟨_, hz1, rfl⟩
  refine wpAny_bind (wpAny_typeOf ty ?_)
  have q1 : Builtin.List.listSameRef (.ref s.heap.objs.size) (.ref z) = false := by simp [Builtin.List.listSameRef, ne]
  have q2 : (Value.type "zip" == Value.type "list") = false := by decide
  have q3 : (Value.type "zip" == Value.type "tuple") = false := by decide
  simp only [q1, q2, q3, Bool.or_false, Bool.false_eq_true, if_false]
  refine wpAny_bind (wpAny_pyIter_zip hz1 (wpAny_bind (wpAny_holding ?_)))
  unfold Builtin.List.listLengthHint
  refine wpAny_bind (wpAny_specialOf ty zip_nolen ?_)
  show wpAny _ A.in1 (specialOf (Value.ref z) (Str.ofString "__length_hint__") >>= _) _ _ _
  refine wpAny_bind (wpAny_specialOf ty zip_nohint (wpAny_pure ?_))
  show wpAny _ A.in1 (rule "list.extend.makes-room" >>= fun _ => Builtin.List.listTouch (.ref s.heap.objs.size) >>= fun _ => again (.builtin "list.extend.loop" ⟨[.ref s.heap.objs.size, .ref z, .ref s.heap.objs.size], []⟩)) _ _ _
  have g1 : (s.heap.push (lst0 #[] 0)).get? s.heap.objs.size = some (lst0 #[] 0) := Heap.get?_push_size _ rfl
  refine wpAny_bind (wpAny_rule (wpAny_bind ?_))
  show wpAny _ A.in1 (updateSeq s.heap.objs.size (·.push .none) >>= fun _ => updateSeq s.heap.objs.size (·.pop)) _ _ _
  refine wpAny_bind (wpAny_updateSeq g1 rfl ?_)
  have g2 := Heap.get?_update_self (Obj.mapSeq (·.push Value.none)) g1 rfl
  refine wpAny_updateSeq g2 rfl ?_
  have g3 := Heap.get?_update_self (Obj.mapSeq (·.pop)) g2 rfl
  refine wpAny_pure ⟨plainId_quiet F.plain_extend_loop _, codeAny_mono (h _ (fun b o e => ?_) ?_ ⟨_, g3⟩) fun r s' ⟨acc, n, e1, e2, q⟩ => ?_⟩
  · have nb : s.heap.objs.size ≠ b := Nat.ne_of_gt (Heap.lt_size e)
    exact (Heap.get?_update_other _ _ nb).trans ((Heap.get?_update_other _ _ nb).trans (Heap.get?_push_of_some _ e))
  · rw [Heap.size_update, Heap.size_update, Heap.size_push]
  · subst e1
    show wpAny _ A (load s.heap.objs.size >>= _) _ _ s'
    exact wpAny_bind (wpAny_load e2 (wpAny_pure q))
/-- .. nothing to pair -/
theorem zip_collect0 {z TI TO i1 i2 l1 l2 : Addr} {a b : Value} {xs ys : Array Value} {Q : List Value → Shared → Prop} (hh : A.handled = none) (D : ZipApart z TI TO i1 i2 l1 l2) (hz : IsZip s.heap z TI TO .none) (hTI : IsPair s.heap TI (.ref i1) (.ref i2)) (hTO : IsPair s.heap TO a b)
    (h1 : s.heap.IsTupleIter i1 l1 0) (h2 : s.heap.IsTupleIter i2 l2 0) (hl1 : s.heap.IsTuple l1 xs) (hl2 : s.heap.IsTuple l2 ys) (hend : xs[0]? = none ∨ ys[0]? = none) (hQ : ∀ h', (∀ c o, c ≠ z → c ≠ TO → c ≠ i1 → c ≠ i2 → s.heap.get? c = some o → h'.get? c = some o) → Q [] { s with heap := h' }) : wpAny (model prog w) A (collect (.ref z)) Q E s := by
  refine zip_collect hz fun h1' k sz ⟨n, g⟩ => codeAny_builtin F.entry_extend_loop ?_
  rw [Around.under_plainId F.plain_extend_loop _]
  have apart : ∀ c o, s.heap.get? c = some o → s.heap.objs.size ≠ c := fun c o e => Nat.ne_of_gt (Heap.lt_size e)
  obtain ⟨o1, e1, _⟩ := id h1
  obtain ⟨o2, e2, _⟩ := id h2
  show wpAny _ A.in1 (pyNext (.ref z) >>= _) _ _ _
  refine wpAny_bind (RZ.pyNext_zipT_end (s := { s with heap := h1' }) (by simpa using hh) D (k _ _ hz) (k _ _ hTI) (k _ _ hTO) (h1.at fun o e => k _ o e) (h2.at fun o e => k _ o e) (hl1.at fun o e => k _ o e) (hl2.at fun o e => k _ o e) hend fun h' kk => ?_)
  exact wpAny_pure ⟨#[], n, rfl, kk _ _ (apart _ _ hz) (apart _ _ hTO) (apart _ _ e1) (apart _ _ e2) g, hQ h' fun c o c1 c2 c3 c4 e => kk c o c1 c2 c3 c4 (k c o e)⟩
/-- .. one pair -/
theorem zip_collect1 {z TI TO i1 i2 l1 l2 : Addr} {a b x y : Value} {xs ys : Array Value} {Q : List Value → Shared → Prop} (hh : A.handled = none) (D : ZipApart z TI TO i1 i2 l1 l2) (hz : IsZip s.heap z TI TO .none) (hTI : IsPair s.heap TI (.ref i1) (.ref i2)) (hTO : IsPair s.heap TO a b)
    (h1 : s.heap.IsTupleIter i1 l1 0) (h2 : s.heap.IsTupleIter i2 l2 0) (hl1 : s.heap.IsTuple l1 xs) (hl2 : s.heap.IsTuple l2 ys) (hx : xs[0]? = some x) (hy : ys[0]? = some y) (hend : xs[1]? = none ∨ ys[1]? = none)
    (hQ : ∀ h' T, (∀ c o, c ≠ z → c ≠ TO → c ≠ i1 → c ≠ i2 → s.heap.get? c = some o → h'.get? c = some o) → s.heap.objs.size ≤ T → IsPair h' T x y → Q [.ref T] { s with heap := h' }) : wpAny (model prog w) A (collect (.ref z)) Q E s := by
  refine zip_collect hz fun h1' k sz ⟨n, g⟩ => codeAny_builtin F.entry_extend_loop ?_
  rw [Around.under_plainId F.plain_extend_loop _]
  have apart : ∀ c o, s.heap.get? c = some o → s.heap.objs.size ≠ c := fun c o e => Nat.ne_of_gt (Heap.lt_size e)
  obtain ⟨o1, e1, _⟩ := id h1
  obtain ⟨o2, e2, _⟩ := id h2
  show wpAny _ A.in1 (pyNext (.ref z) >>= _) _ _ _
  refine wpAny_bind (RZ.pyNext_zipT_item (s := { s with heap := h1' }) D (k _ _ hz) (k _ _ hTI) (k _ _ hTO) (h1.at fun o e => k _ o e) (h2.at fun o e => k _ o e) (hl1.at fun o e => k _ o e) (hl2.at fun o e => k _ o e) hx hy fun h' z' TO' j1 j2 hT sz2 kk => ?_)
  have hT' : IsPair h' h1'.objs.size x y := hT
  have nz : ∀ c o, s.heap.get? c = some o → c ≠ h1'.objs.size := fun c o e q => by
    have l := Heap.lt_size e
    rw [q, sz] at l
    exact absurd (Nat.lt_of_succ_lt l) (Nat.lt_irrefl _)
  have gS : h'.get? s.heap.objs.size = some (lst0 #[] n) := kk _ _ (apart _ _ hz) (apart _ _ hTO) (apart _ _ e1) (apart _ _ e2) g
  show wpAny _ A.in1 (updateSeq s.heap.objs.size (·.push (.ref h1'.objs.size)) >>= _) _ _ _
  refine wpAny_bind (wpAny_updateSeq gS rfl (wpAny_pure ⟨plainId_quiet F.plain_extend_loop _, codeAny_builtin F.entry_extend_loop ?_⟩))
  rw [Around.under_plainId F.plain_extend_loop _]
  have g2 := Heap.get?_update_self (Obj.mapSeq (·.push (Value.ref h1'.objs.size))) gS rfl
  have up : ∀ c o, c ≠ s.heap.objs.size → h'.get? c = some o → (h'.update s.heap.objs.size (Obj.mapSeq (·.push (Value.ref h1'.objs.size)))).get? c = some o := fun c o hc e => (Heap.get?_update_other _ _ (Ne.symm hc)).trans e
  have nS : h1'.objs.size ≠ s.heap.objs.size := fun q => by
    have q' : h1'.objs.size = s.heap.objs.size := q
    rw [sz] at q'
    exact Nat.succ_ne_self _ q'
  have zz : IsZipHeld (h'.update s.heap.objs.size (Obj.mapSeq (·.push (Value.ref h1'.objs.size)))) z TI TO h1'.objs.size false := up _ _ (apart _ _ hz).symm z'
  have hTI' : IsPair h' TI (.ref i1) (.ref i2) := kk _ _ D.TIz D.TITO D.TIi1 D.TIi2 (k _ _ hTI)
  have t1 : h'.IsTuple l1 xs := by
    obtain ⟨o, e, r⟩ := hl1
    exact ⟨o, kk _ _ D.l1z D.l1TO D.l1i1 D.l1i2 (k _ _ e), r⟩
  have t2 : h'.IsTuple l2 ys := by
    obtain ⟨o, e, r⟩ := hl2
    exact ⟨o, kk _ _ D.l2z D.l2TO D.l2i1 D.l2i2 (k _ _ e), r⟩
  have a1 : ∀ c o, s.heap.get? c = some o → c ≠ s.heap.objs.size := fun c o e => (apart c o e).symm
  obtain ⟨q1, f1, _⟩ := id hl1
  obtain ⟨q2, f2, _⟩ := id hl2
  show wpAny _ A.in1 (pyNext (.ref z) >>= _) _ _ _
  refine wpAny_bind (heldT_end (s := { s with heap := h'.update s.heap.objs.size (Obj.mapSeq (·.push (Value.ref h1'.objs.size))) }) (by simpa using hh) D zz (up _ _ nS hT') (up _ _ (a1 _ _ hTI) hTI') (j1.at fun o e => up _ o (a1 _ _ e1) e) (j2.at fun o e => up _ o (a1 _ _ e2) e) (t1.at fun o e => up _ o (a1 _ _ f1) e) (t2.at fun o e => up _ o (a1 _ _ f2) e) hend fun h'' k2 => ?_)
  refine wpAny_pure ⟨_, _, rfl, k2 _ _ (apart _ _ hz) (apart _ _ e1) (apart _ _ e2) g2, ?_⟩
  exact hQ h'' h1'.objs.size (fun c o c1 c2 c3 c4 e => k2 c o c1 c3 c4 (up c o (a1 c o e) (kk c o c1 c2 c3 c4 (k c o e)))) (by show s.heap.objs.size ≤ h1'.objs.size; rw [sz]; exact Nat.le_succ _) (k2 _ _ (fun q => nz _ _ hz q.symm) (fun q => nz _ _ e1 q.symm) (fun q => nz _ _ e2 q.symm) (up _ _ nS hT'))
/-- tuple(a zip), by what collecting it gives -/
theorem zip_tuple {z TI TO : Addr} {Q : Value → Shared → Prop} (hz : IsZip s.heap z TI TO .none) (hc : ∀ B : Around, B.handled = A.handled → ∀ E', wpAny (model prog w) B (collect (.ref z)) (fun vs s' => vs.length ≤ sizeLine ∧ Q (.ref s'.heap.objs.size) { s' with heap := s'.heap.push { cls := .type "tuple", data := .seq vs.toArray } }) E' s) :
    wpAny (model prog w) A (call (.type "tuple") [.ref z]) Q E s := by
  have ty : s.TypeIs (.ref z) "zip" := ⟨_, hz, rfl⟩
  refine callType_codes (Q₁ := fun obj s₁ => s₁.TypeIs obj "tuple" ∧ Q obj s₁) F.called_tuple (F.typeCall_tuple_1 _) F.entry_object_init ?_ fun obj s₁ h₁ => ⟨h₁.1, F.args_object_init_2 obj _, object_init_meets F.called_tuple.init.lookup F.called_tuple.made (by decide) prog w A.in1 _ s₁ ⟨h₁.1, rfl, h₁.2⟩⟩
  refine codeAny_of_tree ?_
  show wpAny _ A.in1.in1 (do checkBuiltinCall "tuple.__new__" ⟨[.type "tuple", .ref z], []⟩; again (.builtin "tuple.__new__" ⟨[.type "tuple", .ref z], []⟩)) _ _ s
  refine wpAny_bind (wpAny_of_eq (F.newCall_tuple_1 _) (wpAny_pure ⟨plainId_quiet F.plain_tuple_new _, codeAny_builtin F.entry_tuple_new ?_⟩))
  rw [Around.under_plainId F.plain_tuple_new _]
  have q1 := sub_tuple_self
  have q2 := init_tuple_lookup
  have q3 := madeHere_tuple
  have q4 : ∀ {B : Around} {E' : Value → Shared → Prop} {Q' : List Value → Shared → Prop}, B.handled = A.handled → (∀ vs s', vs.length ≤ sizeLine ∧ Q (.ref s'.heap.objs.size) { s' with heap := s'.heap.push { cls := .type "tuple", data := .seq vs.toArray } } → Q' vs s') → wpAny (model prog w) B (collect (.ref z)) Q' E' s := fun hB hq => wpAny_mono (hc _ hB _) hq fun _ _ e => e
  wp_walk using wpAny_typeOf ty, q4 (by rfl)
  intro vs s' ⟨hl, hq⟩
  show wpAny _ _ (Builtin.Tuple.tupleExact vs.toArray >>= fun v => ret v) _ _ _
  unfold Builtin.Tuple.tupleExact
  refine wpAny_bind (wpAny_newObj_type (wpAny_pure ?_) (by show vs.toArray.size ≤ sizeLine; rw [List.size_toArray]; exact hl))
  exact ⟨⟨_, Heap.get?_push_size _ rfl, rfl⟩, hq⟩
end
/-- tuple(zip(a, b)), a and b tuples, one of them with one item at most -/
def tTupZip (K : PySem.W.Frag) (ta : TA) : TE := fun σ H Q => ta σ H fun vs H1 => ∃ a b xs ys, vs = [.ref a, .ref b] ∧ SqT K H1 a xs ∧ SqT K H1 b ys ∧
  (((xs = [] ∨ ys = []) ∧ ∀ p, H1 p = none → Q (.ref p) (upd H1 p (.tup []))) ∨ ∃ u v xr yr, xs = u :: xr ∧ ys = v :: yr ∧ (xr = [] ∨ yr = []) ∧ ∀ T p, H1 T = none → upd H1 T (.tup [u, v]) p = none → Q (.ref p) (upd (upd H1 T (.tup [u, v])) p (.tup [.ref T])))
theorem pe_tupZip {X : Cx} {a b : Expr} {ta : TA} {p p2 q pos : Pos} (hc : X.calm = true) (hg : Gl X "tuple") (hm : X.mg "tuple" = none) (hg2 : Gl X "zip") (hm2 : X.mg "zip" = none) (ha : PA X [a, b] ta) (n1 : starEach [a, b] X.env = (false, eval a X.env) :: starEach [b] X.env) (n2 : (backTo q (starEach [b] X.env)).any (·.1) = false) :
    PE X (.Call (.Name "tuple" p) [.Call (.Name "zip" p2) [a, b] [] q] [] pos) (tTupZip X.K ta) := by
  refine ⟨fun pins s σ H Q I h => Call_ (ld_blt I hg hm boot_tuple (PyProof.Rows.callWith_type1 (PyProof.Rows.args_cons (Call_ (ld_blt I hg2 hm2 boot_zip (PyProof.Rows.callWith_type1 (thn (ha.run q pins s σ H _ I h) fun us s1 ⟨vs, H1, I1, r1, x, y, xs, ys, ev, hx, hy, k⟩ => ?_) n1 n2))) rfl) rfl rfl))⟩
  subst ev
  cases r1 with
  | cons ra r2 => cases r2 with
    | cons rb r3 =>
      cases r3; cases ra; cases rb
      obtain ⟨its, rv, p1, _⟩ := I1.tuple hx
      obtain ⟨its2, rv2, p3, _⟩ := I1.tuple hy
      obtain ⟨o1, ho1, _⟩ := id p1
      obtain ⟨o2, ho2, _⟩ := id p3
      refine RZ.call_zipT (show s1.heap.IsTuple x its.toArray from p1) (show s1.heap.IsTuple y its2.toArray from p3) fun h' hz hTI hTO h1 h2 hsz hk => PyProof.Rows.args_nil ?_
      have I2 : Inv X pins σ H1 { s1 with heap := h' } := I1.kept (t' := s1.toks) hk
      have D := PySem.W.ktu_apart s1.heap.objs.size x y (Heap.lt_size ho1) (Heap.lt_size ho2)
      have big : ∀ c, (c = s1.heap.objs.size + 4 ∨ c = s1.heap.objs.size + 3 ∨ c = s1.heap.objs.size ∨ c = s1.heap.objs.size + 1) → ∀ u o, s1.heap.get? u = some o → u ≠ c := fun c hc u o e z => by
        have l := Heap.lt_size e
        rw [z] at l
        rcases hc with z | z | z | z <;> (rw [z] at l; exact absurd l (by first | exact Nat.lt_irrefl _ | exact Nat.not_lt_of_le (Nat.le_add_right _ _)))
      refine zip_tuple (s := { s1 with heap := h' }) hz fun B hB E' => ?_
      rcases k with ⟨hn, k⟩ | ⟨u, v, xr, yr, rfl, rfl, hn, k⟩
      · refine zip_collect0 (s := { s1 with heap := h' }) (hB.trans (I1.ok.hd hc)) D hz hTI hTO h1 h2 ((show s1.heap.IsTuple x its.toArray from p1).at fun o e => hk _ o e) ((show s1.heap.IsTuple y its2.toArray from p3).at fun o e => hk _ o e) (by
          rcases hn with rfl | rfl
          · cases rv; exact .inl rfl
          · cases rv2; exact .inr rfl) fun h'' kk => ⟨Nat.zero_le _, ?_⟩
        have old : ∀ c o, s1.heap.get? c = some o → h''.get? c = some o := fun c o e => kk c o (big _ (.inl rfl) c o e) (big _ (.inr (.inl rfl)) c o e) (big _ (.inr (.inr (.inl rfl))) c o e) (big _ (.inr (.inr (.inr rfl))) c o e) (hk c o e)
        have I3 : Inv X pins σ H1 { s1 with heap := h'' } := I1.kept (t' := s1.toks) old
        have I4 : Inv X pins σ (upd H1 h''.objs.size (.tup [])) { s1 with heap := h''.push { cls := .type "tuple", data := .seq #[] } } := I3.laid (t' := s1.toks) (fun c o e => Heap.get?_push_of_some _ e) (Nat.le_refl _) (show ObjOk X.prog X.w _ _ _ (.tup []) from ⟨Nat.zero_le _, [], .nil, IsTup.new _ _⟩)
        exact ⟨.ref h''.objs.size, _, I4, rfl, k _ (I3.hok.fresh (Nat.le_refl _))⟩
      · cases rv with
        | @cons _ u' _ us ru rus => cases rv2 with
          | @cons _ v' _ vs rv' rvs =>
            refine zip_collect1 (s := { s1 with heap := h' }) (hB.trans (I1.ok.hd hc)) D hz hTI hTO h1 h2 ((show s1.heap.IsTuple x (u' :: us).toArray from p1).at fun o e => hk _ o e) ((show s1.heap.IsTuple y (v' :: vs).toArray from p3).at fun o e => hk _ o e) (x := u') (y := v') rfl rfl (by
              rcases hn with rfl | rfl
              · cases rus; exact .inl rfl
              · cases rvs; exact .inr rfl) fun h'' T kk hT hp => ⟨by show 1 ≤ sizeLine; decide, ?_⟩
            have old : ∀ c o, s1.heap.get? c = some o → h''.get? c = some o := fun c o e => kk c o (big _ (.inl rfl) c o e) (big _ (.inr (.inl rfl)) c o e) (big _ (.inr (.inr (.inl rfl))) c o e) (big _ (.inr (.inr (.inr rfl))) c o e) (hk c o e)
            have hT' : s1.heap.objs.size ≤ T := Nat.le_trans (by rw [hsz]; exact Nat.le_add_right _ _) hT
            have nT : H1 T = none := I1.hok.fresh hT'
            have I3 : Inv X pins σ (upd H1 T (.tup [u, v])) { s1 with heap := h'' } := I1.laid (t' := s1.toks) old hT' (show ObjOk X.prog X.w _ _ _ (.tup [u, v]) from ⟨by show 2 ≤ sizeLine; decide, [u', v'], .cons ru (.cons rv' .nil), ⟨_, hp, rfl, _, rfl⟩⟩)
            have I4 : Inv X pins σ (upd (upd H1 T (.tup [u, v])) h''.objs.size (.tup [.ref T])) { s1 with heap := h''.push { cls := .type "tuple", data := .seq #[.ref T] } } := I3.laid (t' := s1.toks) (fun c o e => Heap.get?_push_of_some _ e) (Nat.le_refl _) (show ObjOk X.prog X.w _ _ _ (.tup [.ref T]) from ⟨by show 1 ≤ sizeLine; decide, [.ref T], .cons rfl .nil, IsTup.new _ _⟩)
            exact ⟨.ref h''.objs.size, _, I4, rfl, k T _ nT (I3.hok.fresh (Nat.le_refl _))⟩
end Rf

/-! Rf, part T: x, *y = a tuple; isinstance of own classes; len(set(texts)); list + list; enumerate. -/
namespace Rf
open PySem PySem.Spec L2 PyProof.Rows
section
variable {prog : Program} {w : World} {A : Around} {E : Value → Shared → Prop} {s : Shared}
theorem star_items {l : Addr} {items : Array Value} {x : Value} {r : List Value} {Q : List Value → Shared → Prop} (hl : IsTup s.heap l items) (hh : A.handled = none) (e : items.toList = x :: r) (hz : items.size ≤ 16384)
    (h : ∀ (h' : Heap) (tk : Nat), (∀ b o, s.heap.get? b = some o → h'.get? b = some o) → Q [x, .ref h'.objs.size] { s with heap := h'.push { cls := .type "list", data := .seq r.toArray }, toks := tk }) : wpAny (model prog w) A (unpackItems (.ref l) 2 (some 1)) Q E s := by
  have z : items.size = r.length + 1 := by rw [← Array.length_toList, e]; rfl
  have ne : l ≠ s.heap.objs.size := by obtain ⟨o, ho, _⟩ := hl; exact Nat.ne_of_lt (Heap.lt_size ho)
  unfold unpackItems; refine wpAny_bind ?_; unfold notIterableAtAll
  refine wpAny_bind (wpAny_specialOf hl.typeIs slot_tuple_iter.lookup (wpAny_pure ?_)); simp only [Bool.false_eq_true, if_false]
  refine wpAny_bind (wpAny_holding (iter_tuple hl (wpAny_bind (wpAny_holding (draw_tuple ne 1 0 _ _ ⟨_, Heap.get?_push_size _ rfl, rfl, rfl⟩ (hl.push _) (by omega) fun h₁ it₁ sb₁ => ?_)))))
  have l₁ : IsTup h₁ l items := (hl.push _).extBut sb₁.extBut ne
  obtain ⟨oi, hoi, _⟩ := id it₁; obtain ⟨ol, hol, _⟩ := id l₁
  rw [List.drop_zero, if_neg (show ¬ (items.toList.take 1).length < 1 by rw [e]; simp)]
  refine wpAny_bind (wpAny_holding (PySem.W.kun_collect (s := { s with heap := h₁ }) (T := "tuple_iterator") (.inr (.inr (.inr rfl))) (Walks.tuple (A := A.in1) hh s.heap.objs.size l ne items) (fun j u st => st.1.typeIs) (k := 1) (by omega) ⟨it₁, l₁⟩ (Heap.lt_size hoi) (Heap.lt_size hol) (fun h₂ tk hk => ?_) (by rw [sizeLine_eq]; omega)))
  rw [e]
  show wpAny _ _ (if r.length < 0 then _ else newList (r.take (r.length - 0)) >>= fun d => pure ([x] ++ [d] ++ r.drop (r.length - 0))) _ _ _
  rw [if_neg (Nat.not_lt_zero _), Nat.sub_zero, List.take_length, List.drop_length]
  exact wpAny_bind (wpAny_newList (wpAny_pure (h h₂ tk fun b o q => hk b o (Nat.ne_of_lt (Heap.lt_size q)) (sb₁.2 b (Nat.ne_of_lt (Heap.lt_size q)) |>.trans (Heap.get?_push_of_some _ q)))) (by rw [sizeLine_eq]; omega))
end
/-- x, *y = a tuple with an item at least -/
def gStar (K : PySem.W.Frag) (ga gb : TG) : TG := fun v σ H Q => ∃ a x xs, v = .ref a ∧ SqT K H a (x :: xs) ∧ xs.length < 16384 ∧ ∀ q, H q = none → gCons ga (gCons gb gNil) [x, .ref q] σ (upd H q (.lst xs)) Q
theorem pg_star {X : Cx} {a b : Expr} {ga gb : TG} {k : Nat} {sp pos : Pos} (hc : X.calm = true) (h1 : PG X a ga) (h2 : PG X b gb) (hs : assignEach [a, .Starred b sp] X.env = [(false, assign a X.env), (true, assign b X.env)]) : PG X (.Tuple [a, .Starred b sp] k pos) (gStar X.K ga gb) := by
  refine ⟨fun pins s σ H v u Q I r ⟨w, x, xs, e1, hq, hz, hw⟩ => ?_⟩
  subst e1; cases r; obtain ⟨its, rv, ht, _⟩ := I.tuple hq
  cases rv with
  | @cons _ u _ us ru rs =>
    rw [assign_Tuple]; refine wpAny_bind (wpAny_standAt ?_); unfold unpack; rw [hs]
    refine wpAny_bind (wpAny_holding (star_items ht (I.ok.hd hc) (x := u) (r := us) (by simp) (by rw [List.size_toArray, List.length_cons, ← rs.length]; omega) fun h' tk hk => ?_))
    have I1 : Inv X pins σ H { s with heap := h', toks := tk } := I.kept hk
    have I2 : Inv X pins σ (upd H h'.objs.size (.lst xs)) { s with heap := h'.push { cls := .type "list", data := .seq us.toArray }, toks := tk } := I1.lnew (t' := tk) rs (by rw [sizeLine_eq]; omega)
    have hf : H h'.objs.size = none := I1.fresh
    obtain ⟨v1, r1, e2, q⟩ := hw _ hf
    cases e2
    refine assignInOrder_cons (thn (h1.run pins _ σ _ _ _ _ I2 ru q) fun _ s1 ⟨σ1, H1, I3, q1⟩ => ?_)
    obtain ⟨v2, r2, e3, q2⟩ := q1
    cases e3
    refine assignInOrder_cons (thn (h2.run pins _ σ1 _ _ (.ref h'.objs.size) _ I3 (show RelV (V.ref h'.objs.size) (Value.ref h'.objs.size) from rfl) q2) fun _ s2 ⟨σ2, H2, I4, q3⟩ => ?_)
    exact wpAny_pure ⟨σ2, H2, I4, q3.2⟩
section
variable {X : Cx} {p : Par} {G : Gam} {ρ ρ1 : List Slot} {c c1 c2 : Int} {x y d : D} {a b e : Expr} {pos q : Pos} {ds l : List D} {isL : Bool}
theorem e_lenSet (C : Cok X p G) {q2 p2 : Pos} {xs : List Str} (h1 : fr G "len" = true) (h2 : fr G "set" = true) (hst : isStar a = false) (ha : PE X a (tL p ρ c isL (xs.map D.str) c1)) (hz : xs.length + 1 < scanBound) : PE X (.Call (.Name "len" q) [.Call (.Name "set" p2) [a] [] q2] [] pos) (tE p ρ c (.int (grown xs).length) c1) := by
  obtain ⟨b1, b2⟩ := fr_ok C (by decide +kernel) h1
  obtain ⟨b3, b4⟩ := fr_ok C (by decide +kernel) h2
  refine peM (pe_lenSet C.calm (gl_ok C b1).1 b2 (gl_ok C b3).1 b4 ha (star_cons hst)) fun σ H Q ⟨S, R, k⟩ => ⟨S, R, fun w vs H1 S1 R1 x1 hs a1 => ⟨w, xs, rfl, ?_, hz, k _ H1 S1 R1 x1 (.int _)⟩⟩
  have hs := hs H1 S1 (Ext.refl R1.sub)
  have ev : vs = xs.map V.str := a1.strs
  subst ev
  rw [C.K]
  cases isL with
  | true => exact .inl hs
  | false => exact .inr (sub_t R1.sub hs)
/-! ### list + list -/
theorem names_pe (C : Cok X p G) {k : Str} {q : Pos} (hk : k ∈ G.kc) (hg : gn G k = true) : PE X (.Name k q) (tC (.ref (p.Z.cl k))) := by
  obtain ⟨h1, _, _⟩ := C.kc k hk
  obtain ⟨g1, g2⟩ := gl_ok C hg
  exact pe_glob (v := .ref (p.Z.cl k)) g1 h1 rfl (okN1 g2)
theorem obj_ty (C : Cok X p G) {k : Str} {fs : List Str} {v : V} {H S : Hp} (hk : k ∈ G.kc) (s : Sub S H) (a : At p.Z S v (.obj k fs ds)) : TyX X.K H v (.ref (p.Z.cl k)) := by
  obtain ⟨_, c, _⟩ := C.kc k hk
  cases a with
  | obj h l r => exact .base (TyOf.ins (s _ _ h) c.cl c.ha c.hn c.htk c.hm)
theorem e_isc1 (C : Cok X p G) {k k' : Str} {fs : List Str} {q1 q2 : Pos} (hf : fr G "isinstance" = true) (hs : isStar a = false) (hk : k ∈ G.kc) (hk' : k' ∈ G.kc) (hg : gn G k' = true) (ha : PE X a (tE p ρ c (.obj k fs ds) c1)) :
    PE X (.Call (.Name "isinstance" q1) [a, .Name k' q2] [] pos) (tE p ρ c (.bl ([k'].contains k)) c1) := by
  obtain ⟨b1, b2⟩ := fr_ok C (by decide +kernel) hf
  obtain ⟨g1, g2⟩ := gl_ok C b1
  obtain ⟨_, _, kit⟩ := C.kc k' hk'
  have e : [k'].contains k = decide (k = k') := by simp
  refine peM (pe_callB call_isi g1 b2 rfl (pa_cons ha (pa_cons (names_pe C hk' hg) pa_nil) (star_cons hs)) (by decide) (by decide) (star_cons hs) rfl) fun σ H Q ⟨S, R, kk⟩ => ⟨S, R, fun v H1 S1 R1 x1 a1 => ?_⟩
  refine ⟨v, _, _, _, _, rfl, .own _, obj_ty C hk R1.sub a1, kit k hk, ?_⟩
  rw [e] at kk
  exact kk _ H1 S1 R1 x1 (.bl _)
theorem kit_anyC (C : Cok X p G) {k : Str} (hk : k ∈ G.kc) : ∀ xs : List Str, (∀ x ∈ xs, x ∈ G.kc) → PySem.W.kitAny X.K (.ref (p.Z.cl k)) (xs.map fun x => Value.ref (p.Z.cl x)) = some (xs.contains k)
  | [], _ => rfl
  | x :: xs, h => by
    have h0 := kit_anyC C hk xs fun y hy => h y (List.mem_cons_of_mem _ hy)
    obtain ⟨_, _, kit⟩ := C.kc x (h x List.mem_cons_self)
    have e : (x :: xs).contains k = (decide (k = x) || xs.contains k) := by
      rw [List.contains_cons]
      by_cases z : k = x
      · subst z; simp
      · simp [z]
    rw [List.map_cons, e]
    refine kitAny_cons (kit k hk) (fun z => ?_) fun z => ?_
    · rw [z, Bool.false_or]; exact h0
    · rw [z, Bool.true_or]
theorem pa_names (C : Cok X p G) : ∀ {es : List Expr} {xs : List Str}, namesOf es = some xs → (∀ x ∈ xs, x ∈ G.kc ∧ gn G x = true) → PA X es (fun _ H Q => Q (xs.map fun x => V.ref (p.Z.cl x)) H) ∧ es.length = xs.length
  | [], _, h, _ => by cases h; exact ⟨pa_nil, rfl⟩
  | e :: es, xs, h, hx => by
    cases e with
    | Name x q =>
      obtain ⟨xs', h1, rfl⟩ := map_some (show (namesOf es).map (x :: ·) = some xs from h)
      obtain ⟨h2, h3⟩ := pa_names C h1 fun y hy => hx y (List.mem_cons_of_mem _ hy)
      obtain ⟨k1, k2⟩ := hx x List.mem_cons_self
      exact ⟨pa_cons (names_pe C k1 k2) h2, by rw [List.length_cons, List.length_cons, h3]⟩
    | _ => cases h
theorem clsC (xs : List Str) (Z : KC) : Paired ClsV (xs.map fun x => V.ref (Z.cl x)) (xs.map fun x => Value.ref (Z.cl x)) := by
  induction xs with
  | nil => exact .nil
  | cons x xs ih => exact .cons (.own _) ih
theorem e_iscT (C : Cok X p G) {k : Str} {fs xs : List Str} {ts : List Expr} {j : Nat} {q1 tp : Pos} (hf : fr G "isinstance" = true) (hs : isStar a = false) (hk : k ∈ G.kc) (hn : namesOf ts = some xs) (hx : ∀ x ∈ xs, x ∈ G.kc ∧ gn G x = true) (hl : xs.length ≤ 20) (ha : PE X a (tE p ρ c (.obj k fs ds) c1)) :
    PE X (.Call (.Name "isinstance" q1) [a, .Tuple ts j tp] [] pos) (tE p ρ c (.bl (xs.contains k)) c1) := by
  obtain ⟨b1, b2⟩ := fr_ok C (by decide +kernel) hf
  obtain ⟨g1, g2⟩ := gl_ok C b1
  obtain ⟨h1, h2⟩ := pa_names C hn hx
  refine peM (pe_callB call_isiT g1 b2 rfl (pa_cons ha (pa_cons (pe_tup h1) pa_nil) (star_cons hs)) (by decide) (by decide) (star_cons hs) rfl) fun σ H Q ⟨S, R, kk⟩ => ⟨S, R, fun v H1 S1 R1 x1 a1 => ?_⟩
  refine ⟨by rw [List.length_map]; exact Nat.le_trans hl (by decide), fun w hw => ?_⟩
  have x2 := Ext.newOwn (g := none) R1.sub (o := .tup (xs.map fun x => V.ref (p.Z.cl x))) hw
  exact ⟨v, w, _, _, _, _, rfl, upd_same, clsC xs p.Z, obj_ty C hk x2.sub a1, kit_anyC C hk xs fun x h => (hx x h).1, kk _ _ S1 (R1.step0 x2) (x1.trans x2.none_any) (.bl _)⟩
/-! ### tuple(zip(..)) -/
theorem e_tupZip (C : Cok X p G) {q2 p2 : Pos} {xs ys : List D} (h1 : fr G "tuple" = true) (h2 : fr G "zip" = true) (hs : isStar a = false) (hs2 : isStar b = false) (ha : PE X a (tE p ρ c (.tup xs) c1)) (hb : PE X b (tE p ρ c1 (.tup ys) c2)) (hl : xs.length ≤ 1 ∨ ys.length ≤ 1) :
    PE X (.Call (.Name "tuple" q) [.Call (.Name "zip" p2) [a, b] [] q2] [] pos) (tE p ρ c (.tup (zipD xs ys)) c2) := by
  obtain ⟨b1, b2⟩ := fr_ok C (by decide +kernel) h1
  obtain ⟨b3, b4⟩ := fr_ok C (by decide +kernel) h2
  refine peM (pe_tupZip C.calm (gl_ok C b1).1 b2 (gl_ok C b3).1 b4 (a_cons hs ha (a_cons hs2 hb a_nil)) (star_cons hs) (by rw [star_cons hs2]; rfl)) fun σ H Q ⟨S, R, k⟩ => ⟨S, R, fun vs H1 S1 R1 x1 a1 => ?_⟩
  obtain ⟨v, u, rfl, g1, g2⟩ := a1.two
  obtain ⟨w, us, rfl, k1, r1⟩ := g1.tup_inv
  obtain ⟨w2, zs, rfl, k2, r2⟩ := g2.tup_inv
  rw [C.K]
  refine ⟨w, w2, us, zs, rfl, sub_t R1.sub k1, sub_t R1.sub k2, ?_⟩
  have non : (us = [] ∨ zs = []) → (xs = [] ∨ ys = []) := fun h => by
    rcases h with rfl | rfl
    · cases r1; exact .inl rfl
    · cases r2; exact .inr rfl
  cases r1 with
  | nil =>
    refine .inl ⟨.inl rfl, fun t ht => ?_⟩
    have x := Ext.new (g := none) R1.sub (o := .tup []) ht
    exact k _ _ _ (R1.step0 x) (x1.trans x.none_any) (.tup (SqT.of upd_same) .nil)
  | @cons v1 vr d1 dr m1 mr => cases r2 with
    | nil =>
      refine .inl ⟨.inr rfl, fun t ht => ?_⟩
      have x := Ext.new (g := none) R1.sub (o := .tup []) ht
      exact k _ _ _ (R1.step0 x) (x1.trans x.none_any) (.tup (SqT.of upd_same) .nil)
    | @cons v2 vr2 d2 dr2 m2 mr2 =>
      have e : dr = [] ∨ dr2 = [] := by
        rcases hl with h | h
        · exact .inl (List.length_eq_zero_iff.mp (by rw [List.length_cons] at h; omega))
        · exact .inr (List.length_eq_zero_iff.mp (by rw [List.length_cons] at h; omega))
      have ez : zipD (d1 :: dr) (d2 :: dr2) = [.tup [d1, d2]] := by
        rcases e with rfl | rfl
        · rfl
        · cases dr <;> rfl
      rw [ez] at k
      refine .inr ⟨v1, v2, vr, vr2, rfl, rfl, ?_, fun T t hT ht => ?_⟩
      · rcases e with rfl | rfl
        · cases mr; exact .inl rfl
        · cases mr2; exact .inr rfl
      · have x := Ext.new (g := none) R1.sub (o := .tup [v1, v2]) hT
        have x' := Ext.new (g := none) x.sub (o := .tup [.ref T]) ht
        have xx := x.trans x'
        exact k _ _ _ (R1.step0 xx) (x1.trans xx.none_any) (.tup (SqT.of upd_same) (.cons (At.sub x'.ss (.tup (SqT.of upd_same) (.cons (m1.sub x.ss) (.cons (m2.sub x.ss) .nil)))) .nil))
end
end Rf

/-! Rf, part I: every expression that is read in the text does what the small language says (the end). -/
namespace Rf
open PySem PySem.Spec L2
section
variable {r : CR} {X : Cx} {p : Par} {G : Gam} {ρ : List Slot} {c c1 c2 c3 : Int} {x y z d : D} {a b e : Expr} {es : List Expr} {pos : Pos} {nm : Str} {i : Nat} {ds : List D} {isL : Bool}
/-- sorted(l, key=f): told in part J -/
def SrtOk : Prop := ∀ {X : Cx} {p : Par} {G : Gam} {ρ : List Slot} {c c1 : Int} {ds l : List D} {f : Str} {F : List D → Option D} {a : Expr} {q fp kp pos : Pos}, Cok X p G → fr G "sorted" = true → gn G f = true → isStar a = false → G.fn f = some (.pure 1 F) →
  PE X a (tL p ρ c true ds c1) → srtD F ds = some l → PE X (.Call (.Name "sorted" q) [a] [⟨some "key", .Name f fp, kp⟩] pos) (tE p ρ c (.lst l) c1)

theorem run_bin {o : Bop} {p1 q1 : IE} (h : (IE.bin o p1 q1).run ρ c = some (d, c1)) : ∃ x c2 y, p1.run ρ c = some (x, c2) ∧ q1.run ρ c2 = some (y, c1) ∧ binD o x y = some d := by
  unfold IE.run at h
  cases e1 : p1.run ρ c with
  | none => rw [e1] at h; cases h
  | some q =>
    obtain ⟨x, c2⟩ := q
    rw [e1] at h
    dsimp only at h
    cases e2 : q1.run ρ c2 with
    | none => rw [e2] at h; cases h
    | some q =>
      obtain ⟨y, c3⟩ := q
      rw [e2] at h
      obtain ⟨d', h1, h2⟩ := map_some h
      cases h2
      exact ⟨x, c2, y, rfl, e2, h1⟩
theorem run_cmp {o : Cop} {p1 q1 : IE} (h : (IE.cmp o p1 q1).run ρ c = some (d, c1)) : ∃ x c2 y k, p1.run ρ c = some (x, c2) ∧ q1.run ρ c2 = some (y, c1) ∧ cmpD o x y = some k ∧ d = .bl k := by
  unfold IE.run at h
  cases e1 : p1.run ρ c with
  | none => rw [e1] at h; cases h
  | some q =>
    obtain ⟨x, c2⟩ := q
    rw [e1] at h
    dsimp only at h
    cases e2 : q1.run ρ c2 with
    | none => rw [e2] at h; cases h
    | some q =>
      obtain ⟨y, c3⟩ := q
      rw [e2] at h
      obtain ⟨d', h1, h2⟩ := map_some h
      cases h2
      exact ⟨x, c2, y, d', rfl, e2, h1, rfl⟩
theorem run_isN {p1 : IE} (h : (IE.isN p1).run ρ c = some (d, c1)) : ∃ x, p1.run ρ c = some (x, c1) ∧ d = .bl (isNon x) := by
  unfold IE.run at h
  cases e1 : p1.run ρ c with
  | none => rw [e1] at h; cases h
  | some q =>
    rw [e1] at h
    cases h
    exact ⟨_, rfl, rfl⟩
theorem run_notN {p1 : IE} (h : (IE.notN p1).run ρ c = some (d, c1)) : ∃ x, p1.run ρ c = some (x, c1) ∧ d = .bl (!isNon x) := by
  unfold IE.run at h
  cases e1 : p1.run ρ c with
  | none => rw [e1] at h; cases h
  | some q =>
    rw [e1] at h
    cases h
    exact ⟨_, rfl, rfl⟩
theorem run_inS {neg : Bool} {p1 : IE} (h : (IE.inS neg p1 i).run ρ c = some (d, c1)) : ∃ k ns, p1.run ρ c = some (.int k, c1) ∧ ρ[i]? = some (.st ns) ∧ d = .bl (if neg then !decide (k ∈ ns) else decide (k ∈ ns)) := by
  unfold IE.run at h
  split at h
  · rename_i k c2 e1
    split at h <;> cases h
    rename_i ns e2
    exact ⟨k, ns, e1, e2, rfl⟩
  · cases h
theorem run_inO {neg : Bool} {p1 : IE} (h : (IE.inO neg p1 i).run ρ c = some (d, c1)) : ∃ y k ks ds, p1.run ρ c = some (y, c1) ∧ ρ[i]? = some (.od ks ds) ∧ keyOf y = some k ∧ d = .bl (if neg then !hasK ks k else hasK ks k) := by
  unfold IE.run at h
  split at h
  · rename_i y c2 e1
    split at h
    · rename_i ks ds e2
      obtain ⟨k, e3, e4⟩ := map_some h
      cases e4
      exact ⟨y, k, ks, ds, e1, e2, e3, rfl⟩
    · cases h
  · cases h
theorem set_no {op : CmpOp} (h : isSet b = false) : behindInMarks op b = false := by
  cases b <;> first | rfl | cases h
/-- a comparison, as a value and as a test -/
theorem cCmp_ok (S : Snd r) (C : Cok X p G) {op : CmpOp} {ie : IE} {ap : Pos} (h : cCmp r G a op b = some ie) (hr : ie.run ρ c = some (d, c1)) :
    PE X (.Compare a [op] [b] pos) (tE p ρ c d c1) ∧ ∃ k, d = .bl k ∧ PT X (.Compare a [op] [b] ap) (tT p ρ c k c1) := by
  have gen : ∀ {ie : IE}, op ≠ .Is → op ≠ .IsNot → isSet b = false → (match copC op, r.E G a, r.E G b with
      | some o, some p, some q => some (IE.cmp o p q)
      | _, _, _ => none) = some ie → ie.run ρ c = some (d, c1) → PE X (.Compare a [op] [b] pos) (tE p ρ c d c1) ∧ ∃ k, d = .bl k ∧ PT X (.Compare a [op] [b] ap) (tT p ρ c k c1) := fun {ie} n1 n2 hs h hr => by
    split at h <;> cases h
    rename_i o pa pb e1 e2 e3
    obtain ⟨x, c2, y, k, h1, h2, h3, rfl⟩ := run_cmp hr
    obtain ⟨r', ho, hrv⟩ := cop_ok C e1 h3
    exact ⟨e_cmp ho (set_no hs) hrv (S.ex e2 C h1) (S.ex e3 C h2), k, rfl, t_cmp ho (set_no hs) hrv (S.ex e2 C h1) (S.ex e3 C h2)⟩
  have gen2 : ∀ {ie : IE}, op ≠ .Is → op ≠ .IsNot → (if isSet b then none else match b with
    | .Name x _ => if G.st.contains x then (match ixOf G.N x, r.E G a with
        | some i, some p => if visB G.sc x && okN x then (match op with
          | .In => some (IE.inS false p i)
          | .NotIn => some (IE.inS true p i)
          | _ => none) else none
        | _, _ => none)
      else if G.od.contains x then (match ixOf G.N x, r.E G a with
        | some i, some p => if visB G.sc x && okN x then (match op with
          | .In => some (IE.inO false p i)
          | .NotIn => some (IE.inO true p i)
          | _ => none) else none
        | _, _ => none)
      else (match copC op, r.E G a, r.E G b with
        | some o, some p, some q => some (IE.cmp o p q)
        | _, _, _ => none)
    | _ => match copC op, r.E G a, r.E G b with
      | some o, some p, some q => some (IE.cmp o p q)
      | _, _, _ => none) = some ie → ie.run ρ c = some (d, c1) → PE X (.Compare a [op] [b] pos) (tE p ρ c d c1) ∧ ∃ k, d = .bl k ∧ PT X (.Compare a [op] [b] ap) (tT p ρ c k c1) := fun {ie} n1 n2 h hr => by
    split at h
    · cases h
    · rename_i hs
      have hs : isSet b = false := by simpa using hs
      split at h
      · rename_i x q
        split at h
        · split at h
          · rename_i j pa e1 e2
            split at h
            · rename_i hv
              split at h <;> cases h
              · obtain ⟨k, ns, h1, h2, rfl⟩ := run_inS hr
                exact ⟨e_inS C (neg := false) rfl e1 hv h2 (S.ex e2 C h1), _, rfl, t_inS C (neg := false) rfl e1 hv h2 (S.ex e2 C h1)⟩
              · obtain ⟨k, ns, h1, h2, rfl⟩ := run_inS hr
                exact ⟨e_inS C (neg := true) rfl e1 hv h2 (S.ex e2 C h1), _, rfl, t_inS C (neg := true) rfl e1 hv h2 (S.ex e2 C h1)⟩
            · cases h
          · cases h
        · split at h
          · split at h
            · rename_i j pa e1 e2
              split at h
              · rename_i hv
                split at h <;> cases h
                · obtain ⟨y, k, ks, ds, h1, h2, h3, rfl⟩ := run_inO hr
                  exact ⟨e_inO C (neg := false) rfl e1 hv h2 h3 (S.ex e2 C h1), _, rfl, t_inO C (neg := false) rfl e1 hv h2 h3 (S.ex e2 C h1)⟩
                · obtain ⟨y, k, ks, ds, h1, h2, h3, rfl⟩ := run_inO hr
                  exact ⟨e_inO C (neg := true) rfl e1 hv h2 h3 (S.ex e2 C h1), _, rfl, t_inO C (neg := true) rfl e1 hv h2 h3 (S.ex e2 C h1)⟩
              · cases h
            · cases h
          · exact gen n1 n2 hs h hr
      · exact gen n1 n2 hs h hr
  unfold cCmp at h
  by_cases o1 : op = .Is
  · subst o1
    have h' : (if isNone b then (r.E G a).map IE.isN else none) = some ie := h
    split at h'
    · rename_i hb
      obtain ⟨pa, h1, rfl⟩ := map_some h'
      obtain ⟨x, h2, rfl⟩ := run_isN hr
      exact ⟨e_isN hb (S.ex h1 C h2), _, rfl, t_isN hb (S.ex h1 C h2)⟩
    · cases h'
  · by_cases o2 : op = .IsNot
    · subst o2
      have h' : (if isNone b then (r.E G a).map IE.notN else none) = some ie := h
      split at h'
      · rename_i hb
        obtain ⟨pa, h1, rfl⟩ := map_some h'
        obtain ⟨x, h2, rfl⟩ := run_notN hr
        exact ⟨e_notN hb (S.ex h1 C h2), _, rfl, t_notN hb (S.ex h1 C h2)⟩
      · cases h'
    · exact gen2 o1 o2 (by cases op <;> first | exact h | exact absurd rfl o1 | exact absurd rfl o2) hr

/-! ### two comparisons in a row -/
theorem run_chain {o o' : Cop} {p1 q1 r1 : IE} (h : (IE.chain o o' p1 q1 r1).run ρ c = some (d, c1)) : ∃ x c2 y c3 k, p1.run ρ c = some (x, c2) ∧ q1.run ρ c2 = some (y, c3) ∧ cmpD o x y = some k ∧
    ((k = true ∧ ∃ z k', r1.run ρ c3 = some (z, c1) ∧ cmpD o' y z = some k' ∧ d = .bl k') ∨ (k = false ∧ c3 = c1 ∧ d = .bl false)) := by
  unfold IE.run at h
  cases e1 : p1.run ρ c with
  | none => rw [e1] at h; cases h
  | some q =>
    obtain ⟨x, c2⟩ := q
    rw [e1] at h
    dsimp only at h
    cases e2 : q1.run ρ c2 with
    | none => rw [e2] at h; cases h
    | some q =>
      obtain ⟨y, c3⟩ := q
      rw [e2] at h
      dsimp only at h
      cases e3 : cmpD o x y with
      | none => rw [e3] at h; cases h
      | some k =>
        rw [e3] at h
        cases k with
        | false => cases h; exact ⟨x, c2, y, _, false, rfl, e2, e3, .inr ⟨rfl, rfl, rfl⟩⟩
        | true =>
          dsimp only at h
          cases e4 : r1.run ρ c3 with
          | none => rw [e4] at h; cases h
          | some q =>
            obtain ⟨z, c4⟩ := q
            rw [e4] at h
            obtain ⟨k', h1, h2⟩ := map_some h
            cases h2
            exact ⟨x, c2, y, c3, true, rfl, e2, e3, .inl ⟨rfl, z, k', e4, h1, rfl⟩⟩
theorem chain_no {op op' : CmpOp} (h : isSet e = false) : lastMarks [op, op'] [b, e] = false := by
  show behindInMarks op' e = false
  exact set_no h
theorem cChain_ok (S : Snd r) (C : Cok X p G) {op op' : CmpOp} {o o' : Cop} {p1 q1 r1 : IE} {ap : Pos} (hs : isSet e = false) (h1 : copC op = some o) (h2 : copC op' = some o') (h3 : r.E G a = some p1) (h4 : r.E G b = some q1) (h5 : r.E G e = some r1) (hr : (IE.chain o o' p1 q1 r1).run ρ c = some (d, c1)) :
    PE X (.Compare a [op, op'] [b, e] pos) (tE p ρ c d c1) ∧ ∃ k, d = .bl k ∧ PT X (.Compare a [op, op'] [b, e] ap) (tT p ρ c k c1) := by
  obtain ⟨x, c2, y, c3, k, k1, k2, k3, k4⟩ := run_chain hr
  obtain ⟨r2, ho, hv⟩ := cop_ok C h1 k3
  rcases k4 with ⟨rfl, z, k', k5, k6, rfl⟩ | ⟨rfl, rfl, rfl⟩
  · obtain ⟨r3, ho', hv'⟩ := cop_ok C h2 k6
    have rd : ∀ (σ : L2.St) (H : Hp) (Q : VK), tE p ρ c (.bl k') c1 σ H Q → tChain r2 r3 (tE p ρ c x c2) (tE p ρ c2 y c3) (tE p ρ c3 z c1) σ H Q := fun σ H Q ⟨S1, R, q⟩ =>
      ⟨S1, R, fun v H2 S2 R2 x2 a2 => ⟨S2, R2, fun u H3 S3 R3 x3 a3 => hv v u H3 S3 _ R3.sub (a2.sub x3.ss) a3 fun w H4 S4 x4 a4 => ⟨true, a4.bl_inv, iteT ⟨S4, R3.step0 x4, fun w2 H5 S5 R5 x5 a5 =>
        hv' u w2 H5 S5 Q R5.sub ((a3.sub x4.ss).sub x5.ss) a5 fun w3 H6 S6 x6 a6 => q w3 H6 S6 (R5.step0 x6) ((((x2.trans x3).trans x4.none_any).trans x5).trans x6.none_any) a6⟩⟩⟩⟩
    exact ⟨peM (pe_chain ho ho' (S.ex h3 C k1) (S.ex h4 C k2) (S.ex h5 C k5) (chain_no hs)) rd, k', rfl, ptM (pt_chain ho ho' (S.ex h3 C k1) (S.ex h4 C k2) (S.ex h5 C k5) (chain_no hs)) (t_test rd)⟩
  · have hcv : OpR X (compareOp op') (fun _ _ _ _ => False) := fun _ _ _ _ _ _ _ _ _ _ _ _ z => z.elim
    have he : PE X e (fun _ _ _ => False) := ⟨fun _ _ _ _ _ _ z => z.elim⟩
    have rd : ∀ (σ : L2.St) (H : Hp) (Q : VK), tE p ρ c (.bl false) c3 σ H Q → tChain r2 (fun _ _ _ _ => False) (tE p ρ c x c2) (tE p ρ c2 y c3) (fun _ _ _ => False) σ H Q := fun σ H Q ⟨S1, R, q⟩ =>
      ⟨S1, R, fun v H2 S2 R2 x2 a2 => ⟨S2, R2, fun u H3 S3 R3 x3 a3 => hv v u H3 S3 _ R3.sub (a2.sub x3.ss) a3 fun w H4 S4 x4 a4 => ⟨false, a4.bl_inv, iteF (q _ H4 S4 (R3.step0 x4) ((x2.trans x3).trans x4.none_any) (.bl _))⟩⟩⟩
    exact ⟨peM (pe_chain ho hcv (S.ex h3 C k1) (S.ex h4 C k2) he (chain_no hs)) rd, false, rfl, ptM (pt_chain ho hcv (S.ex h3 C k1) (S.ex h4 C k2) he (chain_no hs)) (t_test rd)⟩

/-! ### calls -/
theorem run_b1 {o : B1} {p1 : IE} (h : (IE.b1 o p1).run ρ c = some (d, c1)) : ∃ x, p1.run ρ c = some (x, c1) ∧ b1D o x = some d := by
  unfold IE.run at h
  cases e1 : p1.run ρ c with
  | none => rw [e1] at h; cases h
  | some q =>
    obtain ⟨x, c2⟩ := q
    rw [e1] at h
    obtain ⟨d', h1, h2⟩ := map_some h
    cases h2
    exact ⟨x, rfl, h1⟩
theorem run_b2 {o : B2} {p1 q1 : IE} (h : (IE.b2 o p1 q1).run ρ c = some (d, c1)) : ∃ x c2 y, p1.run ρ c = some (x, c2) ∧ q1.run ρ c2 = some (y, c1) ∧ b2D o x y = some d := by
  unfold IE.run at h
  cases e1 : p1.run ρ c with
  | none => rw [e1] at h; cases h
  | some q =>
    obtain ⟨x, c2⟩ := q
    rw [e1] at h
    dsimp only at h
    cases e2 : q1.run ρ c2 with
    | none => rw [e2] at h; cases h
    | some q =>
      obtain ⟨y, c3⟩ := q
      rw [e2] at h
      obtain ⟨d', h1, h2⟩ := map_some h
      cases h2
      exact ⟨x, c2, y, rfl, e2, h1⟩
theorem xof_run {il : IL} {ys : List Str} (h : il.xrun ρ c = some (ys, c1)) : ∃ ie, il = .of ie ∧ ie.run ρ c = some (.tpx ys, c1) := by
  cases il with
  | own i => unfold IL.xrun at h; cases h
  | of ie =>
    unfold IL.xrun at h
    split at h <;> cases h
    rename_i e1
    exact ⟨ie, rfl, e1⟩
theorem cXl_ok (S : Snd r) {il : IL} {ys : List Str} (h : cL r G e = some il) (C : Cok X p G) (hr : il.xrun ρ c = some (ys, c1)) : PE X e (tE p ρ c (.tpx ys) c1) := by
  obtain ⟨ie, rfl, h1⟩ := xof_run hr
  have gen : (r.E G e).map IL.of = some (.of ie) → PE X e (tE p ρ c (.tpx ys) c1) := fun h => by
    obtain ⟨ie', h2, h3⟩ := map_some h
    cases h3
    exact S.ex h2 C h1
  cases e with
  | Name x q =>
    have h' : (if G.ow.contains x then (match ixOf G.N x with
      | some i => if visB G.sc x && okN x then some (IL.own i) else none
      | none => none) else (r.E G (.Name x q)).map .of) = some (.of ie) := h
    split at h'
    · cases e1 : ixOf G.N x with
      | none => rw [e1] at h'; cases h'
      | some j =>
        rw [e1] at h'
        dsimp only at h'
        split at h' <;> cases h'
    · exact gen h'
  | _ => exact gen h
theorem run_len {l : IL} (h : (IE.len l).run ρ c = some (d, c1)) : (∃ isL ds, l.run ρ c = some (isL, ds, c1) ∧ d = .int ds.length) ∨ (∃ s, l.srun ρ c = some (s, c1) ∧ s.length ≤ line ∧ d = .int s.length) ∨ ∃ ys, l.xrun ρ c = some (ys, c1) ∧ d = .int ys.length := by
  unfold IE.run at h
  cases e1 : l.run ρ c with
  | none =>
    rw [e1] at h
    dsimp only at h
    cases e2 : l.srun ρ c with
    | none =>
      rw [e2] at h
      dsimp only at h
      cases e3 : l.xrun ρ c with
      | none => rw [e3] at h; cases h
      | some q => obtain ⟨ys, c3⟩ := q; rw [e3] at h; cases h; exact .inr (.inr ⟨ys, rfl, rfl⟩)
    | some q =>
      obtain ⟨s, c2⟩ := q
      rw [e2] at h
      dsimp only at h
      split at h <;> cases h
      rename_i hz
      exact .inr (.inl ⟨s, rfl, hz, rfl⟩)
  | some q => rw [e1] at h; cases h; exact .inl ⟨_, _, rfl, rfl⟩
theorem run_tupOf {l : IL} (h : (IE.tupOf l).run ρ c = some (d, c1)) : (∃ isL ds, l.run ρ c = some (isL, ds, c1) ∧ d = .tup ds) ∨ ∃ ys, l.xrun ρ c = some (ys, c1) ∧ d = .tpx ys := by
  unfold IE.run at h
  cases e1 : l.run ρ c with
  | none =>
    rw [e1] at h
    dsimp only at h
    cases e3 : l.xrun ρ c with
    | none => rw [e3] at h; cases h
    | some q => obtain ⟨ys, c3⟩ := q; rw [e3] at h; cases h; exact .inr ⟨ys, rfl, rfl⟩
  | some q => rw [e1] at h; cases h; exact .inl ⟨_, _, rfl, rfl⟩
theorem run_lstOf {l : IL} (h : (IE.lstOf l).run ρ c = some (d, c1)) : ∃ isL ds, l.run ρ c = some (isL, ds, c1) ∧ d = .lst ds := by
  unfold IE.run at h
  cases e1 : l.run ρ c with
  | none => rw [e1] at h; cases h
  | some q => rw [e1] at h; cases h; exact ⟨_, _, rfl, rfl⟩
theorem run_lenS (h : (IE.lenS i).run ρ c = some (d, c1)) : ∃ ns, ρ[i]? = some (.st ns) ∧ d = .int ns.length ∧ c1 = c ∧ ns.length < 100000 := by
  unfold IE.run at h
  split at h
  · rename_i ns e1
    split at h <;> cases h
    exact ⟨ns, e1, rfl, rfl, by assumption⟩
  · cases h
theorem run_call {n : Nat} {f : List D → Option D} {ia : IA} (h : (IE.call n f ia).run ρ c = some (d, c1)) : ∃ ds, ia.run ρ c = some (ds, c1) ∧ ds.length = n ∧ f ds = some d := by
  unfold IE.run at h
  cases e1 : ia.run ρ c with
  | none => rw [e1] at h; cases h
  | some q =>
    obtain ⟨ds, c2⟩ := q
    rw [e1] at h
    dsimp only at h
    split at h
    · rename_i hl
      obtain ⟨d', h1, h2⟩ := map_some h
      cases h2
      exact ⟨ds, rfl, hl, h1⟩
    · cases h
theorem run_calld {n : Nat} {f : D → List D → Int → Option (D × Int)} {ia : IA} (h : (IE.calld n f i ia).run ρ c = some (d, c1)) : ∃ s ds c2, ρ[i]? = some (.dr s) ∧ ia.run ρ c = some (ds, c2) ∧ ds.length = n ∧ f s ds c2 = some (d, c1) := by
  unfold IE.run at h
  split at h
  · rename_i s e0
    cases e1 : ia.run ρ c with
    | none => rw [e1] at h; cases h
    | some q =>
      obtain ⟨ds, c2⟩ := q
      rw [e1] at h
      dsimp only at h
      split at h
      · rename_i hl
        exact ⟨s, ds, c2, e0, rfl, hl, h⟩
      · cases h
  · cases h
theorem isDr_ok (h : isDr G nm = some i) : ixOf G.N nm = some i ∧ (visB G.sc nm && okN nm) = true := by
  unfold isDr at h
  split at h
  · split at h
    · rename_i e
      subst e
      split at h
      · rename_i j e1
        split at h <;> cases h
        exact ⟨e1, by assumption⟩
      · cases h
    · cases h
  · cases h
theorem star_one (h : ([a] : List Expr).any isStar = false) : isStar a = false := by
  rw [List.any_cons, Bool.or_eq_false_iff] at h
  exact h.1
theorem star_two (h : ([a, b] : List Expr).any isStar = false) : isStar a = false ∧ isStar b = false := by
  rw [List.any_cons, List.any_cons, Bool.or_eq_false_iff, Bool.or_eq_false_iff] at h
  exact ⟨h.1, h.2.1⟩
theorem cS_ok (S : Snd r) {il : IL} {s : Str} (h : cL r G e = some il) (C : Cok X p G) (hr : il.srun ρ c = some (s, c1)) : PE X e (tE p ρ c (.str s) c1) := by
  have gen : ∀ {e : Expr} {il : IL}, (r.E G e).map .of = some il → il.srun ρ c = some (s, c1) → PE X e (tE p ρ c (.str s) c1) := fun {e il} h hr => by
    obtain ⟨ie, h1, rfl⟩ := map_some h
    unfold IL.srun at hr
    split at hr <;> cases hr
    rename_i e1
    exact S.ex h1 C e1
  cases e with
  | Name x q =>
    have h' : (if G.ow.contains x then (match ixOf G.N x with
      | some i => if visB G.sc x && okN x then some (IL.own i) else none
      | none => none) else (r.E G (.Name x q)).map .of) = some il := h
    split at h'
    · cases e1 : ixOf G.N x with
      | none => rw [e1] at h'; cases h'
      | some j =>
        rw [e1] at h'
        dsimp only at h'
        split at h' <;> cases h'
        unfold IL.srun at hr
        cases hr
    · exact gen h' hr
  | _ => exact gen h hr
theorem cBlt_ok (S : Snd r) (C : Cok X p G) {ie : IE} {q : Pos} (hg : gn G nm = true) (hm : nm ∈ blts → X.mg nm = none) (h : cBlt r G nm es = some ie) (hr : ie.run ρ c = some (d, c1)) : PE X (.Call (.Name nm q) es [] pos) (tE p ρ c d c1) := by
  unfold cBlt at h
  split at h
  · cases h
  rename_i hs
  have hs : es.any isStar = false := by simpa using hs
  split at h
  · rename_i a _
    have hs1 := star_one hs
    split at h
    · rename_i hn
      subst hn
      have hm' := hm (by decide +kernel)
      have gen : (cL r G a).map .len = some ie → PE X (.Call (.Name ("len" : Str) q) [a] [] pos) (tE p ρ c d c1) := fun h => by
        obtain ⟨il, h1, rfl⟩ := map_some h
        rcases run_len hr with ⟨isL, ds, h2, rfl⟩ | ⟨s, h2, hz, rfl⟩ | ⟨ys, h2, rfl⟩
        · exact e_len C rfl hg hm' hs1 (cL_ok S h1 C h2)
        · exact e_lenStr C hz rfl hg hm' hs1 (cS_ok S h1 C h2)
        · have q := e_len (q := q) (pos := pos) C rfl hg hm' hs1 (l_x (cXl_ok S h1 C h2))
          rw [List.length_map] at q
          exact q
      split at h
      · rename_i y q2
        split at h
        · split at h
          · rename_i j e1
            split at h <;> cases h
            rename_i hv
            obtain ⟨ns, h1, rfl, rfl, h2⟩ := run_lenS hr
            exact e_lenS C rfl hg hm' e1 hv h1 h2
          · cases h
        · exact gen h
      · exact gen h
    split at h
    · rename_i hn
      subst hn
      obtain ⟨il, h1, rfl⟩ := map_some h
      rcases run_tupOf hr with ⟨isL, ds, h2, rfl⟩ | ⟨ys, h2, rfl⟩
      · exact e_tupOf C rfl hg (hm (by decide +kernel)) hs1 (cL_ok S h1 C h2)
      · exact e_tupOfX C rfl hg (hm (by decide +kernel)) hs1 (cXl_ok S h1 C h2)
    split at h
    · rename_i hn
      subst hn
      obtain ⟨il, h1, rfl⟩ := map_some h
      obtain ⟨isL, ds, h2, rfl⟩ := run_lstOf hr
      exact e_lstOf C rfl hg (hm (by decide +kernel)) hs1 (cL_ok S h1 C h2)
    split at h
    · rename_i hn
      subst hn
      obtain ⟨il, h1, rfl⟩ := map_some h
      obtain ⟨x, h2, h3⟩ := run_b1 hr
      exact e_b1 C (o := .int) rfl hg (hm (by decide +kernel)) hs1 (S.ex h1 C h2) h3
    split at h
    · rename_i hn
      subst hn
      obtain ⟨il, h1, rfl⟩ := map_some h
      obtain ⟨x, h2, h3⟩ := run_b1 hr
      exact e_b1 C (o := .abs) rfl hg (hm (by decide +kernel)) hs1 (S.ex h1 C h2) h3
    split at h
    · rename_i hn
      subst hn
      obtain ⟨il, h1, rfl⟩ := map_some h
      obtain ⟨x, h2, h3⟩ := run_b1 hr
      exact e_b1 C (o := .any) rfl hg (hm (by decide +kernel)) hs1 (S.ex h1 C h2) h3
    split at h
    · rename_i hn
      subst hn
      obtain ⟨il, h1, rfl⟩ := map_some h
      obtain ⟨x, h2, h3⟩ := run_b1 hr
      exact e_b1 C (o := .all) rfl hg (hm (by decide +kernel)) hs1 (S.ex h1 C h2) h3
    split at h
    · rename_i hn
      subst hn
      obtain ⟨il, h1, rfl⟩ := map_some h
      obtain ⟨x, h2, h3⟩ := run_b1 hr
      exact e_b1 C (o := .sum) rfl hg (hm (by decide +kernel)) hs1 (S.ex h1 C h2) h3
    split at h
    · rename_i hn
      subst hn
      obtain ⟨il, h1, rfl⟩ := map_some h
      obtain ⟨x, h2, h3⟩ := run_b1 hr
      exact e_b1 C (o := .str) rfl hg (hm (by decide +kernel)) hs1 (S.ex h1 C h2) h3
    · cases h
  · rename_i a b _
    obtain ⟨hs1, hs2⟩ := star_two hs
    split at h
    · rename_i hn
      subst hn
      split at h <;> cases h
      rename_i pa pb e1 e2
      obtain ⟨x, c2, y, h1, h2, h3⟩ := run_b2 hr
      exact e_b2 C (o := .max) rfl hg (hm (by decide +kernel)) hs1 hs2 (S.ex e1 C h1) (S.ex e2 C h2) h3
    split at h
    · rename_i hn
      subst hn
      split at h <;> cases h
      rename_i pa pb e1 e2
      obtain ⟨x, c2, y, h1, h2, h3⟩ := run_b2 hr
      exact e_b2 C (o := .min) rfl hg (hm (by decide +kernel)) hs1 hs2 (S.ex e1 C h1) (S.ex e2 C h2) h3
    · cases h
  · cases h
theorem run_mk {n : Nat} {k : Str} {F : List D → Option (List Str × List D)} {ia : IA} (h : (IE.mk n k F ia).run ρ c = some (d, c1)) : ∃ ds fs es, ia.run ρ c = some (ds, c1) ∧ ds.length = n ∧ F ds = some (fs, es) ∧ d = .obj k fs es := by
  unfold IE.run at h
  cases e1 : ia.run ρ c with
  | none => rw [e1] at h; cases h
  | some q =>
    obtain ⟨ds, c2⟩ := q
    rw [e1] at h
    dsimp only at h
    split at h
    · rename_i hn
      obtain ⟨q, h1, h2⟩ := map_some h
      obtain ⟨fs, es⟩ := q
      cases h2
      exact ⟨ds, fs, es, rfl, hn, h1, rfl⟩
    · cases h
theorem cAttr_ok (S : Snd r) (C : Cok X p G) {ie : IE} {f : Str} (h : cAttr r G e f = some ie) (hr : ie.run ρ c = some (d, c1)) (run_fld : ∀ {cs : List Str} {p1 : IE}, (IE.fld cs p1 f).run ρ c = some (d, c1) → ∃ k fs ds, p1.run ρ c = some (.obj k fs ds, c1) ∧ k ∈ cs ∧ (fs.zip ds).lookup f = some d) : PE X (.Attribute e f pos) (tE p ρ c d c1) := by
  have gen : plainO e = true → (r.E G e).map (fun x => IE.fld (G.fl f) x f) = some ie → PE X (.Attribute e f pos) (tE p ρ c d c1) := fun hp h => by
    obtain ⟨pa, h1, rfl⟩ := map_some h
    obtain ⟨k, fs, ds, h2, h3, h4⟩ := run_fld hr
    exact e_fld C h3 hp (S.ex h1 C h2) h4
  unfold cAttr at h
  split at h
  · rename_i x q
    split at h
    · rename_i i e1
      cases h
      obtain ⟨h1, h2⟩ := isSf_ok e1
      unfold IE.run at hr
      split at hr
      · rename_i k fs ds e2
        split at hr
        · rename_i hk
          obtain ⟨d', h3, h4⟩ := map_some hr
          cases h4
          exact e_sfl C (by simpa using hk) h1 h2 e2 h3
        · cases hr
      · cases hr
    · exact gen rfl h
  · split at h
    · rename_i hp
      exact gen hp h
    · cases h
theorem run_isi {ts : List Ty} {p1 : IE} (h : (IE.isi ts p1).run ρ c = some (d, c1)) : ∃ x q, p1.run ρ c = some (x, c1) ∧ tyD x = some q ∧ d = .bl (isiD q ts) := by
  unfold IE.run at h
  cases e1 : p1.run ρ c with
  | none => rw [e1] at h; cases h
  | some q =>
    obtain ⟨x, c2⟩ := q
    rw [e1] at h
    obtain ⟨q, h1, h2⟩ := map_some h
    cases h2
    exact ⟨x, q, rfl, h1, rfl⟩
theorem tyCs_len : ∀ {es : List Expr} {ts : List Ty}, tyCs G es = some ts → ts.length = es.length
  | [], _, h => by cases h; rfl
  | e :: es, ts, h => by
    unfold tyCs at h
    split at h <;> cases h
    rename_i t ts' e1 e2
    rw [List.length_cons, List.length_cons, tyCs_len e2]
theorem cIsi_ok (S : Snd r) (C : Cok X p G) {ie : IE} {q : Pos} {t : Expr} (hf : fr G "isinstance" = true) (h : cIsi r G a t = some ie) (hr : ie.run ρ c = some (d, c1)) : PE X (.Call (.Name "isinstance" q) [a, t] [] pos) (tE p ρ c d c1) := by
  unfold cIsi at h
  split at h
  · cases h
  · rename_i hs
    have hs : isStar a = false := by simpa using hs
    split at h
    · split at h <;> cases h
      rename_i x y e1 e2
      obtain ⟨x, q, h1, h2, rfl⟩ := run_isi hr
      exact e_isi1 C hf hs (S.ex e1 C h1) e2 h2
    · split at h
      · cases h
      · rename_i hl
        split at h <;> cases h
        rename_i x y e1 e2
        obtain ⟨x, q, h1, h2, rfl⟩ := run_isi hr
        exact e_isiT C hf hs (S.ex e1 C h1) e2 h2 (by rw [tyCs_len e2]; omega)
    · cases h
theorem run_meth {n : Nat} {m : Str} {tb : List (Str × (List D → Option D))} {p1 : IE} {ia : IA} (h : (IE.meth n m tb p1 ia).run ρ c = some (d, c1)) : ∃ k fs ds c2 es1 F, p1.run ρ c = some (.obj k fs ds, c2) ∧ ia.run ρ c2 = some (es1, c1) ∧ es1.length = n ∧ fs.contains m = false ∧ tb.lookup k = some F ∧ F (.obj k fs ds :: es1) = some d := by
  unfold IE.run at h
  split at h
  · rename_i k fs ds c2 e1
    cases e2 : ia.run ρ c2 with
    | none => rw [e2] at h; cases h
    | some q =>
      obtain ⟨es1, c3⟩ := q
      rw [e2] at h
      dsimp only at h
      split at h
      · rename_i hc
        split at h
        · rename_i F e3
          obtain ⟨d', h1, h2⟩ := map_some h
          cases h2
          exact ⟨k, fs, ds, c2, es1, F, e1, e2, hc.1, hc.2, e3, h1⟩
        · cases h
      · cases h
  · cases h
theorem pickM_mem {n : Nat} {k : Str} {F : List D → Option D} : ∀ {l : List (Str × Fn)}, (pickM n l).lookup k = some F → (k, Fn.pure n F) ∈ l
  | [], h => by cases h
  | (c, .pure j f) :: l, h => by
    unfold pickM at h
    split at h
    · rename_i e
      rw [List.lookup_cons] at h
      split at h
      · rename_i e2
        cases h
        have : k = c := by simpa using e2
        subst this
        subst e
        exact List.mem_cons_self
      · exact List.mem_cons_of_mem _ (pickM_mem h)
    · exact List.mem_cons_of_mem _ (pickM_mem h)
  | (c, .draw j f) :: l, h => List.mem_cons_of_mem _ (pickM_mem (show (pickM n l).lookup k = some F from h))
theorem cMeth_ok (S : Snd r) (C : Cok X p G) {ie : IE} {m : Str} {ap cp : Pos} (h : cMeth r G e m es ap cp = some ie) (hr : ie.run ρ c = some (d, c1)) : PE X (.Call (.Attribute e m ap) es [] cp) (tE p ρ c d c1) := by
  unfold cMeth at h
  split at h
  · rename_i hc
    obtain ⟨g1, g2, g3, g4⟩ := hc
    split at h <;> cases h
    rename_i pe ia e1 e2
    obtain ⟨k, fs, ds, c2, es1, F, h1, h2, h3, h4, h5, h6⟩ := run_meth hr
    have hk := pickM_mem h5
    cases es with
    | nil =>
      cases e2
      cases h2
      exact e_meth0 C hk g1 g4 (S.ex e1 C h1) h4 rfl h6
    | cons b es => exact e_meth C hk g1 g3 g4 (S.ex e1 C h1) g2 (cA_ok S C e2 h2) h4 (by rw [h3]) h6
  · cases h
theorem run_fld {cs : List Str} {f : Str} {p1 : IE} (h : (IE.fld cs p1 f).run ρ c = some (d, c1)) : ∃ k fs ds, p1.run ρ c = some (.obj k fs ds, c1) ∧ k ∈ cs ∧ (fs.zip ds).lookup f = some d := by
  unfold IE.run at h
  split at h
  · rename_i k fs ds c2 e1
    split at h
    · rename_i hc
      obtain ⟨d', h1, h2⟩ := map_some h
      cases h2
      exact ⟨k, fs, ds, e1, by simpa using hc, h1⟩
    · cases h
  · cases h
theorem cD_ok (S : Snd r) {il : IL} {ks : List Key} (h : cL r G e = some il) (C : Cok X p G) (hr : il.drun ρ c = some (ks, ds, c1)) : PE X e (tD p ρ c ks ds c1) := by
  have gen : ∀ {e : Expr} {il : IL}, (r.E G e).map .of = some il → il.drun ρ c = some (ks, ds, c1) → PE X e (tD p ρ c ks ds c1) := fun {e il} h hr => by
    obtain ⟨ie, h1, rfl⟩ := map_some h
    unfold IL.drun at hr
    split at hr <;> cases hr
    · rename_i e1
      exact d_of (S.ex h1 C e1)
    · rename_i e1
      exact d_ofO (S.ex h1 C e1)
  cases e with
  | Name x q =>
    have h' : (if G.ow.contains x then (match ixOf G.N x with
      | some i => if visB G.sc x && okN x then some (IL.own i) else none
      | none => none) else (r.E G (.Name x q)).map .of) = some il := h
    split at h'
    · cases e1 : ixOf G.N x with
      | none => rw [e1] at h'; cases h'
      | some j =>
        rw [e1] at h'
        dsimp only at h'
        split at h' <;> cases h'
        rename_i hv
        unfold IL.drun at hr
        split at hr <;> cases hr
        · rename_i e2
          exact d_own C e1 hv e2
        · rename_i e2
          exact d_ownA C e1 hv e2
    · exact gen h' hr
  | _ => exact gen h hr
theorem strs_ok : ∀ {ds : List D} {xs : List Str}, D.strs ds = some xs → ds = xs.map D.str
  | [], _, h => by cases h; rfl
  | .str i :: r, xs, h => by
    obtain ⟨xs', h1, rfl⟩ := map_some (show (D.strs r).map (i :: ·) = some xs from h)
    rw [List.map_cons, ← strs_ok h1]
  | .non :: _, _, h => by cases h
  | .bl _ :: _, _, h => by cases h
  | .int _ :: _, _, h => by cases h
  | .tup _ :: _, _, h => by cases h
  | .lst _ :: _, _, h => by cases h
  | .obj _ _ _ :: _, _, h => by cases h
  | .dic _ _ :: _, _, h => by cases h
  | .tpx _ :: _, _, h => by cases h
  | .dio _ _ :: _, _, h => by cases h
theorem run_lenSet {l : IL} (h : (IE.lenSet l).run ρ c = some (d, c1)) : ∃ xs, ((∃ isL, l.run ρ c = some (isL, xs.map D.str, c1)) ∨ l.xrun ρ c = some (xs, c1)) ∧ xs.length + 1 < scanBound ∧ d = .int (grown xs).length := by
  unfold IE.run at h
  split at h
  · rename_i isL ds c2 e1
    split at h
    · rename_i xs e2
      split at h <;> cases h
      rename_i hz
      exact ⟨xs, .inl ⟨isL, by rw [e1, strs_ok e2]⟩, hz, rfl⟩
    · cases h
  · split at h
    · rename_i xs c2 e2
      split at h <;> cases h
      rename_i hz
      exact ⟨xs, .inr e2, hz, rfl⟩
    · cases h
theorem run_srtP {l : IL} (h : (IE.srtP l).run ρ c = some (d, c1)) : (∃ ds r, l.run ρ c = some (true, ds, c1) ∧ srtPD ds = some r ∧ d = .lst r) ∨
    ∃ ks vds ss, l.drun ρ c = some (ks, vds, c1) ∧ strKs ks = some ss ∧ ss.length < 64 ∧ d = .lst ((ks.map kyD).mergeSort (PySem.W.dataLe false pdK)) := by
  unfold IE.run at h
  split at h
  · rename_i ds c2 e1
    obtain ⟨r, h1, h2⟩ := map_some h
    cases h2
    exact .inl ⟨ds, r, e1, h1, rfl⟩
  · cases h
  · split at h
    · rename_i ks vds c2 e2
      split at h
      · rename_i ss e3
        split at h <;> cases h
        rename_i hz
        exact .inr ⟨ks, vds, ss, e2, e3, hz, rfl⟩
      · cases h
    · cases h
theorem run_isc {cs al : List Str} {p1 : IE} (h : (IE.isc cs al p1).run ρ c = some (d, c1)) : ∃ k fs ds, p1.run ρ c = some (.obj k fs ds, c1) ∧ k ∈ al ∧ d = .bl (cs.contains k) := by
  unfold IE.run at h
  split at h
  · rename_i k fs ds c2 e1
    split at h <;> cases h
    rename_i hk
    exact ⟨k, fs, ds, e1, by simpa using hk, rfl⟩
  · cases h
theorem run_tupZip {p1 p2 : IE} (h : (IE.tupZip p1 p2).run ρ c = some (d, c1)) : ∃ xs c2 ys, p1.run ρ c = some (.tup xs, c2) ∧ p2.run ρ c2 = some (.tup ys, c1) ∧ (xs.length ≤ 1 ∨ ys.length ≤ 1) ∧ d = .tup (zipD xs ys) := by
  unfold IE.run at h
  split at h
  · rename_i xs c2 e1
    split at h
    · rename_i ys c3 e2
      split at h <;> cases h
      rename_i hz
      exact ⟨xs, c2, ys, e1, e2, hz, rfl⟩
    · cases h
  · cases h
theorem cIsc_ok (S : Snd r) (C : Cok X p G) {ie : IE} {q : Pos} {t : Expr} (hf : fr G "isinstance" = true) (hs : isStar a = false) (h : cIsc r G a t = some ie) (hr : ie.run ρ c = some (d, c1)) : PE X (.Call (.Name "isinstance" q) [a, t] [] pos) (tE p ρ c d c1) := by
  unfold cIsc at h
  split at h
  · split at h
    · rename_i hc
      obtain ⟨p1, h1, rfl⟩ := map_some h
      obtain ⟨k, fs, ds, h2, h3, rfl⟩ := run_isc hr
      exact e_isc1 C hf hs h3 (by simpa using hc.1) hc.2 (S.ex h1 C h2)
    · cases h
  · split at h
    · rename_i xs e1
      split at h
      · rename_i hc
        obtain ⟨p1, h1, rfl⟩ := map_some h
        obtain ⟨k, fs, ds, h2, h3, rfl⟩ := run_isc hr
        refine e_iscT C hf hs h3 e1 (fun x hx => ?_) hc.2 (S.ex h1 C h2)
        have := List.all_eq_true.mp hc.1 x hx
        rw [Bool.and_eq_true] at this
        exact ⟨by simpa using this.1, this.2⟩
      · cases h
    · cases h
  · cases h
theorem cNew_ok (S : Snd r) (C : Cok X p G) {ie : IE} {q : Pos} (hg : fr G nm = true) (h : cNew r G nm es = some ie) (hr : ie.run ρ c = some (d, c1)) : PE X (.Call (.Name nm q) es [] pos) (tE p ρ c d c1) := by
  unfold cNew at h
  split at h
  · split at h
    · cases h
  -- one thing
    · rename_i a hs
      have hs : isStar a = false := by simpa using hs
      split at h
      · rename_i hn
        subst hn
        obtain ⟨il, h1, rfl⟩ := map_some h
        rcases run_srtP hr with ⟨ds, l, h2, h3, rfl⟩ | ⟨ks, vds, ss, h2, h3, h4, rfl⟩
        · exact e_srtP C hg hs (cL_ok S h1 C h2) h3
        · exact e_srtD C hg hs (cD_ok S h1 C h2) h3 h4
      split at h
      · rename_i hn
        subst hn
        split at h
        · split at h
          · rename_i hc
            obtain ⟨rfl, h5, h6, h7⟩ := hc
            split at h <;> cases h
            rename_i pa pb e1 e2
            obtain ⟨xs, c2, ys, h1, h2, h3, rfl⟩ := run_tupZip hr
            exact e_tupZip C hg h5 h6 h7 (S.ex e1 C h1) (S.ex e2 C h2) h3
          · cases h
        · cases h
      · split at h
        · rename_i hn
          subst hn
          split at h
          · split at h
            · rename_i hc
              obtain ⟨rfl, h5, h6⟩ := hc
              obtain ⟨il, h1, rfl⟩ := map_some h
              obtain ⟨xs, h2, h3, rfl⟩ := run_lenSet hr
              rcases h2 with ⟨isL, h2⟩ | h2
              · exact e_lenSet C hg h5 h6 (cL_ok S h1 C h2) h3
              · exact e_lenSet C hg h5 h6 (l_x (cXl_ok S h1 C h2)) h3
            · cases h
          · cases h
        · cases h
  · split at h
    · rename_i hc
      obtain ⟨rfl, h1⟩ := hc
      exact cIsc_ok S C hg h1 h hr
    · cases h
  · cases h
theorem cCall_ok (S : Snd r) (C : Cok X p G) {ie : IE} {q : Pos} (h : cCall r G nm es = some ie) (hr : ie.run ρ c = some (d, c1)) : PE X (.Call (.Name nm q) es [] pos) (tE p ρ c d c1) := by
  unfold cCall at h
  split at h
  · rename_i hg
    split at h
    · rename_i n f e1
      split at h
      · cases h
      · rename_i hc
        have hc : (es.any isStar || es.isEmpty || es.length != n) = false := by simpa using hc
        rw [Bool.or_eq_false_iff, Bool.or_eq_false_iff] at hc
        obtain ⟨ia, h1, rfl⟩ := map_some h
        obtain ⟨ds, h2, h3, h4⟩ := run_call hr
        cases es with
        | nil => exact absurd hc.1.2 (by simp)
        | cons a es => exact e_call C e1 hg hc.1.1 (cA_ok S C h1 h2) h3 h4
    · rename_i n f e1
      split at h
      · rename_i y q2 rest
        split at h
        · cases h
        · rename_i hc
          have hc : (rest.any isStar || rest.length != n) = false := by simpa using hc
          rw [Bool.or_eq_false_iff] at hc
          split at h <;> cases h
          rename_i j ia e2 e3
          obtain ⟨h1, h2⟩ := isDr_ok e2
          obtain ⟨s, ds, c2, h3, h4, h5, h6⟩ := run_calld hr
          exact e_calld C e1 hg hc.1 h1 h2 h3 (cA_ok S C e3 h4) h5 h6
      · cases h
    · rename_i e1
      split at h
      · cases h
      · rename_i e2
        split at h
        · rename_i n F e3
          split at h
          · cases h
          · rename_i hc
            have hc : (es.any isStar || es.isEmpty || es.length != n) = false := by simpa using hc
            rw [Bool.or_eq_false_iff, Bool.or_eq_false_iff] at hc
            obtain ⟨ia, h1, rfl⟩ := map_some h
            obtain ⟨ds, fs, es2, h2, h3, h4, rfl⟩ := run_mk hr
            cases es with
            | nil => exact absurd hc.1.2 (by simp)
            | cons a es => exact e_mk C e3 hg hc.1.1 (cA_ok S C h1 h2) h3 h4
        · split at h
          · rename_i i e3
            cases h
            exact cNew_ok S C (by unfold fr; rw [hg, e1, e2]; rfl) e3 hr
          · split at h
            · rename_i a t
              split at h
              · rename_i hx
                subst hx
                exact cIsi_ok S C (by unfold fr; rw [hg, e1, e2]; rfl) h hr
              · exact cBlt_ok S C hg (fun hb => C.bl nm hb e1 e2) h hr
            · exact cBlt_ok S C hg (fun hb => C.bl nm hb e1 e2) h hr
  · cases h
theorem run_ix {l : IL} {p1 : IE} (h : (IE.ix l p1).run ρ c = some (d, c1)) : (∃ isL ds c2 k, l.run ρ c = some (isL, ds, c2) ∧ p1.run ρ c2 = some (.int k, c1) ∧ atI ds k = some d) ∨
    (∃ ks ds c2 y q, l.drun ρ c = some (ks, ds, c2) ∧ p1.run ρ c2 = some (y, c1) ∧ keyOf y = some q ∧ dval ks ds q = some d) ∨
    ∃ s c2 k ch, l.srun ρ c = some (s, c2) ∧ p1.run ρ c2 = some (.int k, c1) ∧ s.length ≤ line ∧ atI s.cps.toList k = some ch ∧ d = .str ⟨#[ch]⟩ := by
  unfold IE.run at h
  cases e1 : l.run ρ c with
  | none =>
    rw [e1] at h
    dsimp only at h
    cases e2 : l.drun ρ c with
    | none =>
      rw [e2] at h
      dsimp only at h
      cases e5 : l.srun ρ c with
      | none => rw [e5] at h; cases h
      | some q =>
        obtain ⟨s, c2⟩ := q
        rw [e5] at h
        dsimp only at h
        split at h
        · rename_i k c3 e3
          split at h
          · rename_i hz
            obtain ⟨ch, h1, h2⟩ := map_some h
            cases h2
            exact .inr (.inr ⟨s, c2, k, ch, rfl, e3, hz, h1, rfl⟩)
          · cases h
        · cases h
    | some q =>
      obtain ⟨ks, ds, c2⟩ := q
      rw [e2] at h
      dsimp only at h
      cases e3 : p1.run ρ c2 with
      | none => rw [e3] at h; cases h
      | some q =>
        obtain ⟨y, c3⟩ := q
        rw [e3] at h
        dsimp only at h
        cases e4 : keyOf y with
        | none => rw [e4] at h; cases h
        | some q =>
          rw [e4] at h
          obtain ⟨d', h1, h2⟩ := map_some h
          cases h2
          exact .inr (.inl ⟨ks, ds, c2, y, q, rfl, e3, e4, h1⟩)
  | some q =>
    obtain ⟨isL, ds, c2⟩ := q
    rw [e1] at h
    dsimp only at h
    split at h
    · rename_i k c3 e2
      obtain ⟨d', h1, h2⟩ := map_some h
      cases h2
      exact .inl ⟨isL, ds, c2, k, rfl, e2, h1⟩
    · cases h
theorem chain_ok (S : Snd r) (C : Cok X p G) : ∀ {es : List Expr} {ia : IA} {c c1 : Int} {ds : List D}, es.any isStar = false → cA r G es = some ia → ia.run ρ c = some (ds, c1) → Chain X p ρ es ds c c1
  | [], ia, c, c1, ds, _, h, hr => by cases h; cases hr; exact .nil
  | e :: es, ia, c, c1, ds, hs, h, hr => by
    rw [List.any_cons, Bool.or_eq_false_iff] at hs
    have h' : (match r.E G e, cA r G es with
      | some a, some b => some (IA.cons a b)
      | _, _ => none) = some ia := by
      cases e <;> first | exact h | cases hs.1
    split at h' <;> cases h'
    rename_i pa pb e1 e2
    unfold IA.run at hr
    cases e3 : pa.run ρ c with
    | none => rw [e3] at hr; cases hr
    | some q =>
      obtain ⟨d, c2⟩ := q
      rw [e3] at hr
      dsimp only at hr
      cases e4 : pb.run ρ c2 with
      | none => rw [e4] at hr; cases hr
      | some q =>
        obtain ⟨ds', c3⟩ := q
        rw [e4] at hr
        cases hr
        exact .cons (S.ex e1 C e3) (chain_ok S C hs.2 e2 e4)
theorem cDct_ok {keys : List (Option Expr)} {ks : List Key} {ia : IA} (h : cDct r G keys es = some (ks, ia)) : keys.length = es.length ∧ keys.length ≤ 15 ∧ es.any isStar = false ∧ keys.isEmpty = false ∧ keysC keys = some ks ∧ cA r.tx G es = some ia ∧ ks.Nodup := by
  unfold cDct at h
  split at h
  · rename_i hc
    split at h
    · rename_i e1 e2
      split at h <;> cases h
      rename_i hn
      exact ⟨hc.1, hc.2.1, hc.2.2.1, hc.2.2.2, e1, e2, hn⟩
    · cases h
  · cases h
theorem run_dct {ks : List Key} {ia : IA} (h : (IE.dct ks ia).run ρ c = some (d, c1)) : ∃ ds, ia.run ρ c = some (ds, c1) ∧ ds.length = ks.length ∧ d = .dic ks ds := by
  unfold IE.run at h
  cases e1 : ia.run ρ c with
  | none => rw [e1] at h; cases h
  | some q =>
    obtain ⟨ds, c2⟩ := q
    rw [e1] at h
    dsimp only at h
    split at h <;> cases h
    exact ⟨ds, rfl, by assumption, rfl⟩
theorem cGet_ok (S : Snd r) (C : Cok X p G) {ie : IE} {ap cp : Pos} (h : cGet r G e es ap cp = some ie) (hr : ie.run ρ c = some (d, c1)) : PE X (.Call (.Attribute e "get" ap) es [] cp) (tE p ρ c d c1) := by
  unfold cGet at h
  split at h
  · rename_i hc
    obtain ⟨g1, g2, g3⟩ := hc
    split at h
    · rename_i k
      split at h <;> cases h
      rename_i l pk e1 e2
      have hs : isStar k = false := by rw [List.any_cons, List.any_nil, Bool.or_false] at g2; exact g2
      unfold IE.run at hr
      cases e3 : l.drun ρ c with
      | none => rw [e3] at hr; cases hr
      | some q =>
        obtain ⟨ks, ds, c2⟩ := q
        rw [e3] at hr
        dsimp only at hr
        cases e4 : pk.run ρ c2 with
        | none => rw [e4] at hr; cases hr
        | some q =>
          obtain ⟨y, c3⟩ := q
          rw [e4] at hr
          obtain ⟨q, h1, h2⟩ := map_some hr
          cases h2
          exact e_dgt1 C g1 hs g3 (cD_ok S e1 C e3) (S.ex e2 C e4) h1
    · rename_i k x
      split at h <;> cases h
      rename_i l pk px e1 e2 e5
      rw [List.any_cons, List.any_cons, List.any_nil, Bool.or_false, Bool.or_eq_false_iff] at g2
      unfold IE.run at hr
      cases e3 : l.drun ρ c with
      | none => rw [e3] at hr; cases hr
      | some q =>
        obtain ⟨ks, ds, c2⟩ := q
        rw [e3] at hr
        dsimp only at hr
        cases e4 : pk.run ρ c2 with
        | none => rw [e4] at hr; cases hr
        | some q =>
          obtain ⟨y, c3⟩ := q
          rw [e4] at hr
          dsimp only at hr
          cases e6 : px.run ρ c3 with
          | none => rw [e6] at hr; cases hr
          | some q =>
            obtain ⟨z, c4⟩ := q
            rw [e6] at hr
            obtain ⟨q, h1, h2⟩ := map_some hr
            cases h2
            exact e_dgt2 C g1 g2.1 g2.2 g3 (cD_ok S e1 C e3) (S.ex e2 C e4) (S.ex e5 C e6) h1
    · cases h
  · cases h
theorem run_sli {l : IL} {lo hi : IO} (h : (IE.sli l lo hi).run ρ c = some (d, c1)) : (∃ isL ds c2 x c3 y, l.run ρ c = some (isL, ds, c2) ∧ lo.run ρ c2 = some (x, c3) ∧ hi.run ρ c3 = some (y, c1) ∧ d = (if isL = true then .lst (cutD ds x y) else .tup (cutD ds x y))) ∨
    ∃ s c2 x c3 y, l.srun ρ c = some (s, c2) ∧ lo.run ρ c2 = some (x, c3) ∧ hi.run ρ c3 = some (y, c1) ∧ s.length ≤ line ∧ d = .str (cutS s x y) := by
  unfold IE.run at h
  cases e1 : l.run ρ c with
  | none =>
    rw [e1] at h
    dsimp only at h
    cases e4 : l.srun ρ c with
    | none => rw [e4] at h; cases h
    | some q =>
      obtain ⟨s, c2⟩ := q
      rw [e4] at h
      dsimp only at h
      cases e2 : lo.run ρ c2 with
      | none => rw [e2] at h; cases h
      | some q =>
        obtain ⟨x, c3⟩ := q
        rw [e2] at h
        dsimp only at h
        cases e3 : hi.run ρ c3 with
        | none => rw [e3] at h; cases h
        | some q =>
          obtain ⟨y, c4⟩ := q
          rw [e3] at h
          dsimp only at h
          split at h <;> cases h
          rename_i hz
          exact .inr ⟨s, c2, x, c3, y, rfl, e2, e3, hz, rfl⟩
  | some q =>
    obtain ⟨isL, ds, c2⟩ := q
    rw [e1] at h
    dsimp only at h
    cases e2 : lo.run ρ c2 with
    | none => rw [e2] at h; cases h
    | some q =>
      obtain ⟨x, c3⟩ := q
      rw [e2] at h
      dsimp only at h
      cases e3 : hi.run ρ c3 with
      | none => rw [e3] at h; cases h
      | some q =>
        obtain ⟨y, c4⟩ := q
        rw [e3] at h
        cases h
        exact .inl ⟨isL, ds, c2, x, c3, y, rfl, e2, e3, rfl⟩
theorem run_rev {l : IL} (h : (IE.rev l).run ρ c = some (d, c1)) : ∃ ds, l.run ρ c = some (true, ds, c1) ∧ d = .lst ds.reverse := by
  unfold IE.run at h
  split at h <;> cases h
  rename_i ds e1
  exact ⟨ds, e1, rfl⟩
theorem run_tm0 {p1 : IE} (h : (IE.tm0 p1).run ρ c = some (d, c1)) : ∃ x, p1.run ρ c = some (.str x, c1) ∧ d = .bl (Txt.isdigit x) := by
  unfold IE.run at h
  split at h <;> cases h
  rename_i x e1
  exact ⟨x, e1, rfl⟩
theorem run_tm1 {m : M1t} {p1 q1 : IE} (h : (IE.tm1 m p1 q1).run ρ c = some (d, c1)) : ∃ x c2 y, p1.run ρ c = some (.str x, c2) ∧ q1.run ρ c2 = some (.str y, c1) ∧ m1D m x y = some d := by
  unfold IE.run at h
  split at h
  · rename_i x c2 e1
    split at h
    · rename_i y c3 e2
      obtain ⟨z, h1, h2⟩ := map_some h
      cases h2
      exact ⟨x, c2, y, e1, e2, h1⟩
    · cases h
  · cases h
theorem run_idx {p1 q1 : IE} (h : (IE.idx p1 q1).run ρ c = some (d, c1)) : ∃ c2 z ys j, p1.run ρ c = some (.tpx ys, c2) ∧ q1.run ρ c2 = some (.str z, c1) ∧ idxS z ys 0 = some j ∧ d = .int (j : Nat) := by
  unfold IE.run at h
  cases e1 : p1.run ρ c with
  | none => rw [e1] at h; cases h
  | some q =>
    obtain ⟨x, c2⟩ := q
    rw [e1] at h
    cases x <;> try (cases h; done)
    rename_i ys
    dsimp only at h
    cases e2 : q1.run ρ c2 with
    | none => rw [e2] at h; cases h
    | some q =>
      obtain ⟨y, c3⟩ := q
      rw [e2] at h
      cases y <;> try (cases h; done)
      rename_i z
      obtain ⟨j, e4, h5⟩ := map_some h
      cases h5
      exact ⟨c2, z, ys, j, rfl, e2, e4, rfl⟩
theorem run_join {p1 : IE} {l : IL} (h : (IE.join p1 l).run ρ c = some (d, c1)) : ∃ x c2 isL ds, p1.run ρ c = some (.str x, c2) ∧ l.run ρ c2 = some (isL, ds, c1) ∧ joinD x ds = some d := by
  unfold IE.run at h
  split at h
  · rename_i x c2 e1
    split at h
    · rename_i isL ds c3 e2
      obtain ⟨z, h1, h2⟩ := map_some h
      cases h2
      exact ⟨x, c2, isL, ds, e1, e2, h1⟩
    · cases h
  · cases h
theorem run_consA {p1 : IE} {ia : IA} (h : (IA.cons p1 ia).run ρ c = some (ds, c1)) : ∃ x c2 xs, p1.run ρ c = some (x, c2) ∧ ia.run ρ c2 = some (xs, c1) ∧ ds = x :: xs := by
  unfold IA.run at h
  split at h
  · rename_i x c2 e1
    split at h <;> cases h
    rename_i xs e2
    exact ⟨x, c2, xs, e1, e2, rfl⟩
  · cases h
theorem cat_cons {acc out : Str} {x : D} {xs : List D} (h : catD acc (x :: xs) = some out) : ∃ y, fmtD x = some y ∧ (acc ++ y).length ≤ line ∧ catD (acc ++ y) xs = some out := by
  unfold catD at h
  split at h
  · rename_i y e1
    split at h
    · rename_i hz
      exact ⟨y, e1, hz, h⟩
    · cases h
  · cases h
theorem cFs_ok (S : Snd r) (C : Cok X p G) : ∀ {es : List Expr} {ia : IA} {ds : List D} {c c1 : Int} {acc out : Str}, cFs r G es = some ia → ia.run ρ c = some (ds, c1) → catD acc ds = some out →
    ∃ ts, PJ X es ts ∧ ∀ (σ : L2.St) (H : Hp) (Q : Str → Hp → Prop), (∃ S, Rel p σ H S ρ c ∧ ∀ H1 S1, Rel p σ H1 S1 ρ c1 → Ext p.g H S H1 S1 → Q out H1) → tJs ts acc σ H Q
  | [], ia, ds, c, c1, acc, out, h, hr, hc => by
    cases h
    unfold IA.run at hr
    cases hr
    cases hc
    exact ⟨[], .nil, fun σ H Q ⟨S, R, k⟩ => k H S R (Ext.refl R.sub)⟩
  | e :: es, ia, ds, c, c1, acc, out, h, hr, hc => by
    unfold cFs at h
    split at h
    · rename_i h0; cases h0
    · rename_i s _ _ es' h0
      cases h0
      obtain ⟨ia', h1, rfl⟩ := map_some h
      obtain ⟨x, c2, xs, g1, g2, rfl⟩ := run_consA hr
      unfold IE.run at g1
      cases g1
      obtain ⟨y, f1, f2, f3⟩ := cat_cons hc
      have f1' : (if s.length ≤ line then some s else none) = some y := f1
      split at f1' <;> cases f1'
      obtain ⟨ts, t1, t2⟩ := cFs_ok S C h1 g2 f3
      obtain ⟨z1, z2⟩ := fst_cons (c := c) pe_str t1 f2 (fun σ H Q ⟨S, R, k⟩ => k H S R (Ext.refl R.sub)) t2
      exact ⟨_, z1, z2⟩
    · rename_i e1 k _ es' h0
      cases h0
      split at h
      · rename_i hk
        subst hk
        split at h <;> cases h
        rename_i x1 a1 h1 h2
        obtain ⟨x, c2, xs, g1, g2, rfl⟩ := run_consA hr
        obtain ⟨y, f1, f2, f3⟩ := cat_cons hc
        obtain ⟨ts, t1, t2⟩ := cFs_ok S C h2 g2 f3
        obtain ⟨m1, m2⟩ := fmt_val (q := _) (S.ex h1 C g1) f1
        obtain ⟨z1, z2⟩ := fst_cons m1 t1 f2 m2 t2
        exact ⟨_, z1, z2⟩
      · cases h
    · cases h
theorem cTm_ok (S : Snd r) (C : Cok X p G) {ie : IE} {m : Str} {ap cp : Pos} (h : cTm r G e m es ap cp = some ie) (hr : ie.run ρ c = some (d, c1)) : PE X (.Call (.Attribute e m ap) es [] cp) (tE p ρ c d c1) := by
  unfold cTm at h
  split at h
  · rename_i hc
    split at h
    · split at h
      · rename_i hm
        subst hm
        obtain ⟨pe, h1, rfl⟩ := map_some h
        obtain ⟨x, h2, rfl⟩ := run_tm0 hr
        exact e_tm0 hc.1 hc.2 (S.ex h1 C h2)
      · cases h
    · split at h
      · cases h
      · rename_i b hs
        split at h
        · rename_i hm
          subst hm
          split at h <;> cases h
          rename_i x y e1 e2
          obtain ⟨c2, z, ys, j, h1, h2, h4, rfl⟩ := run_idx hr
          exact e_idx C hc.1 (by simpa using hs) hc.2 (S.ex e1 C h1) (S.ex e2 C h2) h4
        split at h
        · rename_i hm
          subst hm
          split at h <;> cases h
          rename_i x l e1 e2
          obtain ⟨u, c2, isL, ds, h1, h2, h3⟩ := run_join hr
          exact e_join C hc.1 (by simpa using hs) hc.2 (S.ex e1 C h1) (cL_ok S e2 C h2) h3
        · split at h <;> cases h
          rename_i k x y e1 e2 e3
          obtain ⟨u, c2, v, h1, h2, h3⟩ := run_tm1 hr
          exact e_tm1 e1 hc.1 (by simpa using hs) hc.2 (S.ex e2 C h1) (S.ex e3 C h2) h3
    · cases h
  · cases h
theorem cSub_ok (S : Snd r) (C : Cok X p G) {ie : IE} (h : cSub r G a b = some ie) (hr : ie.run ρ c = some (d, c1)) : PE X (.Subscript a b pos) (tE p ρ c d c1) := by
  have gen : plainIxB b = true → (match cL r G a, r.E G b with
      | some l, some p => some (IE.ix l p)
      | _, _ => none) = some ie → PE X (.Subscript a b pos) (tE p ρ c d c1) := fun hp h => by
    split at h <;> cases h
    rename_i l pb e1 e2
    rcases run_ix hr with ⟨isL, ds, c2, k, h1, h2, h3⟩ | ⟨ks, ds, c2, y, q, h1, h2, h3, h4⟩ | ⟨s, c2, k, ch, h1, h2, h3, h4, rfl⟩
    · exact e_ix C hp (cL_ok S e1 C h1) (S.ex e2 C h2) h3
    · exact e_dix C hp (cD_ok S e1 C h1) (S.ex e2 C h2) h3 h4
    · exact e_ixs hp h3 (cS_ok S e1 C h1) (S.ex e2 C h2) h4
  unfold cSub at h
  split at h
  · obtain ⟨l, h1, rfl⟩ := map_some h
    obtain ⟨ds, h2, rfl⟩ := run_rev hr
    exact e_rev C (cL_ok S h1 C h2)
  · rename_i lo hi q
    split at h <;> cases h
    rename_i l pl ph e1 e2 e3
    rcases run_sli hr with ⟨isL, ds, c2, x, c3, y, h1, h2, h3, rfl⟩ | ⟨s, c2, x, c3, y, h1, h2, h3, h4, rfl⟩
    · exact e_sli C (cL_ok S e1 C h1) (cO_ok S e2 C h2) (cO_ok S e3 C h3)
    · exact e_sls h4 (cS_ok S e1 C h1) (cO_ok S e2 C h2) (cO_ok S e3 C h3)
  · split at h
    · rename_i hp
      split at h
      · rename_i x q
        split at h
        · rename_i j e1
          obtain ⟨h1, h2⟩ := isDr_ok e1
          split at h
          · rename_i k jj q2
            split at h
            · rename_i hk
              subst hk
              cases h
              unfold IE.run at hr
              split at hr <;> cases hr
              rename_i s e2
              exact e_scr C h1 h2 e2
            · split at h <;> cases h
              rename_i hk
              subst hk
              unfold IE.run at hr
              split at hr <;> cases hr
              rename_i s e2
              exact e_cnt C h1 h2 e2
          · cases h
        · exact gen hp h
      · exact gen hp h
    · cases h
theorem run_srt {f : List D → Option D} {l : IL} (h : (IE.srt f l).run ρ c = some (d, c1)) : ∃ ds s, l.run ρ c = some (true, ds, c1) ∧ srtD f ds = some s ∧ d = .lst s := by
  unfold IE.run at h
  split at h
  · rename_i ds c2 e1
    obtain ⟨s, h1, h2⟩ := map_some h
    cases h2
    exact ⟨ds, s, e1, h1, rfl⟩
  · cases h
theorem cSrt_ok (K : SrtOk) (S : Snd r) (C : Cok X p G) {ie : IE} {q : Pos} {kw : Keyword} (h : cSrt r G nm a kw = some ie) (hr : ie.run ρ c = some (d, c1)) : PE X (.Call (.Name nm q) [a] [kw] pos) (tE p ρ c d c1) := by
  obtain ⟨ka, kv, kp⟩ := kw
  unfold cSrt at h
  split at h
  · rename_i k f fp e1 e2
    dsimp only at e1 e2
    subst e1
    subst e2
    split at h
    · rename_i hc
      obtain ⟨rfl, rfl, h1, h2, h3⟩ := hc
      split at h <;> cases h
      rename_i F l e3 e4
      obtain ⟨ds, s, h4, h5, rfl⟩ := run_srt hr
      exact K C h1 h2 h3 e3 (cL_ok S e4 C h4) h5
    · cases h
  · cases h
theorem run_lc {own : List Nat} {tg : IG} {it : II} {t : IT} {p1 : IE} (h : (IE.lc own tg it t p1).run ρ c = some (d, c1)) : ∃ ds c2 l, it.run ρ c = some (ds, c2) ∧ lcGo (lcF ρ own tg t p1) ds c2 = some (l, c1) ∧ ds.length ≤ line ∧ d = .lst l := by
  unfold IE.run at h
  cases e1 : it.run ρ c with
  | none => rw [e1] at h; cases h
  | some q =>
    obtain ⟨ds, c2⟩ := q
    rw [e1] at h
    have h' : (match lcGo (lcF ρ own tg t p1) ds c2 with
      | some (l, c2) => if ds.length ≤ line then some (D.lst l, c2) else none
      | none => none) = some (d, c1) := h
    cases e2 : lcGo (lcF ρ own tg t p1) ds c2 with
    | none => rw [e2] at h'; cases h'
    | some q =>
      obtain ⟨l, c3⟩ := q
      rw [e2] at h'
      dsimp only at h'
      split at h' <;> cases h'
      exact ⟨ds, c2, l, rfl, e2, by assumption, rfl⟩
theorem cLc_ok (S : Snd r) (C : Cok X p G) {ie : IE} {elt tg it : Expr} {ifs : List Expr} {scope : Scope} (h : cLc r G elt tg it ifs scope = some ie) (hr : ie.run ρ c = some (d, c1)) : PE X (.ListComp elt [⟨tg, it, ifs, 0⟩] scope pos) (tE p ρ c d c1) := by
  unfold cLc at h
  split at h
  · rename_i hc
    dsimp only at h
    split at h
    · rename_i ii ig t p1 e1 e2 e3 e4
      split at h <;> cases h
      rename_i ho
      obtain ⟨ds, c2, l, h1, h2, h3, rfl⟩ := run_lc hr
      have ho' : ∀ j ∈ gix ig, j ∈ (ownC G.N scope).map (·.2) := fun j hj => by
        have q := List.all_eq_true.mp ho j hj
        simpa using q
      exact e_lc C hc.1 rfl hc.2 (cI_ok S C e1 h1) (fun X' C' => S.G _ _ _ e2 X' p C') (fun X' C' => cIfs_ok S C' e3) (fun X' C' => S.E _ _ _ e4 X' p C') ho' h2 h3
    · cases h
  · cases h
theorem run_dc {own : List Nat} {tg : IG} {it : II} {t : IT} {ik p1 : IE} (h : (IE.dc own tg it t ik p1).run ρ c = some (d, c1)) : ∃ ds c2 l, it.run ρ c = some (ds, c2) ∧ dcGo (dcF ρ own tg t ik p1) ds ([], []) c2 = some (l, c1) ∧ d = .dic l.1 l.2 := by
  unfold IE.run at h
  cases e1 : it.run ρ c with
  | none => rw [e1] at h; cases h
  | some q =>
    obtain ⟨ds, c2⟩ := q
    rw [e1] at h
    have h' : (dcGo (dcF ρ own tg t ik p1) ds ([], []) c2).map (fun q => (D.dic q.1.1 q.1.2, q.2)) = some (d, c1) := h
    obtain ⟨⟨l, c3⟩, h2, h3⟩ := map_some h'
    cases h3
    exact ⟨ds, c2, l, rfl, h2, rfl⟩
theorem cDc_ok (S : Snd r) (C : Cok X p G) {ie : IE} {kx elt tg it : Expr} {ifs : List Expr} {scope : Scope} (h : cDc r G kx elt tg it ifs scope = some ie) (hr : ie.run ρ c = some (d, c1)) : PE X (.DictComp kx elt [⟨tg, it, ifs, 0⟩] scope pos) (tE p ρ c d c1) := by
  unfold cDc at h
  split at h
  · rename_i hc
    dsimp only at h
    split at h
    · rename_i ii ig t pk p1 e1 e2 e3 e4 e5
      split at h <;> cases h
      rename_i ho
      obtain ⟨ds, c2, l, h1, h2, rfl⟩ := run_dc hr
      have ho' : ∀ j ∈ gix ig, j ∈ (ownC G.N scope).map (·.2) := fun j hj => by
        have q := List.all_eq_true.mp ho j hj
        simpa using q
      exact e_dc C hc.1 rfl hc.2 (cI_ok S C e1 h1) (fun X' C' => S.G _ _ _ e2 X' p C') (fun X' C' => cIfs_ok S C' e3) (fun X' C' => S.E _ _ _ e4 X' p C') (fun X' C' => S.E _ _ _ e5 X' p C') ho' h2
    · cases h
  · cases h
theorem stepE_ok (K : SrtOk) (S : Snd r) (C : Cok X p G) {ie : IE} (h : stepE r G e = some ie) : PE X e (uE p ie) := by
  refine pe_all fun ρ c d c1 hr => ?_
  unfold stepE at h
  split at h
  · -- a name
    split at h
    · rename_i j e1
      split at h <;> cases h
      rename_i hv
      unfold IE.run at hr
      split at hr <;> cases hr
      rename_i e2
      exact e_var C e1 hv e2
    · split at h
      · rename_i hg
        obtain ⟨d', h1, rfl⟩ := map_some h
        cases hr
        exact e_glob C hg h1
      · cases h
  · obtain ⟨d', h1, rfl⟩ := map_some h
    cases hr
    exact e_const h1
  · obtain ⟨ia, h1, rfl⟩ := map_some h
    unfold IE.run at hr
    cases e1 : ia.run ρ c with
    | none => rw [e1] at hr; cases hr
    | some q =>
      obtain ⟨ds, c2⟩ := q
      rw [e1] at hr
      dsimp only at hr
      split at hr <;> cases hr
      exact e_tup (cA_ok S C h1 e1) (by assumption)
  · obtain ⟨ia, h1, rfl⟩ := map_some h
    unfold IE.run at hr
    cases e1 : ia.run ρ c with
    | none => rw [e1] at hr; cases hr
    | some q =>
      obtain ⟨ds, c2⟩ := q
      rw [e1] at hr
      dsimp only at hr
      split at hr <;> cases hr
      exact e_lst (cA_ok S C h1 e1) (by assumption)
  · split at h
    · rename_i keys es kpos hc
      cases h
      obtain ⟨k1, k2⟩ := Bool.and_eq_true_iff.mp hc
      cases List.isEmpty_iff.mp k1
      cases List.isEmpty_iff.mp k2
      obtain ⟨ds, h2, h3, rfl⟩ := run_dct hr
      cases h2
      exact e_dct0
    obtain ⟨q, h1, rfl⟩ := map_some h
    obtain ⟨ks, ia⟩ := q
    obtain ⟨g1, g2, g3, g4, g5, g6, g7⟩ := cDct_ok h1
    obtain ⟨ds, h2, h3, rfl⟩ := run_dct hr
    exact e_dct (chain_ok S.tx C g3 g6 h2) g5 g1 g4 g2 g7
  · split at h <;> cases h
    rename_i o pa pb e1 e2 e3
    obtain ⟨x, c2, y, h1, h2, h3⟩ := run_bin hr
    obtain ⟨r', ho, hv⟩ := bin_ok C e1 h3
    exact e_op ho hv (S.ex e2 C h1) (S.ex e3 C h2)
  · obtain ⟨pa, h1, rfl⟩ := map_some h
    unfold IE.run at hr
    split at hr <;> cases hr
    rename_i e1
    exact e_neg (S.ex h1 C e1)
  · obtain ⟨pa, h1, rfl⟩ := map_some h
    unfold IE.run at hr
    split at hr <;> cases hr
    · rename_i e1
      exact e_not (S.ex h1 C e1)
    · rename_i e1
      exact e_notTup C (S.ex h1 C e1)
  · exact (cCmp_ok S C (ap := ⟨0, 0, 0, 0⟩) h hr).1
  · split at h
    · cases h
    · rename_i hs
      split at h <;> cases h
      rename_i o o' x y z e1 e2 e3 e4 e5
      exact (cChain_ok S C (ap := ⟨0, 0, 0, 0⟩) (by simpa using hs) e1 e2 e3 e4 e5 hr).1
  · exact cBo_ok S C h hr
  · split at h <;> cases h
    rename_i pt pa pb e1 e2 e3
    unfold IE.run at hr
    split at hr
    · rename_i c2 e4
      exact e_ifT (S.te e1 C e4) (S.ex e2 C hr)
    · rename_i c2 e4
      exact e_ifF (S.te e1 C e4) (S.ex e3 C hr)
    · cases hr
  · exact cSub_ok S C h hr
  · exact cCall_ok S C h hr
  · split at h
    · rename_i hm
      subst hm
      exact cGet_ok S C h hr
    · split at h
      · exact cTm_ok S C h hr
      · exact cMeth_ok S C h hr
  · exact cAttr_ok S C h hr run_fld
  · obtain ⟨ia, h1, rfl⟩ := map_some h
    unfold IE.run at hr
    cases e1 : ia.run ρ c with
    | none => rw [e1] at hr; cases hr
    | some q =>
      obtain ⟨ds, c2⟩ := q
      rw [e1] at hr
      obtain ⟨out, h2, h3⟩ := map_some hr
      cases h3
      obtain ⟨ts, t1, t2⟩ := cFs_ok S C h1 e1 h2
      exact e_fst t1 t2
  · exact cSrt_ok K S C h hr
  · exact cLc_ok S C h hr
  · exact cDc_ok S C h hr
  · cases h
theorem run_val {p1 : IE} {k : Bool} (h : (IT.val p1).run ρ c = some (k, c1)) : ∃ d, p1.run ρ c = some (d, c1) ∧ truD d = some k := by
  unfold IT.run at h
  cases e1 : p1.run ρ c with
  | none => rw [e1] at h; cases h
  | some q =>
    obtain ⟨d, c2⟩ := q
    rw [e1] at h
    obtain ⟨k', h1, h2⟩ := map_some h
    cases h2
    exact ⟨d, rfl, h1⟩
theorem stepT_ok (S : Snd r) (C : Cok X p G) {it : IT} (h : stepT r G e = some it) : PT X e (uT p it) := by
  refine pt_all fun ρ c k c1 hr => ?_
  unfold stepT at h
  split at h
  · exact (cBt_ok S C h hr).pt
  · obtain ⟨pa, h1, rfl⟩ := map_some h
    unfold IT.run at hr
    cases e1 : pa.run ρ c with
    | none => rw [e1] at hr; cases hr
    | some q =>
      obtain ⟨k', c2⟩ := q
      rw [e1] at hr
      cases hr
      exact t_not (S.te h1 C e1)
  · obtain ⟨ie, h1, rfl⟩ := map_some h
    obtain ⟨d, h2, h3⟩ := run_val hr
    obtain ⟨k', rfl, h4⟩ := (cCmp_ok S C (pos := ⟨0, 0, 0, 0⟩) h1 h2).2
    cases h3
    exact h4
  · split at h
    · cases h
    · rename_i hs
      split at h <;> cases h
      rename_i o o' x y z e1 e2 e3 e4 e5
      obtain ⟨d, h2, h3⟩ := run_val hr
      obtain ⟨k', rfl, h4⟩ := (cChain_ok S C (pos := ⟨0, 0, 0, 0⟩) (by simpa using hs) e1 e2 e3 e4 e5 h2).2
      cases h3
      exact h4
  · split at h
    · rename_i hp
      have gen : (r.E G e).map .val = some it → PT X e (tT p ρ c k c1) := fun h => by
        obtain ⟨ie, h1, rfl⟩ := map_some h
        obtain ⟨d, h2, h3⟩ := run_val hr
        exact t_val C hp (S.ex h1 C h2) h3
      split at h
      · split at h
        · obtain ⟨il, h1, rfl⟩ := map_some h
          unfold IT.run at hr
          cases e1 : il.run ρ c with
          | none => rw [e1] at hr; cases hr
          | some q =>
            obtain ⟨isL, ds, c2⟩ := q
            rw [e1] at hr
            cases hr
            exact t_ne C hp (cL_ok S h1 C e1)
        · exact gen h
      · exact gen h
    · cases h
theorem comp_ok (K : SrtOk) : ∀ n, Snd (comp n)
  | 0 => ⟨fun _ _ _ h => (by cases h), fun _ _ _ h => (by cases h), fun _ _ _ h => (by cases h)⟩
  | n + 1 => ⟨fun G e ie h X p C => by
      have h' : some ((stepE (comp n) G e).getD .stop) = some ie := h
      cases e1 : stepE (comp n) G e with
      | none =>
        rw [e1] at h'
        cases h'
        exact pe_all fun ρ c d c1 hr => by cases hr
      | some ie' =>
        rw [e1] at h'
        cases h'
        exact stepE_ok K (comp_ok K n) C e1, fun G e ie h X p C => by
      have h' : some ((stepT (comp n) G e).getD (.val .stop)) = some ie := h
      cases e1 : stepT (comp n) G e with
      | none =>
        rw [e1] at h'
        cases h'
        exact pt_all fun ρ c d c1 hr => by
          obtain ⟨d, h2, _⟩ := run_val hr
          cases h2
      | some ie' =>
        rw [e1] at h'
        cases h'
        exact stepT_ok (comp_ok K n) C e1, fun G e ie h X p C => stepG_ok (comp_ok K n) C h⟩
end
end Rf

/-! Rf, part J: sorted(l, key=f), f a def of the text that draws nothing: the rule SrtOk. -/
namespace Rf
open PySem PySem.Spec L2
open PyProof.Rows (ksk_rest ksk_tree ksk_end ksk_fold ksk_t1 ksk_s1 ksk_l1)
/-- what the call asks of its two values -/
def rSrtF (X : Cx) (Z : KC) (fa : Addr) (ds l : List D) : List V → List V → Hp → VK → Prop := fun xs zs H Q => ∃ (w : Addr) (S : Hp) (vs : List V), xs = [.ref w] ∧ zs = [.ref fa] ∧ SqL X.K H w vs ∧ Sub S H ∧ Ats Z S vs ds ∧
  ∀ v H1 S1, Ext none H S H1 S1 → At Z S1 v (.lst l) → Q v H1
theorem cr_srtF {X : Cx} {Z : KC} {fa : Addr} {fd : FuncData} {ps : List Str} {k : Nat} {F : List D → Option D} {ds l : List D} (hK : X.K = Z.K) (hb : Binds X.K fd ps []) (FO : FnOk X.prog X.w X.K X.mg X.base CX0 k fa fd ps (spF Z (.pure 1 F))) (hr : Room (k + 1) X.A)
    (hl : srtD F ds = some l) : CallRK X (.builtin "sorted") [Str.ofString "key"] (rSrtF X Z fa ds l) := by
  intro pins s σ H xs zs us ws Q I r rz ⟨w, S, vs, e1, e2, hs, hS, ha, q⟩
  subst e1
  subst e2
  obtain rfl := Vals.ref1 r
  obtain rfl := Vals.ref1 rz
  obtain ⟨its, rv, pl, hz⟩ := I.list hs
  have hits : its.length = vs.length := rv.length.symm
  have hds : vs.length = ds.length := ha.len
  unfold srtD at hl
  split at hl
  · rename_i ks hks
    split at hl
    · rename_i hok
      cases hl
      obtain ⟨hlen, hpd, hso⟩ := hok
      obtain ⟨hal, hsk, hdp⟩ := srtOk_alike hso
      have hkl := keysD_len hks
      have hL : its.length ≤ sizeLine := by rw [hits]; exact hz
      refine PySem.W.sorted_of_sort pl.isList hL (ksk_s1 _ _) (fun _ => ksk_l1 _ _) fun E' => ?_
      show wpAny _ _ (Builtin.«list.sort» ⟨[.ref (s.heap.objs.size + 1)], [(Str.ofString "key", .ref fa)]⟩) _ _ _
      rw [ksk_t1]
      have ho := PySem.W.copyHeap_at s.heap its
      obtain ⟨a, hA⟩ : ∃ a, s.heap.objs.size + 1 = a := ⟨_, rfl⟩
      rw [hA] at ho ⊢
      have hsz : (PySem.W.copyHeap s.heap its).objs.size = s.heap.objs.size + 2 := by
        unfold PySem.W.copyHeap
        rw [PyProof.Rows.size_push', Heap.size_update, PyProof.Rows.size_push']
      obtain ⟨e1, ho1⟩ : ∃ e1, ((PySem.W.copyHeap s.heap its).update a (Obj.mapSeq fun _ => (#[] : Array Value))).get? a = some (PyProof.Rows.seqObj "list" #[] e1) := ⟨_, PyProof.Rows.get?_update_seq ho fun _ => #[]⟩
      have hkS : (((PySem.W.copyHeap s.heap its).update a (Obj.mapSeq fun _ => (#[] : Array Value))).push (PyProof.Rows.seqObj "tuple" its.toArray 0)).objs.size = s.heap.objs.size + 3 := by
        rw [PyProof.Rows.size_push', Heap.size_update, hsz]
      obtain ⟨kS, hKS⟩ : ∃ kS, s.heap.objs.size + 3 = kS := ⟨_, rfl⟩
      have fa0 : FpOk X pins H a := I.fpOk (by omega) (I.hok.fresh (by omega))
      have fk0 : FpOk X pins H kS := I.fpOk (by omega) (I.hok.fresh (by omega))
      have hka : kS ≠ a := by omega
      unfold ksk_tree
      refine wpAny_bind (PyProof.Rows.listItems_at ho rfl ?_)
      refine wpAny_bind (PyProof.Rows.listUpdate_at ho rfl ?_ (by rw [List.size_toArray]; exact hL) (Nat.zero_le _))
      refine wpAny_bind (PyProof.Rows.seqEpoch_at ho1 rfl ?_)
      refine wpAny_bind (wpAny_newTuple ?_ (by show its.length ≤ _; exact hL))
      refine wpAny_bind (wpAny_newList ?_ (Nat.zero_le _))
      refine wpAny_holding ?_
      have hkeep : ∀ b u, s.heap.get? b = some u → ((((PySem.W.copyHeap s.heap its).update a (Obj.mapSeq fun _ => (#[] : Array Value))).push (PyProof.Rows.seqObj "tuple" its.toArray 0)).push (PyProof.Rows.seqObj "list" #[] 0)).get? b = some u := fun b u e =>
        PySem.W.sortingHeap_old (a := a) (vs := its) (hA ▸ Nat.ne_of_lt (Nat.lt_succ_of_lt (Heap.lt_size e))) (PySem.W.copyHeap_old e)
      have I2 := I.kept (t' := s.toks) hkeep
      have dat : ∀ (x : Array Value) (n : Nat) (v : Option Value), (PyProof.Rows.seqObj "list" x n).data ≠ .cell v := fun x n v z => by cases z
      have repin : ∀ {H' : Hp} {s' : Shared} {kA : Array Value} {e : Nat}, L2.Inv X pins σ H' s' → FpOk X pins H' a → FpOk X pins H' kS → s'.heap.get? kS = some (PyProof.Rows.seqObj "list" kA e) → s'.heap.get? a = some (PyProof.Rows.seqObj "list" #[] e1) →
          L2.Inv X (pins ++ [(kS, PyProof.Rows.seqObj "list" kA e), (a, PyProof.Rows.seqObj "list" #[] e1)]) σ H' s' := fun {H'} {s'} {kA} {e} J f1 f2 g1 g2 => J.pins_of fun p hp => by
        rcases List.mem_append.mp hp with hp | hp
        · exact J.pin p (List.mem_append_right _ hp)
        · rcases List.mem_cons.mp hp with rfl | hp
          · exact ⟨g1, f2.1, f2.2.1, f2.2.2.1, dat _ _⟩
          · rw [List.mem_singleton.mp hp]
            exact ⟨g2, f1.1, f1.2.1, f1.2.2.1, dat _ _⟩
      unfold ksk_rest
      refine wpAny_bind (wpAny_rule ?_)
      rw [List.forIn_toArray]
      refine wpAny_bind (ksk_fold (fun i s' => ∃ (kA : Array Value) (e : Nat) (kvs : List V) (H' S' : Hp), L2.Inv X (pins ++ [(kS, PyProof.Rows.seqObj "list" kA e), (a, PyProof.Rows.seqObj "list" #[] e1)]) σ H' s' ∧ Ext none H S H' S' ∧ Vals kvs kA.toList ∧ Ats Z S' kvs (ks.take i)) its 0 _ ?base ?step ?done)
      case base =>
        refine ⟨#[], 0, [], H, S, repin I2 fa0 fk0 ?_ ?_, Ext.refl hS, .nil, ?_⟩
        · rw [← hKS, ← hkS]; exact Heap.get?_push_size _ rfl
        · exact Heap.get?_push_of_some _ (Heap.get?_push_of_some _ ho1)
        · rw [List.take_zero]; exact .nil
      case step =>
        intro j x s' hx ⟨kA, e, kvs, H', S', J, x1, rk, ak⟩
        simp only [Nat.zero_add] at ak ⊢
        have hj : j < its.length := (List.getElem?_eq_some_iff.mp hx).1
        obtain ⟨v, hv, rvx⟩ : ∃ v, vs[j]? = some v ∧ RelV v x := by
          obtain ⟨u2, hu2, rx2⟩ := rv.get (i := j) (x := vs[j]'(by omega)) (List.getElem?_eq_getElem (by omega))
          have eu : u2 = x := Option.some.inj (hu2.symm.trans hx)
          subst eu
          exact ⟨_, List.getElem?_eq_getElem (by omega), rx2⟩
        obtain ⟨d, hd, ad⟩ := ha.getV hv
        obtain ⟨key, hkj, hF⟩ := keysD_get hks hd
        have hA2 : Room k X.A.in1.in1 := ⟨hr.hd, by have := hr.dp; show X.A.depth + 3 * k + 5 < _; omega, by have := hr.un; show X.A.units + 1 + 1 + 16 * k + 200 < _; omega⟩
        have spec : spF Z (.pure 1 F) [v] H' (fun u H1 => ∃ S1, Ext none H' S' H1 S1 ∧ At Z S1 u key) E0 := ⟨S', [d], key, rfl, x1.sub, .cons (At.sub x1.ss ad) .nil, hF, fun u H1 S1 y b => ⟨S1, y, b⟩⟩
        have hps : ([x] ++ ([] : List Value)).length = ps.length := FO.len _ _ _ _ spec
        have turn : wpAny (model X.prog X.w) X.A.in1.in1 (call (.ref fa) [x]) (EP X (pins ++ [(kS, PyProof.Rows.seqObj "list" kA e), (a, PyProof.Rows.seqObj "list" #[] e1)]) σ fun u H1 => ∃ S1, Ext none H' S' H1 S1 ∧ At Z S1 u key) (fun _ _ => False) s' :=
          wpAny_call (codeAny_mono (FO.run X.A.in1.in1 X.stack s' H' ⟨[x], []⟩ ([x] ++ []) [v] _ E0 hA2 J.env0.in1.in1 (hb s' [x] J.kIn hps) (.cons rvx .nil) spec) fun r s2 hq => by
            cases r with
            | error e => exact hq.elim
            | ok fl => cases fl with
              | ret u => exact J.after hq
              | next => exact hq.elim
              | brk => exact hq.elim
              | cont => exact hq.elim)
        refine wpAny_bind (wpAny_attempt (wpAny_mono turn (fun u s2 he => ?_) fun _ _ hF => hF.elim))
        obtain ⟨kv, H1, J1, rkv, S1, x2, akv⟩ := he
        try dsimp only
        obtain ⟨g1, n1, _⟩ := J1.pin (kS, PyProof.Rows.seqObj "list" kA e) (by simp)
        obtain ⟨g2, n2, _⟩ := J1.pin (a, PyProof.Rows.seqObj "list" #[] e1) (by simp)
        have hzk : kA.size ≤ its.length := by
          have h1 : kvs.length = kA.size := rk.length.trans Array.length_toList
          have h2 : kvs.length = min j ks.length := ak.len.trans List.length_take
          omega
        have s1 := Heap.SameBut.update s2.heap kS (Obj.mapSeq (·.push u))
        obtain ⟨c2, hc2⟩ : ∃ c2, (s2.heap.update kS (Obj.mapSeq (·.push u))).get? kS = some (PyProof.Rows.seqObj "list" (kA.push u) c2) := ⟨_, PyProof.Rows.get?_update_seq g1 (·.push u)⟩
        have f1 : FpOk X pins H1 a := ⟨n2, fa0.2⟩
        have f2 : FpOk X pins H1 kS := ⟨n1, fk0.2⟩
        rw [hkS, hKS]
        refine wpAny_bind (PyProof.Rows.listUpdate_at g1 rfl ?_ (Nat.le_trans hzk hL) (Nat.le_trans (Nat.le_of_eq (Array.size_push ..)) (Nat.succ_le_succ (Nat.le_trans hzk hL))))
        refine wpAny_pure ⟨rfl, kA.push u, c2, kvs ++ [kv], H1, S1, repin (FpOk.turn J1.unpinned f2 fun b o hb e => (s1.2 b hb).trans e) f1 f2 hc2 ((s1.2 a hka.symm).trans g2), x1.trans x2, ?_, ?_⟩
        · rw [Array.toList_push]; exact rk.append (.cons rkv .nil)
        · rw [List.take_add_one, hkj]
          exact (Ats.sub x2.ss ak).append (.cons akv .nil)
      case done =>
        intro s' ⟨kA, e, kvs, H', S', J, x1, rk, ak⟩
        rw [Nat.zero_add, List.take_of_length_le (by omega)] at ak
        obtain ⟨g1, n1, _⟩ := J.pin (kS, PyProof.Rows.seqObj "list" kA e) (by simp)
        obtain ⟨g2, n2, _⟩ := J.pin (a, PyProof.Rows.seqObj "list" #[] e1) (by simp)
        have f1 : FpOk X pins H' a := ⟨n2, fa0.2⟩
        have f2 : FpOk X pins H' kS := ⟨n1, fk0.2⟩
        try dsimp only
        rw [hkS, hKS]
        have hsz2 : kA.size = its.length := by
          have h1 : kvs.length = kA.size := rk.length.trans Array.length_toList
          have h2 := ak.len
          omega
        have hel := each_keysD hK J x1.sub rk ak hpd
        have hgone : (s'.heap.update kS fun o => { o with data := .freed }).get? kS = none := gone_none _ _
        have hkp : PySem.W.KeepsBut a (s'.heap.update kS fun o => { o with data := .freed }) s'.heap := fun b o hb e => by
          by_cases hbk : b = kS
          · subst hbk; rw [hgone] at e; cases e
          · rw [Heap.get?_update_ne _ _ _ _ hbk] at e; exact e
        refine wpAny_bind (PyProof.Rows.listItems_at g1 rfl ?_)
        refine PySem.W.keyH_end (κ := PySem.W.dataKind s'.heap (ks.map pdK)) hkp hgone g1 g2 hka (PySem.W.SortsAt.data hel hal hsk fun d hd => ?_) hsz2 hL fun h3 tk3 c3 k3 n3 => ⟨rfl, ?_⟩
        · have := hdp d hd
          have := hr.units
          show X.A.units + 1 + 1 + d.depth < cLine
          omega
        have hR := PySem.W.keyedOut_each (rev := false) (bs := (ks.map pdK).zip ds) (vs := its) (fun b : PyData × D => b.1) (R := fun u b => ∃ v, RelV v u ∧ At Z S' v b.2) (out := PySem.W.sortVals (PySem.W.dataKind s'.heap (ks.map pdK)) false kA.toList its) ⟨s'.heap, kA.toList, by rw [zip_fst (by rw [List.length_map, hkl])]; exact ⟨hal, rfl, hel⟩⟩ (each_zip rv (Ats.sub x1.ss ha) (by rw [List.length_map, hkl]))
        obtain ⟨outV, ro, ao⟩ := each_back hR
        have hol : outV.length ≤ sizeLine := by
          have h1 := ro.length
          rw [PySem.W.sortVals_length false (by rw [Array.length_toList]; exact hsz2)] at h1
          rw [h1]
          exact hL
        have new : ObjOk X.prog X.w (upd H' a (.lst outV)) h3 a (.lst outV) := ⟨hol, _, c3, ro, n3⟩
        have J2 := Inv.adopt (t' := tk3) J.unpinned f1 f2 ⟨_, n3⟩ (fun d u h1 h2 e => k3 d u h1 (by rw [Heap.get?_update_ne _ _ _ _ h2]; exact e)) new
        refine ⟨.ref a, upd H' a (.lst outV), J2, rfl, q _ _ (upd S' a (.lst outV)) (x1.trans (Ext.new x1.sub n2)) (.lst (SqL.of upd_same) (Ats.sub (Ext.new (g := none) x1.sub n2).ss ao))⟩
    · cases hl
  · cases hl
theorem srt_ok : SrtOk := by
  intro X p G ρ c c1 ds l f F a q fp kp pos C hfr hgn hst hfn ha hl
  obtain ⟨w, fd, ps, k, h1, h2, h3, h4, h5⟩ := C.fn f _ hfn
  obtain ⟨g1, g2⟩ := gl_ok C hgn
  obtain ⟨b1, b2⟩ := fr_ok C (by decide +kernel) hfr
  obtain ⟨b3, b4⟩ := gl_ok C b1
  have e0 := star_cons (es := []) (env := X.env) hst
  have he : ∀ q : Pos, backTo q (starEach [a] X.env) = (false, eval a X.env) :: backTo q (starEach [] X.env) := fun q => by rw [e0]; rfl
  refine peM (pe_callBK (cr_srtF C.K h3 h4 h5 hl) b3 b2 rfl (pa_cons ha pa_nil e0) (pk_cons (pe_glob (v := .ref w) g1 h1 rfl (okN1 g2)) pk_nil) (by decide) (by decide) (he pos) (by rw [he pos]; rfl)) fun σ H Q ⟨S, R, k⟩ => ?_
  refine ⟨S, R, fun b vs H1 S1 R1 x1 hs a1 => ?_⟩
  show rSrtF X p.Z w ds l [.ref b] [.ref w] H1 Q
  refine ⟨b, S1, vs, rfl, rfl, ?_, R1.sub, a1, fun v H2 S2 x2 a2 => k v H2 S2 (R1.step0 x2) (x1.trans x2.none_any) a2⟩
  rw [C.K]
  exact hs H1 S1 (Ext.refl R1.sub)
end Rf

/-! Rf, part K: statements. -/
namespace Rf
open PySem PySem.Spec L2

def OutOk (p : Par) (S0 : Hp) (D : Ends) : Out → Prop
  | .nx ρ c => ∀ σ H S, Rel p σ H S ρ c → Sub S0 S → D.nx σ H
  | .rt d c => ∀ v H S, Ext p.g p.H0 p.S0 H S → DrawOk p H S c → At p.Z S v d → D.rt v H
  | .bk ρ c => ∀ σ H S, Rel p σ H S ρ c → Sub S0 S → D.bk σ H
  | .ct ρ c => ∀ σ H S, Rel p σ H S ρ c → Sub S0 S → D.ct σ H
def tS (p : Par) (ρ : List Slot) (c : Int) (o : Out) : TS := fun D σ H => ∃ S, Rel p σ H S ρ c ∧ OutOk p S D o
def uS (p : Par) (s : IS) : TS := fun D σ H => ∃ ρ c o, s.run ρ c = some o ∧ tS p ρ c o D σ H
def uSs (p : Par) (s : List IS) : TS := fun D σ H => ∃ ρ c o, IS.runs s ρ c = some o ∧ tS p ρ c o D σ H
theorem ps_all {X : Cx} {p : Par} {st : Stmt} {s : IS} (h : ∀ ρ c o, s.run ρ c = some o → PS X st (tS p ρ c o)) : PS X st (uS p s) :=
  ⟨fun pins sh σ H D I ⟨ρ, c, o, r, q⟩ => (h ρ c o r).run pins sh σ H D I q⟩
theorem pss_of {X : Cx} {p : Par} {st : List Stmt} {s : List IS} {ρ : List Slot} {c : Int} {o : Out} (h : PSs X st (uSs p s)) (r : IS.runs s ρ c = some o) : PSs X st (tS p ρ c o) := pssM h fun D σ H q => ⟨ρ, c, o, r, q⟩

section
variable {r : CR} {X : Cx} {p : Par} {G : Gam} {ρ ρ1 : List Slot} {c c1 c2 c3 : Int} {x y z d : D} {a b e : Expr} {es : List Expr} {pos : Pos} {nm : Str} {i : Nat} {ds : List D} {isL : Bool} {o : Out}
theorem swap_no (h : isLcB e = false) (t : Option Expr) (l : Nat) (env : Env) : swapsWith e t l env = pure false := by
  cases e <;> first | rfl | cases h
/-- x = e -/
theorem s_set (C : Cok X p G) {xp : Pos} (hl : isLcB e = false) (hi : ixOf G.N nm = some i) (hx : locG G nm = true) (he : PE X e (tE p ρ c d c1)) (hp : putS ρ i (.sh d) = some ρ1) : PS X (.Assign [.Name nm xp] e pos) (tS p ρ c (.nx ρ1 c1)) := by
  obtain ⟨k1, rfl⟩ := put_len hp
  obtain ⟨h1, h2⟩ := locG_ok C hx
  exact psM (ps_set C.nd (by rw [C.N]; exact ixOf_ok hi) h1 he (swap_no hl _ _ _) h2) fun D σ H ⟨S, R, k⟩ => ⟨S, R, fun v H1 S1 R1 x1 a1 => k _ H1 S1 (R1.put k1 a1) x1.ss⟩
/-- x = [.. for ..] -/
theorem s_setLc (K : SrtOk) (S : Snd r) (C : Cok X p G) {xp lp : Pos} {elt tg it : Expr} {ifs : List Expr} {scope : Scope} {ie : IE} (hi : ixOf G.N nm = some i) (hx : locG G nm = true) (he : PE X (.ListComp elt [⟨tg, it, ifs, 0⟩] scope lp) (tE p ρ c d c1)) (hc : cLc r G elt tg it ifs scope = some ie) (hr : ie.run ρ c = some (d, c1)) (hp : putS ρ i (.sh d) = some ρ1) :
    PS X (.Assign [.Name nm xp] (.ListComp elt [⟨tg, it, ifs, 0⟩] scope lp) pos) (tS p ρ c (.nx ρ1 c1)) := by
  obtain ⟨k1, rfl⟩ := put_len hp
  obtain ⟨h1, h2⟩ := locG_ok C hx
  have hN : X.N[i]? = some nm := by rw [C.N]; exact ixOf_ok hi
  have sw : swapsWith (.ListComp elt [⟨tg, it, ifs, 0⟩] scope lp) (some (.Name nm xp)) pos.line X.env = pure (X.env.blockKind == .function && X.env.kindOf nm == some .local && xp.line == lp.line && !(scope.names.any fun (n, k) => n == nm && (k == .local || k == .cell))) := rfl
  cases hb : (X.env.blockKind == .function && X.env.kindOf nm == some .local && xp.line == lp.line && !(scope.names.any fun (n, k) => n == nm && (k == .local || k == .cell))) with
  | false =>
    rw [hb] at sw
    exact psM (ps_set C.nd hN h1 he sw h2) fun D σ H ⟨S, R, k⟩ => ⟨S, R, fun v H1 S1 R1 x1 a1 => k _ H1 S1 (R1.put k1 a1) x1.ss⟩
  | true =>
    rw [hb] at sw
    simp only [Bool.and_eq_true, beq_iff_eq] at hb
    have hloc : X.env.scope.names.lookup nm = some .local := hb.1.1.2
    unfold cLc at hc
    split at hc
    · rename_i hk
      dsimp only at hc
      split at hc
      · rename_i ii ig t p1 e1 e2 e3 e4
        split at hc <;> cases hc
        rename_i ho
        obtain ⟨ds, c2, l, r1, r2, r3, rfl⟩ := run_lc hr
        have ho' : ∀ j ∈ gix ig, j ∈ (ownC G.N scope).map (·.2) := fun j hj => by
          have q := List.all_eq_true.mp ho j hj
          simpa using q
        refine psM (ps_setLc C.calm C.nd hN hloc sw (cI_ok S C e1 r1) (blk_ok C hk.1) (fun s H w cl fp => S.G _ _ _ e2 _ p (C.blk hk.1 s H w cl fp)) (fun s H w cl fp => cIfs_ok S (C.blk hk.1 s H w cl fp) e3) (fun s H w cl fp => S.E _ _ _ e4 _ p (C.blk hk.1 s H w cl fp)) (fold_pure hk.2 X.env))
          fun D σ H ⟨S0, R, k⟩ => ⟨S0, R, fun J H1 S1 R1 x1 hJ w hw => ?_⟩
        exact rd_lc (Q := fun v H2 => gName i v σ H2 D.nx) R1 hJ r2 r3 ho' hw fun v H2 S2 R2 x2 a2 => k _ H2 S2 (R2.put k1 a2) (x1.trans x2).ss
      · cases hc
    · cases hc
/-- a new object of the frame's own -/
theorem Rel.putOwn {σ : L2.St} {H S : Hp} (R : Rel p σ H S ρ c) {w : Addr} {ob : HO} {sl : Slot} (hi : i < ρ.length) (hw : H w = none) (hs : ∀ σ' : L2.St, σ'[i]? = some (some (.ref w)) → S w = none → p.H0 w = none → SlotOk p σ' (upd H w ob) S i sl) : Rel p (σ.set i (some (.ref w))) (upd H w ob) S (ρ.set i sl) c := by
  have h0 : p.H0 w = none := R.ext.free hw
  have sw : S w = none := by
    cases e : S w with
    | none => rfl
    | some u => rw [R.sub w u e] at hw; cases hw
  refine ⟨R.ext.updNew h0 sw, fun j s2 e => ?_, fun j l sj sl2 u e1 e2 o1 o2 f1 f2 => ?_, fun g sc e => ?_, by rw [List.length_set, List.length_set]; exact R.len⟩
  · by_cases hj : i = j
    · subst hj
      rw [List.getElem?_set_self hi] at e
      cases e
      exact hs _ (by rw [List.getElem?_set_self (by rw [R.len]; exact hi)]) sw h0
    · rw [List.getElem?_set_ne hj] at e
      have h := R.slot j s2 e
      have es : (σ.set i (some (V.ref w)))[j]? = σ[j]? := List.getElem?_set_ne hj
      cases s2 with
      | no => trivial
      | sh d => obtain ⟨u, h1, h2⟩ := h; exact ⟨u, es.trans h1, h2⟩
      | ow ds =>
        obtain ⟨u, vs, h1, h2, h3⟩ := h
        exact ⟨u, vs, es.trans h1, by rw [upd_ne (ne_of_none h2 hw)]; exact h2, h3⟩
      | st ns =>
        obtain ⟨u, h1, h2, h3⟩ := h
        exact ⟨u, es.trans h1, by rw [upd_ne (ne_of_none h2 hw)]; exact h2, h3⟩
      | ob k fs ds =>
        obtain ⟨u, dx, vs, h0, h1, h2, h3⟩ := h
        exact ⟨u, dx, vs, h0, es.trans h1, by rw [upd_ne (ne_of_none h2 hw)]; exact h2, h3⟩
      | od ks ds =>
        obtain ⟨u, vs, h1, h2, h3⟩ := h
        exact ⟨u, vs, es.trans h1, by rw [upd_ne (ne_of_none h2 hw)]; exact h2, h3⟩
      | dr scr => obtain ⟨g, sc, h1, h2, h3⟩ := h; exact ⟨g, sc, h1, es.trans h2, h3⟩
      | pin a => exact es.trans h
      | oda u ks ds =>
        obtain ⟨vs, h1, h2, h3⟩ := h
        exact ⟨vs, es.trans h1, by rw [upd_ne (ne_of_none h2 hw)]; exact h2, h3⟩
  · have hold : ∀ (j : Nat) (sj : Slot), i ≠ j → ρ[j]? = some sj → sj.own = true → σ[j]? = some (some (.ref w)) → False := fun j sj hj e o f => by
      have h := R.slot j sj e
      cases sj with
      | no => cases o
      | sh d => cases o
      | dr scr => cases o
      | pin a => cases o
      | oda u ks ds =>
        obtain ⟨vs, h1, h2, h3⟩ := h
        rw [f] at h1
        cases h1
        rw [hw] at h2
        cases h2
      | ow ds =>
        obtain ⟨u, vs, h1, h2, h3⟩ := h
        rw [f] at h1
        cases h1
        rw [hw] at h2
        cases h2
      | st ns =>
        obtain ⟨u, h1, h2, h3⟩ := h
        rw [f] at h1
        cases h1
        rw [hw] at h2
        cases h2
      | ob k fs ds =>
        obtain ⟨u, dx, vs, h0, h1, h2, h3⟩ := h
        rw [f] at h1
        cases h1
        rw [hw] at h2
        cases h2
      | od ks ds =>
        obtain ⟨u, vs, h1, h2, h3⟩ := h
        rw [f] at h1
        cases h1
        rw [hw] at h2
        cases h2
    have hiσ : i < σ.length := by rw [R.len]; exact hi
    by_cases hj : i = j
    · by_cases hl : i = l
      · exact hj.symm.trans hl
      · subst hj
        rw [List.getElem?_set_self hiσ] at f1
        cases f1
        rw [List.getElem?_set_ne hl] at e2 f2
        exact (hold l sl2 hl e2 o2 f2).elim
    · rw [List.getElem?_set_ne hj] at e1 f1
      by_cases hl : i = l
      · subst hl
        rw [List.getElem?_set_self hiσ] at f2
        cases f2
        exact (hold j sj hj e1 o1 f1).elim
      · rw [List.getElem?_set_ne hl] at e2 f2
        exact R.apart j l sj sl2 u e1 e2 o1 o2 f1 f2
  · obtain ⟨h1, h2, h3⟩ := R.dr g sc e
    exact ⟨by rw [upd_ne (ne_of_none h1 hw)]; exact h1, h2, h3⟩
/-- nothing of the frame's own stands at a free place -/
theorem Rel.noOwn {σ : L2.St} {H S : Hp} (R : Rel p σ H S ρ c) {w : Addr} (hw : H w = none) (j : Nat) (sj : Slot) (e : ρ[j]? = some sj) (o : sj.own = true) (f : σ[j]? = some (some (.ref w))) : False := by
  have h := R.slot j sj e
  cases sj with
  | no => cases o
  | sh d => cases o
  | dr scr => cases o
  | pin a => cases o
  | oda u ks ds => obtain ⟨vs, h1, h2, _⟩ := h; rw [f] at h1; cases h1; rw [hw] at h2; cases h2
  | ow ds => obtain ⟨u, vs, h1, h2, _⟩ := h; rw [f] at h1; cases h1; rw [hw] at h2; cases h2
  | st ns => obtain ⟨u, h1, h2, _⟩ := h; rw [f] at h1; cases h1; rw [hw] at h2; cases h2
  | ob k fs ds => obtain ⟨u, dx, vs, _, h1, h2, _⟩ := h; rw [f] at h1; cases h1; rw [hw] at h2; cases h2
  | od ks ds => obtain ⟨u, vs, h1, h2, _⟩ := h; rw [f] at h1; cases h1; rw [hw] at h2; cases h2
/-- a thing of this statement's own becomes the frame's own -/
theorem Rel.putOwn2 {σ : L2.St} {H S : Hp} (R : Rel p σ H S ρ c) {w : Addr} {ob : HO} {sl : Slot} (hi : i < ρ.length) (h0 : p.H0 w = none) (sw : S w = none) (hno : ∀ (j : Nat) (sj : Slot), ρ[j]? = some sj → sj.own = true → σ[j]? = some (some (.ref w)) → False)
    (hs : ∀ σ' : L2.St, σ'[i]? = some (some (.ref w)) → SlotOk p σ' (upd H w ob) S i sl) : Rel p (σ.set i (some (.ref w))) (upd H w ob) S (ρ.set i sl) c := by
  refine ⟨R.ext.updNew h0 sw, fun j s2 e => ?_, fun j l sj sl2 u e1 e2 o1 o2 f1 f2 => ?_, fun g sc e => ?_, by rw [List.length_set, List.length_set]; exact R.len⟩
  · by_cases hj : i = j
    · subst hj
      rw [List.getElem?_set_self hi] at e
      cases e
      exact hs _ (by rw [List.getElem?_set_self (by rw [R.len]; exact hi)])
    · rw [List.getElem?_set_ne hj] at e
      have h := R.slot j s2 e
      have es : (σ.set i (some (V.ref w)))[j]? = σ[j]? := List.getElem?_set_ne hj
      have ne : s2.own = true → ∀ u, σ[j]? = some (some (.ref u)) → u ≠ w := fun o u f z => by subst z; exact hno j s2 e o f
      cases s2 with
      | no => trivial
      | sh d => obtain ⟨u, h1, h2⟩ := h; exact ⟨u, es.trans h1, h2⟩
      | ow ds => obtain ⟨u, vs, h1, h2, h3⟩ := h; exact ⟨u, vs, es.trans h1, by rw [upd_ne (ne rfl u h1)]; exact h2, h3⟩
      | st ns => obtain ⟨u, h1, h2, h3⟩ := h; exact ⟨u, es.trans h1, by rw [upd_ne (ne rfl u h1)]; exact h2, h3⟩
      | ob k fs ds => obtain ⟨u, dx, vs, g, h1, h2, h3⟩ := h; exact ⟨u, dx, vs, g, es.trans h1, by rw [upd_ne (ne rfl u h1)]; exact h2, h3⟩
      | od ks ds => obtain ⟨u, vs, h1, h2, h3⟩ := h; exact ⟨u, vs, es.trans h1, by rw [upd_ne (ne rfl u h1)]; exact h2, h3⟩
      | dr scr => obtain ⟨g, sc, h1, h2, h3⟩ := h; exact ⟨g, sc, h1, es.trans h2, h3⟩
      | pin a => exact es.trans h
      | oda u ks ds => obtain ⟨vs, h1, h2, h3⟩ := h; exact ⟨vs, es.trans h1, by rw [upd_ne (ne rfl u h1)]; exact h2, h3⟩
  · have hiσ : i < σ.length := by rw [R.len]; exact hi
    by_cases hj : i = j
    · by_cases hl : i = l
      · exact hj.symm.trans hl
      · subst hj
        rw [List.getElem?_set_self hiσ] at f1
        cases f1
        rw [List.getElem?_set_ne hl] at e2 f2
        exact (hno l sl2 e2 o2 f2).elim
    · rw [List.getElem?_set_ne hj] at e1 f1
      by_cases hl : i = l
      · subst hl
        rw [List.getElem?_set_self hiσ] at f2
        cases f2
        exact (hno j sj e1 o1 f1).elim
      · rw [List.getElem?_set_ne hl] at e2 f2
        exact R.apart j l sj sl2 u e1 e2 o1 o2 f1 f2
  · obtain ⟨h1, h2, h3⟩ := R.dr g sc e
    exact ⟨by rw [upd_ne (fun z => by subst z; exact h3 h0)]; exact h1, h2, h3⟩
/-- a thing of the frame's own is changed -/
theorem Rel.updO {σ : L2.St} {H S : Hp} (R : Rel p σ H S ρ c) {sl0 es : Slot} {w : Addr} {o0 ob : HO} (hs : ρ[i]? = some sl0) (ho0 : sl0.own = true) (hw : σ[i]? = some (some (.ref w))) (h2 : H w = some o0) (h3 : S w = none) (h4 : p.H0 w = none)
    (he : SlotOk p σ (upd H w ob) S i es) : Rel p σ (upd H w ob) S (ρ.set i es) c := by
  have hi : i < ρ.length := (List.getElem?_eq_some_iff.mp hs).1
  have hn : H w ≠ none := by rw [h2]; intro z; cases z
  refine ⟨⟨fun a u ne h => ?_, fun a h => ?_, R.ext.ss, R.ext.no, fun a u h => ?_⟩, fun j s2 e => ?_, fun j l sj sl u e1 e2 o1 o2 f1 f2 => ?_, fun g sc e => ?_, by rw [List.length_set]; exact R.len⟩
  · rw [upd_ne (fun q => by subst q; rw [h4] at h; cases h)]
    exact R.ext.kp a u ne h
  · by_cases q : a = w
    · subst q; rw [upd_same]; intro z; cases z
    · rw [upd_ne q]; exact R.ext.st a h
  · rw [upd_ne (fun q => by subst q; rw [h3] at h; cases h)]
    exact R.sub a u h
  · by_cases hj : i = j
    · subst hj
      rw [List.getElem?_set_self hi] at e
      cases e
      exact he
    · rw [List.getElem?_set_ne hj] at e
      have h := R.slot j s2 e
      have apart : s2.own = true → ∀ u, σ[j]? = some (some (.ref u)) → u ≠ w := fun ho u hu q => by
        subst q
        exact hj (R.apart i j _ s2 u hs e ho0 ho hw hu)
      cases s2 with
      | no => trivial
      | sh d => exact h
      | ow ds2 =>
        obtain ⟨u, us, k1, k2, k3⟩ := h
        exact ⟨u, us, k1, by rw [upd_ne (apart rfl u k1)]; exact k2, k3⟩
      | st ns =>
        obtain ⟨u, k1, k2, k3⟩ := h
        exact ⟨u, k1, by rw [upd_ne (apart rfl u k1)]; exact k2, k3⟩
      | ob k fs ds2 =>
        obtain ⟨u, dx, us, k0, k1, k2, k3⟩ := h
        exact ⟨u, dx, us, k0, k1, by rw [upd_ne (apart rfl u k1)]; exact k2, k3⟩
      | od ks ds2 =>
        obtain ⟨u, us, k1, k2, k3⟩ := h
        exact ⟨u, us, k1, by rw [upd_ne (apart rfl u k1)]; exact k2, k3⟩
      | dr scr => exact h
      | pin a => exact h
      | oda u ks ds2 =>
        obtain ⟨us, k1, k2, k3⟩ := h
        exact ⟨us, k1, by rw [upd_ne (apart rfl u k1)]; exact k2, k3⟩
  · have back : ∀ (j : Nat) (sj : Slot), (ρ.set i es)[j]? = some sj → sj.own = true → ∃ sj0, ρ[j]? = some sj0 ∧ sj0.own = true := fun j sj e o => by
      by_cases hj : i = j
      · subst hj; exact ⟨_, hs, ho0⟩
      · rw [List.getElem?_set_ne hj] at e; exact ⟨sj, e, o⟩
    obtain ⟨s1, k1, k2⟩ := back j sj e1 o1
    obtain ⟨s2, k3, k4⟩ := back l sl e2 o2
    exact R.apart j l s1 s2 u k1 k3 k2 k4 f1 f2
  · obtain ⟨k1, k2, k3⟩ := R.dr g sc e
    exact ⟨by rw [upd_ne (fun q => by subst q; rw [h2] at k1; exact k3 h4)]; exact k1, k2, k3⟩
/-- the frame's own list is changed -/
theorem Rel.updOwn {σ : L2.St} {H S : Hp} (R : Rel p σ H S ρ c) {ds es : List D} {w : Addr} {vs : List V} (hs : ρ[i]? = some (.ow ds)) (hw : σ[i]? = some (some (.ref w))) (he : Ats p.Z S vs es) : Rel p σ (upd H w (.lst vs)) S (ρ.set i (.ow es)) c := by
  obtain ⟨w', vs0, h1, h2, h3, h4, h5⟩ := R.slot i _ hs
  rw [hw] at h1
  cases h1
  exact R.updO hs rfl hw h2 h3 h4 ⟨w, vs, hw, upd_same, h3, h4, he⟩
/-- x = [..] -/
theorem s_setO (C : Cok X p G) {xp lp : Pos} (hi : ixOf G.N nm = some i) (hx : locG G nm = true) (ha : PA X es (tA p ρ c ds c1)) (hl : ds.length ≤ line) (hp : putS ρ i (.ow ds) = some ρ1) : PS X (.Assign [.Name nm xp] (.List es lp) pos) (tS p ρ c (.nx ρ1 c1)) := by
  obtain ⟨k1, rfl⟩ := put_len hp
  obtain ⟨h1, h2⟩ := locG_ok C hx
  refine psM (ps_set C.nd (by rw [C.N]; exact ixOf_ok hi) h1 (pe_lst ha) (swap_no rfl _ _ _) h2) fun D σ H ⟨S, R, k⟩ => ⟨S, R, fun vs H1 S1 R1 x1 a1 => ⟨by rw [a1.len]; exact hl, fun w hw => ?_⟩⟩
  exact k _ _ S1 (R1.putOwn k1 hw fun σ' e1 e2 e3 => ⟨w, vs, e1, upd_same, e2, e3, a1⟩) x1.ss
/-- x = {} -/
theorem s_setD (C : Cok X p G) {xp lp : Pos} (hi : ixOf G.N nm = some i) (hx : locG G nm = true) (hp : putS ρ i (.od [] []) = some ρ1) : PS X (.Assign [.Name nm xp] (.Dict [] [] lp) pos) (tS p ρ c (.nx ρ1 c)) := by
  obtain ⟨k1, rfl⟩ := put_len hp
  obtain ⟨h1, h2⟩ := locG_ok C hx
  refine psM (ps_set C.nd (by rw [C.N]; exact ixOf_ok hi) h1 pe_dnewK (swap_no rfl _ _ _) h2) fun D σ H ⟨S, R, k⟩ => fun w hw => ?_
  exact k _ _ S (R.putOwn k1 hw fun σ' e1 e2 e3 => ⟨w, [], e1, upd_same, e2, e3, rfl, .nil⟩) (Sub.refl S)
/-- x = {k: v, ..} -/
theorem s_setDd (C : Cok X p G) {xp lp : Pos} {ks : List Key} {keys : List (Option Expr)} (hi : ixOf G.N nm = some i) (hx : locG G nm = true) (hch : Chain X p ρ es ds c c1) (hk : keysC keys = some ks) (hlen : keys.length = es.length) (h0 : keys.isEmpty = false) (h15 : keys.length ≤ 15) (hn : ks.Nodup) (hp : putS ρ i (.od ks ds) = some ρ1) :
    PS X (.Assign [.Name nm xp] (.Dict keys es lp) pos) (tS p ρ c (.nx ρ1 c1)) := by
  obtain ⟨k1, rfl⟩ := put_len hp
  obtain ⟨h1, h2⟩ := locG_ok C hx
  obtain ⟨trs, g1, g2⟩ := pps_ok (pos := lp) hch hk hlen
  obtain ⟨g3, g4⟩ := keysC_ok hk
  have hl : ds.length = ks.length := by rw [← hch.len, ← hlen, g4]
  refine psM (ps_set C.nd (by rw [C.N]; exact ixOf_ok hi) h1 (pe_disp g1 g3 hlen (by intro z; rw [z] at h0; cases h0) h15) (swap_no rfl _ _ _) h2) fun D σ H ⟨S, R, k⟩ => disp_core hn hl (by omega) g2 R fun w vs H2 S2 hw sw hw0 R2 x2 e2 s2 a2 hv => ?_
  exact k _ _ S2 (R2.putOwn2 k1 hw0 s2 (fun j sj e o f => R.noOwn hw j sj e o f) fun σ' f => ⟨w, vs, f, upd_same, s2, hw0, hv, a2⟩) x2.ss
/-- d[k] = e -/
theorem s_dput (C : Cok X p G) {xp sp : Pos} {ks : List Key} {q : Key} (hl : isLcB e = false) (hp1 : plainIxB b = true) (hi : ixOf G.N nm = some i) (hv : (visB G.sc nm && okN nm) = true) (ho : ρ[i]? = some (.od ks ds)) (he : PE X e (tE p ρ c d c1)) (hb : PE X b (tE p ρ c1 y c2)) (hq : keyOf y = some q) (hz : ks.length < line) (hp : putS ρ i (.od (dputD ks ds q d).1 (dputD ks ds q d).2) = some ρ1) :
    PS X (.Assign [.Subscript (.Name nm xp) b sp] e pos) (tS p ρ c (.nx ρ1 c2)) := by
  obtain ⟨k1, rfl⟩ := put_len hp
  refine psM (ps_dput (by have := C.room.un; omega) (pe_nm C hi hv) hb he (swap_no hl _ _ _)) fun D σ H ⟨S, R, k⟩ => ⟨S, R, fun v H1 S1 R1 x1 a1 => ?_⟩
  obtain ⟨w, vs, h1, h2, h3, h4, h5, h6⟩ := R1.slot i _ ho
  refine ⟨_, h1, S1, R1, fun u H2 S2 R2 x2 a2 => ?_⟩
  obtain ⟨w', vs', k2, k3, k4, k5, k6, k7⟩ := R2.slot i _ ho
  rw [h1] at k2
  cases k2
  obtain ⟨vs2, e1, e2, e3⟩ := put_zip (q := q) (a1.sub x2.ss) k7 k6
  refine ⟨w, _, rfl, .inl ⟨_, q, k3, at_key a2 hq, ?_, rfl⟩, ?_⟩
  · rw [List.length_zip]
    exact Nat.lt_of_le_of_lt (Nat.min_le_left _ _) hz
  · rw [e1]
    exact k σ _ S2 (R2.updO ho rfl h1 k3 k4 k5 ⟨w, vs2, h1, upd_same, k4, k5, e2, e3⟩) (x1.trans x2).ss
theorem s_dputA (C : Cok X p G) {xp sp : Pos} {ks : List Key} {q : Key} {w : Addr} (hl : isLcB e = false) (hp1 : plainIxB b = true) (hi : ixOf G.N nm = some i) (hv : (visB G.sc nm && okN nm) = true) (ho : ρ[i]? = some (.oda w ks ds)) (he : PE X e (tE p ρ c d c1)) (hb : PE X b (tE p ρ c1 y c2)) (hq : keyOf y = some q) (hz : ks.length < line) (hp : putS ρ i (.oda w (dputD ks ds q d).1 (dputD ks ds q d).2) = some ρ1) :
    PS X (.Assign [.Subscript (.Name nm xp) b sp] e pos) (tS p ρ c (.nx ρ1 c2)) := by
  obtain ⟨k1, rfl⟩ := put_len hp
  refine psM (ps_dput (by have := C.room.un; omega) (pe_nm C hi hv) hb he (swap_no hl _ _ _)) fun D σ H ⟨S, R, k⟩ => ⟨S, R, fun v H1 S1 R1 x1 a1 => ?_⟩
  obtain ⟨vs, h1, h2, h3, h4, h5, h6⟩ := R1.slot i _ ho
  refine ⟨_, h1, S1, R1, fun u H2 S2 R2 x2 a2 => ?_⟩
  obtain ⟨vs', k2, k3, k4, k5, k6, k7⟩ := R2.slot i _ ho
  obtain ⟨vs2, e1, e2, e3⟩ := put_zip (q := q) (a1.sub x2.ss) k7 k6
  refine ⟨w, _, rfl, .inl ⟨_, q, k3, at_key a2 hq, ?_, rfl⟩, ?_⟩
  · rw [List.length_zip]
    exact Nat.lt_of_le_of_lt (Nat.min_le_left _ _) hz
  · rw [e1]
    exact k σ _ S2 (R2.updO ho rfl h1 k3 k4 k5 ⟨vs2, h1, upd_same, k4, k5, e2, e3⟩) (x1.trans x2).ss
/-- one slot's dict gets an item -/
theorem put_step {σ : L2.St} {H S : Hp} (R : Rel p σ H S ρ c) {ks : List Key} {q : Key} {v : V} {w : Addr} (ho : ρ[i]? = some (.od ks ds)) (hw : σ[i]? = some (some (.ref w))) (a : At p.Z S v d) (hz : ks.length < line) :
    ∃ H', DPut H w (kV q) v H' ∧ Rel p σ H' S (ρ.set i (.od (dputD ks ds q d).1 (dputD ks ds q d).2)) c := by
  obtain ⟨w', vs', k2, k3, k4, k5, k6, k7⟩ := R.slot i _ ho
  rw [hw] at k2
  cases k2
  obtain ⟨vs2, e1, e2, e3⟩ := put_zip (q := q) a k7 k6
  refine ⟨_, .inl ⟨_, q, k3, rfl, ?_, rfl⟩, ?_⟩
  · rw [List.length_zip]
    exact Nat.lt_of_le_of_lt (Nat.min_le_left _ _) hz
  · rw [e1]
    exact R.updO ho rfl hw k3 k4 k5 ⟨w, vs2, hw, upd_same, k4, k5, e2, e3⟩
/-- set(a row of ints) -/
theorem call_setI (hc : X.calm = true) : CallR X (.type "set") (fun xs H Q => ∃ (a : Addr) (ns : List Int), xs = [.ref a] ∧ ns.length < 1000 ∧ (SqL X.K H a (ns.map V.int) ∨ (ns = [] ∧ SqT X.K H a [])) ∧
    ∀ w, H w = none → Q (.ref w) (upd H w (.set (fun k => decide (k ∈ dedup ns)) (dedup ns).length))) := by
  intro pins s σ H xs us Q I r h
  obtain ⟨a, ns, rfl, hz, hs, q⟩ := h
  obtain rfl := Vals.ref1 r
  rcases hs with hs | ⟨rfl, hs⟩
  · obtain ⟨its, rv, pl, _⟩ := I.list hs
    have hi := rv.ints
    have hlen : its.toArray.size = ns.length := by
      rw [List.size_toArray, ← rv.length, List.length_map]
    refine PySem.call_set_list (I.ok.hd hc) pl.isList (by simpa using hi) (by rw [hlen]; unfold scanBound; omega) fun h' tk hS hk => ?_
    rw [hlen] at hS
    have hS' : h'.SetOf (intKind X.prog X.w) s.heap.objs.size (fun k => decide (k ∈ dedup ns)) (dedup ns).length := PyProof.Rows.SetOf_congr hS (fun k => by
      show (dedup ns).any (· == k) = decide (k ∈ dedup ns)
      rw [Bool.eq_iff_iff, List.any_eq_true, decide_eq_true_iff]
      exact ⟨fun ⟨z, h1, h2⟩ => by rw [← beq_iff_eq.mp h2]; exact h1, fun h => ⟨k, h, beq_self_eq_true k⟩⟩) rfl
    exact ⟨.ref _, _, I.laid (o := .set _ _) (t' := tk) (fun b o e => hk b o (Heap.lt_size e) e) (Nat.le_refl _) hS', rfl, q _ (I.hok.fresh (Nat.le_refl _))⟩
  · obtain ⟨its, rv, pt, _⟩ := I.tuple hs
    cases rv
    refine call_set_tupI (P := X.prog) (w := X.w) [] (I.ok.hd hc) pt .nil (by unfold scanBound; decide) fun h' tk cc hS hc' hk => ?_
    have hcc : cc = 0 := Nat.le_zero.mp hc'
    subst hcc
    have hS' : h'.SetOf (intKind X.prog X.w) s.heap.objs.size (fun k => decide (k ∈ dedup [])) (dedup []).length := PyProof.Rows.SetOf_congr hS.setOf (fun k => rfl) rfl
    exact ⟨.ref _, _, I.laid (o := .set _ _) (t' := tk) hk (Nat.le_refl _) hS', rfl, q _ (I.hok.fresh (Nat.le_refl _))⟩
theorem dedup_sub {ns : List Int} (h : ns.length < 1000) : (dedup ns).length ≤ ns.length := PyProof.Rows.firstMet_length_le _ _
theorem s_setS (C : Cok X p G) {xp q lp : Pos} {f : Str} {ns : List Int} (hf : f = "set") (hg : gn G f = true) (hm : X.mg f = none) (hs : isStar a = false) (hi : ixOf G.N nm = some i) (hx : locG G nm = true) (ha : PE X a (tL p ρ c isL (ns.map D.int) c1)) (hl : ns.length < 1000) (hb : isL = true ∨ ns = []) (hp : putS ρ i (.st (dedup ns)) = some ρ1) :
    PS X (.Assign [.Name nm xp] (.Call (.Name f q) [a] [] lp) pos) (tS p ρ c (.nx ρ1 c1)) := by
  obtain ⟨k1, rfl⟩ := put_len hp
  obtain ⟨h1, h2⟩ := locG_ok C hx
  obtain ⟨g1, g2⟩ := gl_ok C hg
  subst hf
  refine psM (ps_set C.nd (by rw [C.N]; exact ixOf_ok hi) h1 (pe_callTy (call_setI C.calm) g1 hm (by decide +kernel) (pa_cons ha pa_nil (star_cons hs)) (okN3 g2) (okN1 g2) (star_cons hs) rfl) (swap_no rfl _ _ _) h2) fun D σ H ⟨S, R, k⟩ => ⟨S, R, fun w vs H1 S1 R1 x1 hq a1 => ⟨w, ns, rfl, hl, ?_, fun u hu => ?_⟩⟩
  · have hq1 := hq H1 S1 (Ext.refl R1.sub)
    rw [a1.ints] at hq1
    rw [C.K]
    cases isL with
    | true => exact .inl hq1
    | false =>
      rcases hb with hb | hb
      · cases hb
      · subst hb
        exact .inr ⟨rfl, sub_t R1.sub hq1⟩
  · exact k _ _ S1 (R1.putOwn k1 hu fun σ' e1 e2 e3 => ⟨u, e1, upd_same, e2, e3⟩) x1.ss
theorem swap_sole (h : isLcB e = false) (tg : Expr) (l : Nat) (env : Env) : swapsWithSole [tg] e l env = pure false := swap_no h (some tg) l env
theorem asg_one {tg : Expr} {env : Env} (h : isStar tg = false) : (assignEach [tg] env).map (·.2) = [assign tg env] := by
  rw [asg_cons h]
  rfl
theorem fm_lt {α β : Type} {f : α → Option β} : ∀ {l : List α} {t : α}, t ∈ l → f t = none → (l.filterMap f).length < l.length
  | u :: l, t, hm, hf => by
    have le := List.length_filterMap_le f l
    rcases List.mem_cons.mp hm with rfl | hm
    · rw [List.filterMap_cons, hf, List.length_cons]
      exact Nat.lt_succ_of_le le
    · have ih := fm_lt hm hf
      rw [List.filterMap_cons, List.length_cons]
      split
      · omega
      · rw [List.length_cons]; omega
theorem unp_none (C : Cok X p G) {k : Nat} {tp : Pos} (h : unpB G es e = true) : swappedStores [.Tuple es k tp] e X.env = pure none := by
  cases e <;> first | rfl | skip
  rename_i vs kk q
  have h' : (vs.any isStar || !(es.length == vs.length) || es.any (fun t => match t with
      | .Name x _ => !(G.sc.names.lookup x == some .local)
      | _ => true)) = true := h
  unfold swappedStores
  dsimp only
  split
  · rfl
  rename_i n1
  split
  · rfl
  rename_i n2
  split
  · rfl
  rename_i n3
  exfalso
  simp only [Bool.or_eq_true] at h' n1 n3
  rcases h' with (h' | h') | h'
  · apply n2
    obtain ⟨t, h1, h2⟩ := List.any_eq_true.mp h'
    refine List.any_eq_true.mpr ⟨t, h1, ?_⟩
    cases t <;> first | rfl | cases h2
  · apply n1
    refine .inl (.inr ?_)
    simp only [Bool.not_eq_true', beq_eq_false_iff_ne] at h'
    simpa using fun e => h' e.symm
  · apply n3
    left
    obtain ⟨t, h1, h2⟩ := List.any_eq_true.mp h'
    simp only [bne_iff_ne]
    refine Nat.ne_of_lt (fm_lt h1 ?_)
    cases t <;> first | rfl | skip
    rename_i x q2
    have h3 : (G.sc.names.lookup x == some NameKind.local) = false := by simpa using h2
    have h4 : (X.env.kindOf x == some NameKind.local) = false := by
      show (X.env.scope.names.lookup x == some NameKind.local) = false
      rw [C.sc]
      exact h3
    dsimp only
    rw [h4]
    rfl
theorem s_unp (C : Cok X p G) {k : Nat} {tp : Pos} {ig : IGs} (hl : isLcB e = false) (hu : unpB G es e = true) (hs : es.any isStar = false) (he : PE X e (tE p ρ c d c1)) (hg : PG X (.Tuple es k tp) (tG p ρ d ρ1 (gixs ig))) : PS X (.Assign [.Tuple es k tp] e pos) (tS p ρ c (.nx ρ1 c1)) :=
  psM (ps_asg he hg (swap_sole hl _ _ _) (unp_none C hu) rfl) fun D σ H ⟨S, R, q⟩ => ⟨S, R, fun v H1 S1 R1 x1 a1 => ⟨S1, c1, R1, a1, fun σ1 R2 sb => q σ1 H1 S1 R2 x1.ss⟩⟩
/-- x[s], y[t] = e -/
theorem s_put2 (C : Cok X p G) {n2 s t : Str} {j : Nat} {q1 q2 q3 q4 q5 q6 tp : Pos} {j1 j2 : Nat} {k : Nat} {ks ks2 : List Key} {ds2 : List D} {ρ2 : List Slot} (hl : isLcB e = false)
    (hu : unpB G [.Subscript (.Name nm q1) (.Constant (.str s) j1 q2) q3, .Subscript (.Name n2 q4) (.Constant (.str t) j2 q5) q6] e = true) (hi : ixOf G.N nm = some i) (hv : (visB G.sc nm && okN nm) = true) (hj : ixOf G.N n2 = some j) (hv2 : (visB G.sc n2 && okN n2) = true)
    (he : PE X e (tE p ρ c (.tup [x, y]) c1)) (ho : ρ[i]? = some (.od ks ds)) (hz : ks.length < line) (hp : putS ρ i (.od (dputD ks ds (.inr s) x).1 (dputD ks ds (.inr s) x).2) = some ρ1)
    (ho2 : ρ1[j]? = some (.od ks2 ds2)) (hz2 : ks2.length < line) (hp2 : putS ρ1 j (.od (dputD ks2 ds2 (.inr t) y).1 (dputD ks2 ds2 (.inr t) y).2) = some ρ2) :
    PS X (.Assign [.Tuple [.Subscript (.Name nm q1) (.Constant (.str s) j1 q2) q3, .Subscript (.Name n2 q4) (.Constant (.str t) j2 q5) q6] k tp] e pos) (tS p ρ c (.nx ρ2 c1)) := by
  obtain ⟨k1, rfl⟩ := put_len hp
  obtain ⟨k2, rfl⟩ := put_len hp2
  have hun : X.A.units + 1 < cLine := by have := C.room.un; omega
  refine psM (ps_asg he (pg_tup C.calm (pgs_cons (pg_sub (pe_nm C hi hv) pe_str (set_dict hun)) (pgs_cons (pg_sub (pe_nm C hj hv2) pe_str (set_dict hun)) pgs_nil))) (swap_sole hl _ _ _) (unp_none C hu) rfl) fun D σ H ⟨S, R, q⟩ => ⟨S, R, fun v H1 S1 R1 x1 a1 => ?_⟩
  obtain ⟨a, vs, rfl, h1, r1⟩ := a1.tup_inv
  cases r1 with
  | cons a2 r2 => cases r2 with
    | cons a3 r3 => cases r3 with
      | nil =>
        have hq := sub_t R1.sub h1
        rw [← C.K] at hq
        obtain ⟨w, vs1, g1, _⟩ := R1.slot i _ ho
        obtain ⟨H2, p1, R2⟩ := put_step (q := .inr s) R1 ho g1 a2 hz
        obtain ⟨w2, vs2, g2, _⟩ := R2.slot j _ ho2
        obtain ⟨H3, p2, R3⟩ := put_step (q := .inr t) R2 ho2 g2 a3 hz2
        exact ⟨a, _, rfl, hq, rfl, _, _, rfl, _, g1, w, H2, rfl, p1, _, _, rfl, _, g2, w2, H3, rfl, p2, rfl, q σ H3 S1 R3 x1.ss⟩
/-- x += e -/
theorem s_aug (C : Cok X p G) {xp : Pos} {sub : Bool} {k l : Int} {op : Operator} (ho : op = if sub then .Sub else .Add) (hi : ixOf G.N nm = some i) (hx : locG G nm = true) (hs : ρ[i]? = some (.sh (.int k))) (he : PE X e (tE p ρ c (.int l) c1)) (hp : putS ρ i (.sh (.int (if sub then k - l else k + l))) = some ρ1) :
    PS X (.AugAssign (.Name nm xp) op e pos) (tS p ρ c (.nx ρ1 c1)) := by
  obtain ⟨k1, rfl⟩ := put_len hp
  obtain ⟨h1, h2⟩ := locG_ok C hx
  subst ho
  have main : ∀ {f : Int → Int → Int}, PIp X (if sub then .Sub else .Add) (ipI f) → f k l = (if sub then k - l else k + l) → PS X (.AugAssign (.Name nm xp) (if sub then .Sub else .Add) e pos) (tS p ρ c (.nx (ρ.set i (.sh (.int (if sub then k - l else k + l)))) c1)) := fun {f} hf ef =>
    psM (ps_aug C.nd (by rw [C.N]; exact ixOf_ok hi) h1 he hf h2) fun D σ H ⟨S, R, q⟩ => by
      obtain ⟨v, e1, e2⟩ := R.slot i _ hs
      refine ⟨v, e1, S, R, fun u H1 S1 R1 x1 a1 => ⟨k, l, e2.int_inv, a1.int_inv, ?_⟩⟩
      rw [ef]
      exact q _ H1 S1 (R1.put k1 (.int _)) x1.ss
  cases sub with
  | true => exact main ip_sub rfl
  | false => exact main ip_add rfl
/-- xs.append(e) -/
theorem few_ok {p1 : Pos} (hs : isStar a = false) (env : Env) : ((backTo p1 (starEach [a] env)).all (fun x => !x.1) && (backToKw p1 (keywordEach [] env)).all (fun x => x.1.isSome)
      && decide (([a] : List Expr).length + ([] : List Keyword).length + (if ([] : List Keyword).isEmpty then 0 else 1) < 30)) = true := by
  rw [star_cons hs]
  rfl
theorem s_app (C : Cok X p G) {xp ap cp : Pos} {m : Str} (hm : m = "append") (hs : isStar a = false) (hline : (ap.endLine == cp.line) = true) (hi : ixOf G.N nm = some i) (hv : (visB G.sc nm && okN nm) = true) (ho : ρ[i]? = some (.ow ds)) (he : PE X a (tE p ρ c d c1)) (hz : ds.length < line) (hp : putS ρ i (.ow (ds ++ [d])) = some ρ1) :
    PS X (.Expr (.Call (.Attribute (.Name nm xp) m ap) [a] [] cp) pos) (tS p ρ c (.nx ρ1 c1)) := by
  obtain ⟨k1, rfl⟩ := put_len hp
  subst hm
  refine psM (ps_expr (pe_bm PySem.F.plainAttrs_list PySem.F.slot_list_append PySem.F.type_list_append mt_append (pe_nm C hi hv) (pa_cons he pa_nil (star_cons hs)) rfl (few_ok hs _) hline (star_cons hs) rfl) rfl) fun D σ H ⟨S, R, k⟩ => ?_
  obtain ⟨w, vs, h1, h2, h3, h4, h5⟩ := R.slot i _ ho
  refine ⟨_, h1, .inl ⟨rfl, _, SqL.of h2⟩, S, R, fun v H1 S1 R1 x1 a1 => ?_⟩
  obtain ⟨w', vs', k2, k3, k4, k5, k6⟩ := R1.slot i _ ho
  rw [h1] at k2
  cases k2
  exact ⟨w, vs', v, rfl, rfl, k3, by rw [k6.len]; exact hz, k σ _ S1 (R1.updOwn ho h1 (k6.snoc a1)) x1.ss⟩
/-- xs[k] = e -/
theorem s_seti (C : Cok X p G) {xp sp : Pos} {k : Int} {j : Nat} (hl : isLcB e = false) (hp1 : plainIxB b = true) (hi : ixOf G.N nm = some i) (hv : (visB G.sc nm && okN nm) = true) (ho : ρ[i]? = some (.ow ds)) (he : PE X e (tE p ρ c d c1)) (hb : PE X b (tE p ρ c1 (.int k) c2)) (hj : ixN ds.length k = some j) (hp : putS ρ i (.ow (ds.set j d)) = some ρ1) :
    PS X (.Assign [.Subscript (.Name nm xp) b sp] e pos) (tS p ρ c (.nx ρ1 c2)) := by
  obtain ⟨k1, rfl⟩ := put_len hp
  have ha : ∀ v, assign (.Subscript (.Name nm xp) b sp) X.env v = (do
      let ov ← holding [v] (eval (.Name nm xp) X.env)
      let iv ← holding [v, ov] (eval b X.env)
      standAt sp
      holding [v, ov, iv] (setItem ov iv v)
      release [v, ov, iv] []) := by
    intro v
    cases b <;> first | rfl | cases hp1
  have hw : swappedStores [.Subscript (.Name nm xp) b sp] e X.env = pure none := rfl
  refine psM (ps_asg he (pg_sub (pe_nm C hi hv) hb set_list ha) (swap_sole hl _ _ _) hw rfl) fun D σ H ⟨S, R, q⟩ => ⟨S, R, fun v H1 S1 R1 x1 a1 => ?_⟩
  obtain ⟨w, vs, h1, h2, h3, h4, h5⟩ := R1.slot i _ ho
  refine ⟨_, h1, S1, R1, fun u H2 S2 R2 x2 a2 => ?_⟩
  obtain ⟨w', vs', k2, k3, k4, k5, k6⟩ := R2.slot i _ ho
  rw [h1] at k2
  cases k2
  exact ⟨w, vs', k, j, rfl, a2.int_inv, k3, by rw [k6.len]; exact hj, q σ _ S2 (R2.updOwn ho h1 (k6.set (a1.sub x2.ss) j)) (x1.trans x2).ss⟩
theorem zip_put {f : Str} {v : V} : ∀ {fs : List Str} {vs : List V}, fs.contains f = false → vs.length = fs.length → putF f v (fs.zip vs) = (fs ++ [f]).zip (vs ++ [v])
  | [], [], _, _ => rfl
  | g :: fs, u :: vs, h, l => by
    rw [List.contains_cons, Bool.or_eq_false_iff] at h
    show (if g = f then (g, v) :: fs.zip vs else (g, u) :: putF f v (fs.zip vs)) = (g, u) :: (fs ++ [f]).zip (vs ++ [v])
    have hg : g ≠ f := fun e => by subst e; simp at h
    rw [if_neg hg, zip_put h.2 (by simpa using l)]
/-- self.f = e -/
theorem swap_fld (e o : Expr) (f : Str) (q : Pos) (l : Nat) (env : Env) : swapsWith e (some (.Attribute o f q)) l env = pure false := by
  cases e <;> rfl
theorem s_fldS (C : Cok X p G) {xp ap : Pos} {k f : Str} {fs : List Str} (hi : ixOf G.N nm = some i) (hv : (visB G.sc nm && okN nm) = true) (hk : k ∈ G.fl f) (he : PE X e (tE p ρ c d c1)) (ho : ρ[i]? = some (.ob k fs ds)) (hz : fs.length < 900) (hf : fs.contains f = false) (hp : putS ρ i (.ob k (fs ++ [f]) (ds ++ [d])) = some ρ1) :
    PS X (.Assign [.Attribute (.Name nm xp) f ap] e pos) (tS p ρ c (.nx ρ1 c1)) := by
  obtain ⟨k1, rfl⟩ := put_len hp
  obtain ⟨h1, h2⟩ := C.fl f k hk
  refine psM (ps_fld (pe_nm C hi hv) he (swap_fld _ _ _ _ _ _)) fun D σ H ⟨S, R, q⟩ => ⟨S, R, fun v H1 S1 R1 x1 a1 => ?_⟩
  obtain ⟨a, dx, vs, g0, g1, g2, g3, g4, g5, g6⟩ := R1.slot i _ ho
  refine ⟨_, g1, a, _, dx, _, rfl, g2, h1, h2, ?_, ?_⟩
  · rw [List.length_zip]
    omega
  · have e1 : putF f v (fs.zip vs) = (fs ++ [f]).zip (vs ++ [v]) := zip_put hf g5
    rw [e1]
    exact q σ _ S1 (R1.updO ho rfl g1 g2 g3 g4 ⟨a, dx, vs ++ [v], g0, g1, upd_same, g3, g4, by rw [List.length_append, List.length_append, g5]; rfl, g6.append (.cons a1 .nil)⟩) x1.ss
/-! ### the draw list's count -/
def rGet1 : V → V → Hp → VK → Prop := fun o i H Q => ∃ (a : Addr) (x y : V), o = .ref a ∧ i = .int 1 ∧ H a = some (.lst [x, y]) ∧ Q y H
theorem get_one : PGet X rGet1 := by
  intro pins s σ H o i ov iv Q I ro ri h
  obtain ⟨a, x, y, rfl, rfl, ha, q⟩ := h
  cases ro
  obtain ⟨t, rfl⟩ := ri
  obtain ⟨its, r, pl, hz⟩ := I.list (SqL.of ha)
  cases r with
  | cons r1 rr =>
    cases rr with
    | cons r2 rr =>
      cases rr
      exact PySem.wpAny_getItem_list pl.isList (by decide) (by decide) rfl ⟨y, H, I, r2, q⟩
theorem s_drw (C : Cok X p G) {xp sp : Pos} {j j2 : Nat} {q1 q2 : Pos} (hi : ixOf G.N nm = some i) (hv : (visB G.sc nm && okN nm) = true) (ho : ρ[i]? = some (.dr d)) :
    PS X (.AugAssign (.Subscript (.Name nm xp) (.Constant (.int 1) j q1) sp) .Add (.Constant (.int 1) j2 q2) pos) (tS p ρ c (.nx ρ (c + 1))) := by
  refine psM (ps_augS (pe_nm C hi hv) pe_int get_one pe_int ip_add set_list) fun D σ H ⟨S, R, k⟩ => ?_
  obtain ⟨g, sc, h1, h2, h3⟩ := R.slot i _ ho
  obtain ⟨h4, h5, h6⟩ := R.dr g sc h1
  refine ⟨_, h2, g, .ref sc, .int c, rfl, rfl, h4, c, 1, rfl, rfl, g, [.ref sc, .int c], 1, 1, rfl, rfl, h4, rfl, ?_⟩
  have eg : p.g = some g := by show p.dg.map (·.1) = _; rw [h1]; rfl
  refine k σ _ S (R.step (c1 := c + 1) ⟨fun a u ne h => ?_, fun a h => ?_, Sub.refl S, fun a h _ => h, fun a u h => ?_⟩ fun g' sc' e => ?_) (Sub.refl S)
  · rw [upd_ne (fun q => by subst q; exact ne eg.symm)]
    exact h
  · by_cases q : a = g
    · subst q; rw [upd_same]; intro z; cases z
    · rw [upd_ne q]; exact h
  · rw [upd_ne (fun q => by subst q; rw [h5] at h; cases h)]
    exact R.sub a u h
  · rw [h1] at e
    cases e
    exact upd_same
theorem swT {n2 : Str} {px py pt : Pos} {kt k2 : Nat} {pt2 : Pos} (h4 : px.line = py.line) (h5 : isStar a = false) (h6 : isStar b = false) (h8 : (foldedForSure 8 a && foldedForSure 8 b) = false) (h9 : (constantsAlone 8 a && constantsAlone 8 b) = false) (ek : X.env.scope.kind = .function) (b2 : X.env.kindOf nm = some .local) (b3 : X.env.kindOf n2 = some .local) (b4 : nm ≠ n2) :
    swappedStores [.Tuple [.Name nm px, .Name n2 py] kt pt] (.Tuple [a, b] k2 pt2) X.env = pure (some [nm, n2]) := by
    have b1 : (X.env.blockKind != ScopeKind.function) = false := by unfold Env.blockKind; rw [ek]; rfl
    unfold swappedStores
    dsimp only
    rw [b1]
    rw [if_neg (by simp)]
    rw [if_neg (by
      intro h
      obtain ⟨t, ht, h2⟩ := List.any_eq_true.mp h
      rcases List.mem_cons.mp ht with rfl | ht
      · cases t <;> first | (cases h5; done) | cases h2
      · rcases List.mem_cons.mp ht with rfl | ht
        · cases t <;> first | (cases h6; done) | cases h2
        · cases ht)]
    have e3 : ([nm, n2] : List Str).eraseDups = [nm, n2] := by
      have q : (n2 == nm) = false := by simpa using b4.symm
      simp [List.eraseDups_cons, q]
    have e4 : ([a, b] : List Expr).all (foldedForSure 8) = false := by
      rw [List.all_cons, List.all_cons, List.all_nil, Bool.and_true]; exact h8
    have e5 : ([a, b] : List Expr).all (constantsAlone 8) = false := by
      rw [List.all_cons, List.all_cons, List.all_nil, Bool.and_true]; exact h9
    have p1 : (Expr.Name nm px).pos = px := rfl
    simp only [List.filterMap_cons, List.filterMap_nil, b2, b3, List.head?_cons, Option.map_some, Option.getD_some, p1, h4, beq_self_eq_true, Bool.and_self, if_true, e3, e4, e5, bne_self_eq_false, Bool.or_self, if_false, Bool.false_eq_true, List.length_cons, List.length_nil]
theorem s_par (C : Cok X p G) {n2 : Str} {j : Nat} {px py pt : Pos} {kt k2 : Nat} {pt2 : Pos} {ρ2 : List Slot} (hi : ixOf G.N nm = some i) (hj : ixOf G.N n2 = some j) (hij : i ≠ j) (hc : parB G nm n2 px py a b = true) (ha : PE X a (tE p ρ c x c1)) (hb : PE X b (tE p ρ c1 y c2)) (hp : putS ρ i (.sh x) = some ρ1) (hp2 : putS ρ1 j (.sh y) = some ρ2) :
    PS X (.Assign [.Tuple [.Name nm px, .Name n2 py] kt pt] (.Tuple [a, b] k2 pt2) pos) (tS p ρ c (.nx ρ2 c2)) := by
  obtain ⟨k1, rfl⟩ := put_len hp
  obtain ⟨k3, rfl⟩ := put_len hp2
  unfold parB at hc
  simp only [Bool.and_eq_true, Bool.not_eq_true', beq_iff_eq, Bool.not_eq_true] at hc
  obtain ⟨⟨⟨⟨⟨⟨⟨⟨h1, h2⟩, h3⟩, h4⟩, h5⟩, h6⟩, h7⟩, h8⟩, h9⟩ := hc
  have e1 : X.env.scope.names.lookup nm = some .local := by rw [C.sc]; exact h2
  have e2 : X.env.scope.names.lookup n2 = some .local := by rw [C.sc]; exact h3
  have ek : X.env.scope.kind = .function := by rw [C.sc]; exact h1
  have hw : swappedStores [.Tuple [.Name nm px, .Name n2 py] kt pt] (.Tuple [a, b] k2 pt2) X.env = pure (some [nm, n2]) := swT h4 h5 h6 h8 h9 ek e1 e2 (by simpa using h7)
  refine psM (ps_par C.calm C.nd (by rw [C.N]; exact ixOf_ok hi) (by rw [C.N]; exact ixOf_ok hj) hij e1 e2 (a_cons h5 ha (a_cons h6 hb a_nil)) hw rfl) fun D σ H ⟨S, R, k⟩ => ⟨S, R, fun vs H1 S1 R1 x1 a1 => ?_⟩
  obtain ⟨v, u, rfl, m1, m2⟩ := a1.two
  exact ⟨v, u, rfl, k _ H1 S1 ((R1.put k1 m1).put k3 m2) x1.ss⟩

/-! ### if, for, return -/
theorem s_ifT {t : Expr} {as bs : List Stmt} (ht : PT X t (tT p ρ c true c1)) (ha : PSs X as (tS p ρ c1 o)) : PS X (.If t as bs pos) (tS p ρ c o) :=
  psM (ps_if ht ha pss_never) fun D σ H ⟨S, R, k⟩ => ⟨S, R, fun H1 S1 R1 x1 => iteT ⟨S1, R1, by
    cases o with
    | nx ρ2 c2 => exact fun σ2 H2 S2 R2 s2 => k σ2 H2 S2 R2 (x1.ss.trans s2)
    | rt d c2 => exact k
    | bk ρ2 c2 => exact fun σ2 H2 S2 R2 s2 => k σ2 H2 S2 R2 (x1.ss.trans s2)
    | ct ρ2 c2 => exact fun σ2 H2 S2 R2 s2 => k σ2 H2 S2 R2 (x1.ss.trans s2)⟩⟩
theorem s_ifF {t : Expr} {as bs : List Stmt} (ht : PT X t (tT p ρ c false c1)) (hb : PSs X bs (tS p ρ c1 o)) : PS X (.If t as bs pos) (tS p ρ c o) :=
  psM (ps_if ht pss_never hb) fun D σ H ⟨S, R, k⟩ => ⟨S, R, fun H1 S1 R1 x1 => iteF ⟨S1, R1, by
    cases o with
    | nx ρ2 c2 => exact fun σ2 H2 S2 R2 s2 => k σ2 H2 S2 R2 (x1.ss.trans s2)
    | rt d c2 => exact k
    | bk ρ2 c2 => exact fun σ2 H2 S2 R2 s2 => k σ2 H2 S2 R2 (x1.ss.trans s2)
    | ct ρ2 c2 => exact fun σ2 H2 S2 R2 s2 => k σ2 H2 S2 R2 (x1.ss.trans s2)⟩⟩
theorem s_ret (he : PE X e (tE p ρ c d c1)) : PS X (.Return (some e) pos) (tS p ρ c (.rt d c1)) :=
  psM (ps_ret he) fun D σ H ⟨S, R, k⟩ => ⟨S, R, fun v H1 S1 R1 x1 a1 => k v H1 S1 R1.ext R1.dr a1⟩
theorem s_retO (C : Cok X p G) {q : Pos} (hi : ixOf G.N nm = some i) (hv : (visB G.sc nm && okN nm) = true) (hs : ρ[i]? = some (.ow ds)) : PS X (.Return (some (.Name nm q)) pos) (tS p ρ c (.rt (.lst ds) c)) :=
  psM (ps_ret (pe_nm C hi hv)) fun D σ H ⟨S, R, k⟩ => by
    obtain ⟨w, vs, h1, h2, h3, h4, h5⟩ := R.slot i _ hs
    have x := R.ext.adopt h4 h2 h3
    refine ⟨_, h1, k _ H _ x (fun g sc e => ?_) (.lst (SqL.of upd_same) (h5.sub fun a u h => ?_))⟩
    · obtain ⟨k1, k2, k3⟩ := R.dr g sc e
      exact ⟨k1, by rw [upd_ne (fun q => by subst q; exact k3 h4)]; exact k2, k3⟩
    · rw [upd_ne (fun q => by subst q; rw [h3] at h; cases h)]
      exact h
theorem s_retD (C : Cok X p G) {q : Pos} {ks : List Key} (hi : ixOf G.N nm = some i) (hv : (visB G.sc nm && okN nm) = true) (hs : ρ[i]? = some (.od ks ds)) : PS X (.Return (some (.Name nm q)) pos) (tS p ρ c (.rt (.dic ks ds) c)) :=
  psM (ps_frz (ps_ret (pe_nm C hi hv))) fun D σ H ⟨S, R, k⟩ => by
    obtain ⟨w, vs, h1, h2, h3, h4, h5, h6⟩ := R.slot i _ hs
    refine ⟨_, h1, w, _, rfl, h2, trivial, fun od => ?_⟩
    have x := (R.ext.updNew (o := .frz od (.dK (ks.zip vs))) h4 h3).adopt h4 upd_same h3
    refine k _ _ _ x (fun g sc e => ?_) (.dic ⟨od, upd_same⟩ h5 (h6.sub fun a u h => ?_))
    · obtain ⟨k1, k2, k3⟩ := R.dr g sc e
      have ng : g ≠ w := fun q => by subst q; exact k3 h4
      exact ⟨by rw [upd_ne ng]; exact k1, by rw [upd_ne ng]; exact k2, k3⟩
    · rw [upd_ne (fun q => by subst q; rw [h3] at h; cases h)]
      exact h
theorem forGo_cons {f : D → List Slot → Int → Option Out} (h : forGo f (d :: ds) ρ c = some o) : ∃ o1, f d ρ c = some o1 ∧ (match o1 with
    | .nx ρ1 c1 => forGo f ds ρ1 c1 = some o
    | .ct ρ1 c1 => forGo f ds ρ1 c1 = some o
    | .bk ρ1 c1 => o = .nx ρ1 c1
    | .rt d c1 => o = .rt d c1) := by
  unfold forGo at h
  cases e : f d ρ c with
  | none => rw [e] at h; cases h
  | some o1 =>
    rw [e] at h
    refine ⟨o1, rfl, ?_⟩
    cases o1 with
    | nx ρ1 c1 => exact h
    | ct ρ1 c1 => exact h
    | bk ρ1 c1 => cases h; rfl
    | rt d c1 => cases h; rfl
/-- a turn, by data -/
def forF (g : IG) (b : List IS) : D → List Slot → Int → Option Out := fun d ρ c => match bindG g d ρ with
  | some ρ1 => IS.runs b ρ1 c
  | none => none
theorem s_for (C : Cok X p G) {tg it : Expr} {ig : IG} {ib : List IS} {bd : List Stmt} (hs : isSet it = false) (hi : PI X tg it (tI p ρ c ds c1)) (hg : PG X tg (uG p ig)) (hb : PSs X bd (uSs p ib)) (hgo : forGo (forF ig ib) ds ρ c1 = some o) : PS X (.For tg it bd [] pos) (tS p ρ c o) := by
  refine psM (ps_for C.pass C.calm hi hg hb (fold_pure hs X.env)) fun D σ H ⟨S, R, k⟩ => ⟨S, R, fun J H1 S1 R1 x1 ⟨Gd, Y, wk, hG, hY⟩ => ?_⟩
  refine for_it wk (fun i σ2 H2 => ∃ S2 ρ2 c2, Rel p σ2 H2 S2 ρ2 c2 ∧ Sub S1 S2 ∧ forGo (forF ig ib) (ds.drop i) ρ2 c2 = some o) ⟨S1, ρ, c1, R1, Sub.refl S1, hgo⟩ (fun i σ2 H2 hi ⟨S2, ρ2, c2, R2, s2, _⟩ => hG H2 S2 s2 R2.sub) ?_ ?_
  · rintro i v σ2 H2 H3 hi ⟨S2, ρ2, c2, R2, s2, hf⟩ y
    obtain ⟨S3, d, hdi, av, x3⟩ := hY i H2 S2 v H3 hi s2 R2.sub y
    have R3 : Rel p σ2 H3 S3 ρ2 c2 := R2.step0 x3
    have hdrop : ds.drop i = d :: ds.drop (i + 1) := by
      have hlt : i < ds.length := hi
      rw [List.drop_eq_getElem_cons hlt]
      rw [List.getElem?_eq_getElem hlt] at hdi
      rw [Option.some.inj hdi]
    rw [hdrop] at hf
    obtain ⟨o1, h1, h2⟩ := forGo_cons hf
    unfold forF at h1
    cases e : bindG ig d ρ2 with
    | none => rw [e] at h1; cases h1
    | some ρ3 =>
      rw [e] at h1
      refine ⟨ρ2, d, ρ3, e, S3, c2, R3, av, fun σ3 R4 sb => ⟨ρ3, c2, o1, h1, S3, R4, ?_⟩⟩
      have s13 : Sub S1 S3 := s2.trans x3.ss
      cases o1 with
      | nx ρ4 c4 => exact fun σ5 H5 S5 R5 s5 => ⟨S5, ρ4, c4, R5, s13.trans s5, h2⟩
      | ct ρ4 c4 => exact fun σ5 H5 S5 R5 s5 => ⟨S5, ρ4, c4, R5, s13.trans s5, h2⟩
      | bk ρ4 c4 =>
        subst h2
        exact fun σ5 H5 S5 R5 s5 => k σ5 H5 S5 R5 ((x1.ss.trans s13).trans s5)
      | rt d4 c4 =>
        subst h2
        exact k
  · rintro σ2 H2 ⟨S2, ρ2, c2, R2, s2, hf⟩
    rw [List.drop_length] at hf
    cases hf
    exact k σ2 H2 S2 R2 (x1.ss.trans s2)

theorem s_while (C : Cok X p G) {t : Expr} {it : IT} {ib : List IS} {bd : List Stmt} (ht : PT X t (uT p it)) (hb : PSs X bd (uSs p ib)) (n : Nat) (hgo : whlGo (fun ρ c => it.run ρ c) (fun ρ c => IS.runs ib ρ c) n ρ c = some o) : PS X (.While t bd [] pos) (tS p ρ c o) := by
  refine psM (ps_while C.pass ht hb) fun D σ H ⟨S, R, k⟩ => ?_
  refine ⟨fun m σ' H' => ∃ S' ρ' c', Rel p σ' H' S' ρ' c' ∧ Sub S S' ∧ whlGo (fun ρ c => it.run ρ c) (fun ρ c => IS.runs ib ρ c) m ρ' c' = some o, ⟨n, S, ρ, c, R, Sub.refl S, hgo⟩, ?_⟩
  rintro m σ1 H1 ⟨S1, ρ1, c1, R1, s1, hg⟩
  cases m with
  | zero => cases hg
  | succ m =>
    unfold whlGo at hg
    cases e : it.run ρ1 c1 with
    | none => rw [e] at hg; cases hg
    | some q =>
      obtain ⟨b, c2⟩ := q
      rw [e] at hg
      refine ⟨ρ1, c1, b, c2, e, S1, R1, fun H2 S2 R2 x2 => ?_⟩
      cases b with
      | false =>
        cases hg
        exact k σ1 H2 S2 R2 (s1.trans x2.ss)
      | true =>
        rw [if_pos rfl]
        dsimp only at hg
        cases e2 : IS.runs ib ρ1 c2 with
        | none => rw [e2] at hg; cases hg
        | some o1 =>
          rw [e2] at hg
          refine ⟨fun σ' H' => ∃ S' ρ' c', Rel p σ' H' S' ρ' c' ∧ Sub S S' ∧ whlGo (fun ρ c => it.run ρ c) (fun ρ c => IS.runs ib ρ c) m ρ' c' = some o, fun σ' H' h => ⟨m, Nat.lt_succ_self m, h⟩, ρ1, c2, o1, e2, S2, R2, ?_⟩
          cases o1 with
          | nx ρ4 c4 => exact fun σ5 H5 S5 R5 s5 => ⟨S5, ρ4, c4, R5, (s1.trans x2.ss).trans s5, hg⟩
          | ct ρ4 c4 => exact fun σ5 H5 S5 R5 s5 => ⟨S5, ρ4, c4, R5, (s1.trans x2.ss).trans s5, hg⟩
          | bk ρ4 c4 =>
            cases hg
            exact fun σ5 H5 S5 R5 s5 => k σ5 H5 S5 R5 ((s1.trans x2.ss).trans s5)
          | rt d4 c4 =>
            cases hg
            exact k

/-! ### statements as they are read -/
theorem cSet_ok (K : SrtOk) {n : Nat} (S : Snd (comp (n + 1))) (C : Cok X p G) {is : IS} {xp : Pos} (h : cSet (comp (n + 1)) G nm e = some is) : PS X (.Assign [.Name nm xp] e pos) (uS p is) := by
  refine ps_all fun ρ c o hr => ?_
  unfold cSet at h
  split at h
  · cases h
  rename_i j hi
  split at h
  · rename_i hl
    rw [Bool.and_eq_true] at hl
    have hl := hl.1
    split at h
    · split at h
      · rename_i es lp
        obtain ⟨ia, h1, rfl⟩ := map_some h
        unfold IS.run at hr
        cases e1 : ia.run ρ c with
        | none => rw [e1] at hr; cases hr
        | some q =>
          obtain ⟨ds, c1⟩ := q
          rw [e1] at hr
          dsimp only at hr
          split at hr
          · rename_i hz
            obtain ⟨ρ1, h2, rfl⟩ := map_some hr
            exact s_setO C hi hl (cA_ok S C h1 e1) hz h2
          · cases hr
      · cases h
        unfold IS.run at hr
        obtain ⟨ρ1, h2, rfl⟩ := map_some hr
        exact s_setD C hi hl h2
      · rename_i keys es lp _
        obtain ⟨q, h1, rfl⟩ := map_some h
        obtain ⟨ks, ia⟩ := q
        obtain ⟨g1, g2, g3, g4, g5, g6, g7⟩ := cDct_ok h1
        unfold IS.run at hr
        cases e1 : ia.run ρ c with
        | none => rw [e1] at hr; cases hr
        | some q =>
          obtain ⟨ds, c1⟩ := q
          rw [e1] at hr
          dsimp only at hr
          split at hr
          · obtain ⟨ρ1, h2, rfl⟩ := map_some hr
            exact s_setDd C hi hl (chain_ok S.tx C g3 g6 e1) g5 g1 g4 g2 g7 h2
          · cases hr
      · cases h
    · split at h
      · split at h
        · rename_i y q a lp
          split at h
          · rename_i hc
            obtain ⟨rfl, h1, h2⟩ := hc
            obtain ⟨il, h3, rfl⟩ := map_some h
            obtain ⟨g1, g2⟩ := fr_ok C (by decide +kernel) h1
            unfold IS.run at hr
            cases e1 : il.run ρ c with
            | none => rw [e1] at hr; cases hr
            | some q =>
              obtain ⟨isL, ds, c1⟩ := q
              rw [e1] at hr
              dsimp only at hr
              cases e2 : D.ints ds with
              | none => rw [e2] at hr; cases hr
              | some ns =>
                rw [e2] at hr
                dsimp only at hr
                split at hr
                · rename_i hz
                  obtain ⟨ρ1, h4, rfl⟩ := map_some hr
                  have e3 := ints_ok e2
                  subst e3
                  exact s_setS C rfl g1 g2 h2 hi hl (cL_ok S h3 C e1) hz.1 hz.2 h4
                · cases hr
          · cases h
        · cases h
      · split at h
        · cases h
        rename_i hnd
        · obtain ⟨ie, h1, rfl⟩ := map_some h
          unfold IS.run at hr
          cases e1 : ie.run ρ c with
          | none => rw [e1] at hr; cases hr
          | some q =>
            obtain ⟨d, c1⟩ := q
            rw [e1] at hr
            obtain ⟨ρ1, h2, rfl⟩ := map_some hr
            by_cases hlc : isLcB e = true
            · cases e <;> first | (cases hlc; done) | skip
              · rename_i elt gens scope lp
                have h1' : stepE (comp n) G (.ListComp elt gens scope lp) = some ie := by
                  have h0 : some ((stepE (comp n) G (.ListComp elt gens scope lp)).getD .stop) = some ie := h1
                  cases e5 : stepE (comp n) G (.ListComp elt gens scope lp) with
                  | none =>
                    rw [e5] at h0
                    cases h0
                    cases e1
                  | some ie' =>
                    rw [e5] at h0
                    exact h0
                have hgs : ∃ tg it ifs, gens = [⟨tg, it, ifs, 0⟩] ∧ cLc (comp n) G elt tg it ifs scope = some ie := by
                  unfold stepE at h1'
                  split at h1' <;> first | (cases h1'; done) | skip
                  all_goals first | (rename_i q; cases q; done) | skip
                  all_goals (rename_i q; injection q with q1 q2 q3 q4; subst q1; subst q2; subst q3; exact ⟨_, _, _, rfl, h1'⟩)
                obtain ⟨tg, it, ifs, rfl, h3⟩ := hgs
                exact s_setLc K (comp_ok K n) C hi hl (S.ex h1 C e1) h3 e1 h2
              · cases h1
                cases (show (none : Option (D × Int)) = some (d, c1) from e1)
              · exact absurd rfl hnd
            · exact s_set C (by simpa using hlc) hi hl (S.ex h1 C e1) h2
  · cases h
theorem cUnp_ok {n : Nat} (S : Snd (comp n)) (C : Cok X p G) {is : IS} {k : Nat} {tp : Pos} (h : cUnp (comp n) G es e = some is) : PS X (.Assign [.Tuple es k tp] e pos) (uS p is) := by
  refine ps_all fun ρ c o hr => ?_
  unfold cUnp at h
  split at h
  · rename_i hc
    rw [Bool.and_eq_true] at hc
    split at h <;> cases h
    rename_i g pe e1 e2
    unfold IS.run at hr
    cases e3 : pe.run ρ c with
    | none => rw [e3] at hr; cases hr
    | some q =>
      obtain ⟨d, c1⟩ := q
      rw [e3] at hr
      obtain ⟨ρ1, h2, rfl⟩ := map_some hr
      cases d <;> first | (cases h2; done) | skip
      rename_i l
      obtain ⟨h3, h4, h5⟩ := cGs_ok S C e1 (show bindGs g l ρ = some ρ1 from h2)
      exact s_unp C (by simpa using hc.2) hc.1 h5 (S.ex e2 C e3) (g_tp C h5 h4 h3)
  · cases h
theorem cPut2_ok {n : Nat} (S : Snd (comp n)) (C : Cok X p G) {is : IS} {k : Nat} {tp : Pos} (h : cPut2 (comp n) G es e = some is) : PS X (.Assign [.Tuple es k tp] e pos) (uS p is) := by
  unfold cPut2 at h
  split at h
  · rename_i x q1 s j1 q2 q3 y q4 t j2 q5 q6
    split at h
    · rename_i hc
      rw [Bool.and_eq_true, Bool.and_eq_true, Bool.and_eq_true] at hc
      split at h <;> cases h
      rename_i i j pe e1 e2 e3
      refine ps_all fun ρ c o hr => ?_
      unfold IS.run at hr
      split at hr
      · rename_i x1 y1 c1 e4
        split at hr
        · rename_i ks ds e5
          split at hr
          · rename_i hz
            split at hr
            · rename_i ρ1 e6
              split at hr
              · rename_i ks2 ds2 e7
                split at hr
                · rename_i hz2
                  obtain ⟨ρ2, h5, rfl⟩ := map_some hr
                  exact s_put2 C (by simpa using hc.1.1.2) hc.1.1.1 e1 hc.1.2 e2 hc.2 (S.ex e3 C e4) e5 hz e6 e7 hz2 h5
                · cases hr
              · cases hr
            · cases hr
          · cases hr
        · cases hr
      · cases hr
    · cases h
  · cases h
/-- a, *b = e -/
theorem s_star (C : Cok X p G) {n2 : Str} {j k : Nat} {q1 q2 q3 tp : Pos} {ρ2 : List Slot} (hl : isLcB e = false) (hu : unpB G [.Name nm q1, .Starred (.Name n2 q2) q3] e = true) (hi : ixOf G.N nm = some i) (hx : locG G nm = true) (hj : ixOf G.N n2 = some j) (hx2 : locG G n2 = true)
    (he : PE X e (tE p ρ c (.tup (d :: ds)) c1)) (hz : ds.length < 16384) (hp : putS ρ i (.sh d) = some ρ1) (hp2 : putS ρ1 j (.sh (.lst ds)) = some ρ2) : PS X (.Assign [.Tuple [.Name nm q1, .Starred (.Name n2 q2) q3] k tp] e pos) (tS p ρ c (.nx ρ2 c1)) := by
  obtain ⟨k1, rfl⟩ := put_len hp
  obtain ⟨k2, rfl⟩ := put_len hp2
  obtain ⟨l1, l2⟩ := locG_ok C hx
  obtain ⟨l3, l4⟩ := locG_ok C hx2
  refine psM (ps_asg he (pg_star C.calm (pg_name C.nd (by rw [C.N]; exact ixOf_ok hi) l1 l2) (pg_name C.nd (by rw [C.N]; exact ixOf_ok hj) l3 l4) rfl) (swap_sole hl _ _ _) (unp_none C hu) rfl) fun D σ H ⟨S, R, q⟩ => ⟨S, R, fun v H1 S1 R1 x1 a1 => ?_⟩
  obtain ⟨w, vs, rfl, h1, r1⟩ := a1.tup_inv
  cases r1 with
  | @cons v vs _ _ a2 ar =>
    rw [C.K]
    refine ⟨w, v, vs, rfl, sub_t R1.sub h1, by rw [ar.len]; exact hz, fun u hu => ?_⟩
    have x := Ext.new (g := none) R1.sub (o := .lst vs) hu
    have R2 := R1.step0 x
    have R3 := (R2.put k1 (a2.sub x.ss)).put k2 (.lst (SqL.of upd_same) (ar.sub x.ss))
    exact ⟨_, _, rfl, _, _, rfl, rfl, q _ _ _ R3 (x1.ss.trans x.ss)⟩
theorem cStar_ok {n : Nat} (S : Snd (comp n)) (C : Cok X p G) {is : IS} {k : Nat} {tp : Pos} (h : cStar (comp n) G es e = some is) : PS X (.Assign [.Tuple es k tp] e pos) (uS p is) := by
  unfold cStar at h
  split at h
  · rename_i x q1 y q2 q3
    split at h
    · rename_i hc
      rw [Bool.and_eq_true, Bool.and_eq_true, Bool.and_eq_true] at hc
      split at h <;> cases h
      rename_i i j pe e1 e2 e3
      refine ps_all fun ρ c o hr => ?_
      unfold IS.run at hr
      split at hr
      · rename_i d ds c1 e4
        split at hr
        · rename_i hz
          split at hr
          · rename_i ρ1 e5
            obtain ⟨ρ2, e6, rfl⟩ := map_some hr
            exact s_star C (by simpa using hc.2) hc.1.2 e1 hc.1.1.1 e2 hc.1.1.2 (S.ex e3 C e4) hz e5 e6
          · cases hr
        · cases hr
      · cases hr
    · cases h
  · cases h
theorem cAsg_ok (K : SrtOk) {n : Nat} (S : Snd (comp (n + 1))) (C : Cok X p G) {is : IS} {tg : Expr} (h : cAsg (comp (n + 1)) G tg e = some is) : PS X (.Assign [tg] e pos) (uS p is) := by
  unfold cAsg at h
  split at h
  · exact cSet_ok K S C h
  · split at h
    · rename_i x px y py a b k2 pt2
      split at h
      · rename_i hc
        split at h
        · rename_i i j pa pb e1 e2 e3 e4
          split at h <;> cases h
          rename_i hij
          refine ps_all fun ρ c o hr => ?_
          unfold IS.run at hr
          cases e5 : pa.run ρ c with
          | none => rw [e5] at hr; cases hr
          | some q =>
            obtain ⟨x1, c1⟩ := q
            rw [e5] at hr
            dsimp only at hr
            cases e6 : pb.run ρ c1 with
            | none => rw [e6] at hr; cases hr
            | some q =>
              obtain ⟨y1, c2⟩ := q
              rw [e6] at hr
              dsimp only at hr
              cases e7 : putS ρ i (.sh x1) with
              | none => rw [e7] at hr; cases hr
              | some ρ1 =>
                rw [e7] at hr
                obtain ⟨ρ2, h2, rfl⟩ := map_some hr
                exact s_par C e1 e2 hij hc (S.ex e3 C e5) (S.ex e4 C e6) e7 h2
        · cases h
      · exact cUnp_ok S C h
    · split at h
      · rename_i s e1
        cases h
        exact cPut2_ok S C e1
      · split at h
        · rename_i s e2
          cases h
          exact cStar_ok S C e2
        · exact cUnp_ok S C h
  · rename_i x q k sp
    split at h
    · rename_i hc
      rw [Bool.and_eq_true, Bool.and_eq_true] at hc
      split at h
      · rename_i i pk pe e1 e2 e3
        split at h <;> cases h
        rename_i hv
        by_cases hd : isOd G x = true
        · rw [if_pos hd]
          refine ps_all fun ρ c o hr => ?_
          unfold IS.run at hr
          cases e5 : pe.run ρ c with
          | none => rw [e5] at hr; cases hr
          | some q =>
            obtain ⟨d, c1⟩ := q
            rw [e5] at hr
            dsimp only at hr
            cases e6 : pk.run ρ c1 with
            | none => rw [e6] at hr; cases hr
            | some q =>
              obtain ⟨y, c2⟩ := q
              rw [e6] at hr
              dsimp only at hr
              split at hr
              · rename_i ks ds q e7 e8
                split at hr
                · rename_i hz
                  obtain ⟨ρ1, h2, rfl⟩ := map_some hr
                  exact s_dput C (by simpa using hc.1.2) hc.2 e1 hv e7 (S.ex e3 C e5) (S.ex e2 C e6) e8 hz.1 h2
                · cases hr
              · rename_i w ks ds q e7 e8
                split at hr
                · rename_i hz
                  obtain ⟨ρ1, h2, rfl⟩ := map_some hr
                  exact s_dputA C (by simpa using hc.1.2) hc.2 e1 hv e7 (S.ex e3 C e5) (S.ex e2 C e6) e8 hz.1 h2
                · cases hr
              · cases hr
        · rw [if_neg hd]
          refine ps_all fun ρ c o hr => ?_
          unfold IS.run at hr
          split at hr
          · rename_i ds e4
            cases e5 : pe.run ρ c with
            | none => rw [e5] at hr; cases hr
            | some q =>
              obtain ⟨d, c1⟩ := q
              rw [e5] at hr
              dsimp only at hr
              split at hr
              · rename_i j c2 e6
                cases e7 : ixN ds.length j with
                | none => rw [e7] at hr; cases hr
                | some m =>
                  rw [e7] at hr
                  obtain ⟨ρ1, h2, rfl⟩ := map_some hr
                  exact s_seti C (by simpa using hc.1.2) hc.2 e1 hv e4 (S.ex e3 C e5) (S.ex e2 C e6) e7 h2
              · cases hr
          · cases hr
      · cases h
    · cases h
  · rename_i x q f ap
    · split at h
      · rename_i i pe e1 e2
        cases h
        obtain ⟨h1, h2⟩ := isSf_ok e1
        refine ps_all fun ρ c o hr => ?_
        unfold IS.run at hr
        cases e5 : pe.run ρ c with
        | none => rw [e5] at hr; cases hr
        | some q =>
          obtain ⟨d, c1⟩ := q
          rw [e5] at hr
          dsimp only at hr
          split at hr
          · rename_i k fs ds e6
            split at hr
            · rename_i hc
              obtain ⟨ρ1, h3, rfl⟩ := map_some hr
              exact s_fldS C h1 h2 (by simpa using hc.1) (S.ex e2 C e5) e6 hc.2.1 hc.2.2.1 h3
            · cases hr
          · cases hr
      · cases h
  · cases h
theorem cAug_ok {n : Nat} (S : Snd (comp n)) (C : Cok X p G) {is : IS} {tg : Expr} {op : Operator} (h : cAug (comp n) G tg op e = some is) : PS X (.AugAssign tg op e pos) (uS p is) := by
  refine ps_all fun ρ c o hr => ?_
  unfold cAug at h
  split at h
  · rename_i x q
    split at h
    · rename_i i pe e1 e2
      split at h
      · rename_i hl
        have main : ∀ {sub : Bool}, op = (if sub then .Sub else .Add) → (IS.aug i sub pe).run ρ c = some o → PS X (.AugAssign (.Name x q) op e pos) (tS p ρ c o) := fun {sub} ho hr => by
          unfold IS.run at hr
          split at hr
          · rename_i k e3
            split at hr
            · rename_i l c1 e4
              obtain ⟨ρ1, h2, rfl⟩ := map_some hr
              exact s_aug C ho e1 hl e3 (S.ex e2 C e4) h2
            · cases hr
          · cases hr
        split at h <;> cases h
        · exact main (sub := false) rfl hr
        · exact main (sub := true) rfl hr
      · cases h
    · cases h
  · rename_i x q k j q1 sp
    split at h
    · rename_i l j2 q2
      split at h
      · rename_i hk
        obtain ⟨rfl, rfl⟩ := hk
        obtain ⟨i, h1, rfl⟩ := map_some h
        obtain ⟨h2, h3⟩ := isDr_ok h1
        unfold IS.run at hr
        split at hr <;> cases hr
        rename_i s e1
        exact s_drw C h2 h3 e1
      · cases h
    · cases h
  · cases h
theorem cExp_ok {n : Nat} (S : Snd (comp n)) (C : Cok X p G) {is : IS} (h : cExp (comp n) G e = some is) : PS X (.Expr e pos) (uS p is) := by
  refine ps_all fun ρ c o hr => ?_
  unfold cExp at h
  split at h
  · split at h
    · rename_i hc
      obtain ⟨h1, h2, h3, h4⟩ := hc
      split at h
      · rename_i i pa e1 e2
        split at h <;> cases h
        rename_i hv
        unfold IS.run at hr
        split at hr
        · rename_i ds e3
          cases e4 : pa.run ρ c with
          | none => rw [e4] at hr; cases hr
          | some q =>
            obtain ⟨d, c1⟩ := q
            rw [e4] at hr
            dsimp only at hr
            split at hr
            · rename_i hz
              obtain ⟨ρ1, h5, rfl⟩ := map_some hr
              exact s_app C h1 h3 h4 e1 hv e3 (S.ex e2 C e4) hz h5
            · cases hr
        · cases hr
      · cases h
    · cases h
  · obtain ⟨ie, h1, rfl⟩ := map_some h
    unfold IS.run at hr
    cases e1 : ie.run ρ c with
    | none => rw [e1] at hr; cases hr
    | some q =>
      obtain ⟨d, c1⟩ := q
      rw [e1] at hr
      cases hr
      exact psM (ps_expr (S.ex h1 C e1) (swap_no rfl _ _ _)) fun D σ H ⟨S1, R, k⟩ => ⟨S1, R, fun v H1 S2 R1 x1 a1 => k σ H1 S2 R1 x1.ss⟩
  · cases h
theorem cRet_ok {n : Nat} (S : Snd (comp n)) (C : Cok X p G) {is : IS} (h : cRet (comp n) G e = some is) : PS X (.Return (some e) pos) (uS p is) := by
  refine ps_all fun ρ c o hr => ?_
  have gen : ((comp n).E G e).map .ret = some is → PS X (.Return (some e) pos) (tS p ρ c o) := fun h => by
    obtain ⟨ie, h1, rfl⟩ := map_some h
    unfold IS.run at hr
    cases e1 : ie.run ρ c with
    | none => rw [e1] at hr; cases hr
    | some q =>
      rw [e1] at hr
      cases hr
      exact s_ret (S.ex h1 C e1)
  unfold cRet at h
  split at h
  · split at h
    · split at h
      · rename_i j e1
        split at h <;> cases h
        rename_i hv
        unfold IS.run at hr
        split at hr <;> cases hr
        · rename_i ds e2
          exact s_retO C e1 hv e2
        · rename_i ks ds e2
          exact s_retD C e1 hv e2
      · cases h
    · exact gen h
  · exact gen h
theorem run_fold (S : Hp) : True := trivial
theorem cStmt_ok (K : SrtOk) {n : Nat} (S : Snd (comp (n + 1))) (C : Cok X p G) {rec_ : List Stmt → Option (List IS)} (hrec : ∀ l il, rec_ l = some il → PSs X l (uSs p il)) {st : Stmt} {is : IS} (h : cStmt (comp (n + 1)) G rec_ st = some is) : PS X st (uS p is) := by
  unfold cStmt at h
  split at h
  · exact cAsg_ok K S C h
  · exact cAug_ok S C h
  · exact cExp_ok S C h
  · split at h <;> cases h
    rename_i pt la lb e1 e2 e3
    refine ps_all fun ρ c o hr => ?_
    unfold IS.run at hr
    split at hr
    · rename_i c1 e4
      exact s_ifT (S.te e1 C e4) (pss_of (hrec _ _ e2) hr)
    · rename_i c1 e4
      exact s_ifF (S.te e1 C e4) (pss_of (hrec _ _ e3) hr)
    · cases hr
  · split at h
    · cases h
    · rename_i hs
      split at h <;> cases h
      rename_i ii ig lb e1 e2 e3
      refine ps_all fun ρ c o hr => ?_
      unfold IS.run at hr
      cases e4 : ii.run ρ c with
      | none => rw [e4] at hr; cases hr
      | some q =>
        obtain ⟨ds, c1⟩ := q
        rw [e4] at hr
        have hr' : forGo (forF ig lb) ds ρ c1 = some o := hr
        exact s_for C (by simpa using hs) (cI_ok S C e1 e4) (S.G _ _ _ e2 X p C) (hrec _ _ e3) hr'
  · exact cRet_ok S C h
  · split at h <;> cases h
    rename_i pt lb e1 e2
    refine ps_all fun ρ c o hr => ?_
    exact s_while C (S.T _ _ _ e1 X p C) (hrec _ _ e2) 1000000 hr
  · cases h
    exact ps_all fun ρ c o hr => by
      cases hr
      exact psM ps_break fun D σ H ⟨S1, R, k⟩ => k σ H S1 R (Sub.refl S1)
  · cases h
    exact ps_all fun ρ c o hr => by
      cases hr
      exact psM ps_continue fun D σ H ⟨S1, R, k⟩ => k σ H S1 R (Sub.refl S1)
  · cases h
    exact ps_all fun ρ c o hr => by
      cases hr
      exact psM ps_pass fun D σ H ⟨S1, R, k⟩ => k σ H S1 R (Sub.refl S1)
  · cases h
theorem cList_ok {f : Stmt → Option IS} (hf : ∀ st is, f st = some is → PS X st (uS p is)) : ∀ {l : List Stmt} {il : List IS}, cList f l = some il → PSs X l (uSs p il)
  | [], il, h => by
    cases h
    exact ⟨fun pins sh σ H D I ⟨ρ, c, o, hr, S, R, k⟩ => by
      cases hr
      exact pss_nil.run pins sh σ H D I (k σ H S R (Sub.refl S))⟩
  | st :: l, il, h => by
    unfold cList at h
    split at h <;> cases h
    rename_i is ir e1 e2
    have h1 := hf st is e1
    have h2 := cList_ok hf e2
    refine pssM (pss_cons h1 h2) fun D σ H ⟨ρ, c, o, hr, S, R, k⟩ => ?_
    unfold IS.runs at hr
    cases e3 : is.run ρ c with
    | none => rw [e3] at hr; cases hr
    | some o1 =>
      rw [e3] at hr
      refine ⟨ρ, c, o1, e3, S, R, ?_⟩
      cases o1 with
      | nx ρ1 c1 =>
        intro σ1 H1 S1 R1 s1
        refine ⟨ρ1, c1, o, hr, S1, R1, ?_⟩
        cases o with
        | nx ρ2 c2 => exact fun σ2 H2 S2 R2 s2 => k σ2 H2 S2 R2 (s1.trans s2)
        | rt d c2 => exact k
        | bk ρ2 c2 => exact fun σ2 H2 S2 R2 s2 => k σ2 H2 S2 R2 (s1.trans s2)
        | ct ρ2 c2 => exact fun σ2 H2 S2 R2 s2 => k σ2 H2 S2 R2 (s1.trans s2)
      | rt d c1 => cases hr; exact k
      | bk ρ1 c1 => cases hr; exact k
      | ct ρ1 c1 => cases hr; exact k
theorem compS_ok (K : SrtOk) {m : Nat} (C : Cok X p G) : ∀ (n : Nat) {l : List Stmt} {il : List IS}, compS (comp (m + 1)) G n l = some il → PSs X l (uSs p il)
  | 0, _, _, h => by cases h
  | n + 1, _, _, h => cList_ok (fun st is hs => by
      have h0 : some ((cStmt (comp (m + 1)) G (compS (comp (m + 1)) G n) st).getD .stop) = some is := hs
      cases e5 : cStmt (comp (m + 1)) G (compS (comp (m + 1)) G n) st with
      | none =>
        rw [e5] at h0
        cases h0
        exact ps_all fun ρ c o hr => by cases hr
      | some is' =>
        rw [e5] at h0
        cases h0
        exact cStmt_ok K (comp_ok K (m + 1)) C (fun l il h => compS_ok K C n h) e5) h
end
end Rf

/-! Rf, part L: a def of the text keeps its promise, by what the small language says; the law's own def. -/
namespace Rf
open PySem PySem.Spec L2

def flOf (fls : List (Str × List Str)) (f : Str) : List Str := (fls.lookup f).getD []
def mtOf (ms : List (Str × Str × Fn)) (m : Str) : List (Str × Fn) := (ms.filter fun q => decide (q.1 = m)).map (·.2)
/-- what is known of the module: its defs up to a level, its constants, that the built-in names are the built-ins -/
structure Mok (P : Program) (w : World) (K : PySem.W.Frag) (mg : Str → Option Value) (base : Heap) (Z : KC) (fs : List (Str × Fn)) (cs : List (Str × D)) (ms : List (Str × Str × Fn)) (fls : List (Str × List Str)) (cls : List (Str × Nat × (List D → Option (List Str × List D)))) (kcs : List Str) (k : Nat) : Prop where
  fn : ∀ x f, fs.lookup x = some f → ∃ a fd ps k', mg x = some (.ref a) ∧ PySem.W.keepIn K (.ref a) = true ∧ Binds K fd ps [] ∧ FnOk P w K mg base CX0 k' a fd ps (spF Z f) ∧ k' + 1 ≤ k
  cn : ∀ x d, cs.lookup x = some d → ∃ v u, mg x = some u ∧ RelV v u ∧ ∀ S, At Z S v d
  bl : ∀ x ∈ blts, mg x = none
  fl : ∀ f c, c ∈ flOf fls f → Cls K (Z.cl c) ∧ NoAttr K (Z.cl c) f
  mt : ∀ m c n F, (c, Fn.pure n F) ∈ mtOf ms m → ∃ a fd ps k', Cls K (Z.cl c) ∧ Meth K (Z.cl c) m a ∧ Binds K fd ps [] ∧ FnOk P w K mg base CX0 k' a fd ps (spF Z (.pure n F)) ∧ k' + 1 ≤ k
  cl : ∀ c n F, cls.lookup c = some (n, F) → ∃ f fd ps k', mg c = some (.ref (Z.cl c)) ∧ Mk K (Z.cl c) f ∧ Binds K fd ps [] ∧ FnOk P w K mg base CX0 k' f fd ps (spI Z c n F) ∧ k' + 1 ≤ k
  kc : ∀ c ∈ kcs, mg c = some (.ref (Z.cl c)) ∧ C8.InsC K (Z.cl c) ∧ ∀ c' ∈ kcs, PySem.W.kitOne K (.ref (Z.cl c')) (.ref (Z.cl c)) = some (decide (c' = c))
  lv : 2 ≤ k
/-- the tables of the module -/
structure Tab where
  fs : List (Str × Fn)
  cs : List (Str × D)
  ms : List (Str × Str × Fn) := []
  fl : List (Str × List Str) := []
  cl : List (Str × Nat × (List D → Option (List Str × List D))) := []
  kc : List Str := []
abbrev MokT (P : Program) (w : World) (K : PySem.W.Frag) (mg : Str → Option Value) (base : Heap) (Z : KC) (T : Tab) (k : Nat) : Prop := Mok P w K mg base Z T.fs T.cs T.ms T.fl T.cl T.kc k
def gam (N : List Str) (sc : Scope) (T : Tab) (ow od st : List Str) (dr sf : Option Str) : Gam :=
  { N := N, sc := sc, fn := fun x => T.fs.lookup x, cn := fun x => T.cs.lookup x, ow := ow, st := st, dr := dr, top := true, fl := flOf T.fl, mt := mtOf T.ms, cl := fun x => T.cl.lookup x, sf := sf, od := od, kc := T.kc }
/-- the text of a def reads as il -/
def Reads (N : List Str) (sc : Scope) (T : Tab) (ow od st : List Str) (dr sf : Option Str) (body : List Stmt) (il : List IS) : Prop :=
  compS (comp 40) (gam N sc T ow od st dr sf) 30 body = some il

section
variable {P : Program} {w : World} {K : PySem.W.Frag} {mg : Str → Option Value} {base : Heap} {Z : KC} {T : Tab} {k : Nat}
theorem cok_of (hZ : Z.K = K) (M : MokT P w K mg base Z T k) {N ps : List Str} {qual : Str} {scope : Scope} {f : Addr} {cd : Value} {A : Around} {outer : List Env} {s : Shared} {H H0 S0 : Hp} {E : XK} {dg : Option (Addr × Addr)} {ow od st : List Str} {dr sf : Option Str} {sa : Option Addr}
    (S : FnScope N ps scope) (hr : Room k (A.deeper (PyProof.Rows.envOfC qual scope s.heap.objs.size f cd))) : Cok (cxOf CX0 P w K mg base N qual scope f cd A outer s H E).nox ⟨Z, w, dg, H0, S0, sa⟩ (gam N scope T ow od st dr sf) where
  K := hZ.symm
  N := rfl
  nd := S.nd
  calm := rfl
  sc := rfl
  cell := fun _ _ _ => rfl
  fn := fun x f h => by
    obtain ⟨a, fd, ps, k', h1, h2, h3, h4, h5⟩ := M.fn x f h
    exact ⟨a, fd, ps, k', h1, h2, h3, h4, hr.mono h5⟩
  cn := M.cn
  bl := fun x hx _ _ => M.bl x hx
  fl := M.fl
  mt := fun m c n F h => by
    obtain ⟨a, fd, ps, k', h1, h2, h3, h4, h5⟩ := M.mt m c n F h
    exact ⟨a, fd, ps, k', h1, h2, h3, h4, hr.mono h5⟩
  cl := fun c n F h => by
    obtain ⟨f, fd, ps, k', h1, h2, h3, h4, h5⟩ := M.cl c n F h
    exact ⟨f, fd, ps, k', h1, h2, h3, h4, hr.mono h5⟩
  kc := M.kc
  room := hr.mono M.lv
  pass := PassesOwn.never

theorem start_get {N : List Str} {vs : List V} {i : Nat} {v : V} (h : vs[i]? = some v) : (L2.start N vs)[i]? = some (some v) := by
  have hi : i < vs.length := (List.getElem?_eq_some_iff.mp h).1
  unfold L2.start
  rw [List.getElem?_append_left (by rw [List.length_map]; exact hi), List.getElem?_map, h]
  rfl
theorem start_len {N : List Str} {vs : List V} (h : vs.length ≤ N.length) : (L2.start N vs).length = N.length := by
  unfold L2.start
  rw [List.length_append, List.length_map, List.length_replicate]
  omega
/-- the slots at a def's entry -/
theorem rel_start {N : List Str} {vs : List V} {ds : List D} {H S : Hp} {w : World} (hs : Sub S H) (ha : Ats Z S vs ds) (hl : ds.length ≤ N.length) : Rel ⟨Z, w, none, H, S, none⟩ (L2.start N vs) H S (ds.map .sh ++ List.replicate (N.length - ds.length) .no) 0 where
  ext := Ext.refl hs
  slot := fun i sl e => by
    by_cases hi : i < ds.length
    · rw [List.getElem?_append_left (by rw [List.length_map]; exact hi), List.getElem?_map, List.getElem?_eq_getElem hi] at e
      cases e
      obtain ⟨v, h1, h2⟩ := ha.get (List.getElem?_eq_getElem hi)
      exact ⟨v, start_get h1, h2⟩
    · rw [List.getElem?_append_right (by rw [List.length_map]; omega), List.getElem?_replicate] at e
      split at e <;> cases e
      trivial
  apart := fun i j si sj a e1 e2 o1 o2 _ _ => by
    have no : ∀ (i : Nat) (si : Slot), (ds.map Slot.sh ++ List.replicate (N.length - ds.length) Slot.no)[i]? = some si → si.own = false := fun i si e => by
      by_cases hi : i < ds.length
      · rw [List.getElem?_append_left (by rw [List.length_map]; exact hi), List.getElem?_map, List.getElem?_eq_getElem hi] at e
        cases e
        rfl
      · rw [List.getElem?_append_right (by rw [List.length_map]; omega), List.getElem?_replicate] at e
        split at e <;> cases e
        rfl
    rw [no i si e1] at o1
    cases o1
  dr := fun g sc e => by cases e
  len := by
    rw [start_len (by rw [ha.len]; exact hl), List.length_append, List.length_map, List.length_replicate]
    omega
theorem scope_len {N ps : List Str} {scope : Scope} (S : FnScope N ps scope) : ps.length ≤ N.length := by
  have h := congrArg List.length S.pre
  rw [List.length_take] at h
  omega
/-- THE RULE for a def that draws nothing -/
theorem fn_pure (hZ : Z.K = K) (M : MokT P w K mg base Z T k) {x qual : Str} {params : Arguments} {body : List Stmt} {scope : Scope} {f : Addr} {fd : FuncData} {N ps : List Str} {ow od st : List Str} {il : List IS} {F : List D → Option D}
    (FD : FunD K x qual params body scope [] [] f fd) (S : FnScope N ps scope) (hc : Reads N scope T ow od st none none body il) (hF : ∀ ds d, F ds = some d → ds.length = ps.length → callP N.length il ds = some d) :
    FnOk P w K mg base CX0 (k + 1) f fd ps (spF Z (.pure ps.length F)) := by
  refine FD.ok S (fun vs H Q E h => ?_) (fun cdv A outer s H vs Q E hr h => ?_)
  · obtain ⟨_, _, _, h, _⟩ := h
    exact h
  · obtain ⟨S0, ds, d, hl, hs, ha, hd, q⟩ := h
    have C := cok_of (H0 := H) (S0 := S0) (dg := none) (ow := ow) (od := od) (st := st) (dr := none) (sf := none) (sa := none) (outer := outer) (H := H) (E := E) hZ M S hr
    refine ⟨_, (compS_ok srt_ok C 30 hc).nox, ?_⟩
    have hlen : ds.length = ps.length := by rw [← ha.len, hl]
    have hcall := hF ds d hd hlen
    unfold callP at hcall
    have R := rel_start (w := w) (N := N) hs ha (by rw [hlen]; exact scope_len S)
    cases hrun : IS.runs il (ds.map .sh ++ List.replicate (N.length - ds.length) .no) 0 with
    | none => rw [hrun] at hcall; cases hcall
    | some o =>
      rw [hrun] at hcall
      refine ⟨_, 0, o, hrun, S0, R, ?_⟩
      cases o with
      | rt d' c => cases hcall; exact fun v H1 S1 x1 _ a1 => q v H1 S1 x1 a1
      | nx ρ c => cases hcall; exact fun σ H1 S1 R1 _ => q _ H1 S1 R1.ext .non
      | bk ρ c => cases hcall
      | ct ρ c => cases hcall
theorem rel_startD {N : List Str} {vs : List V} {ds : List D} {H S : Hp} {w : World} {g sc : Addr} {scr : D} {c : Int} (hs : Sub S H) (hg : H g = some (.lst [.ref sc, .int c])) (hg2 : S g = none) (hsc : At Z S (.ref sc) scr) (ha : Ats Z S vs ds) (hl : ds.length + 1 ≤ N.length) :
    Rel ⟨Z, w, some (g, sc), H, S, none⟩ (L2.start N (.ref g :: vs)) H S (.dr scr :: ds.map .sh ++ List.replicate (N.length - 1 - ds.length) .no) c where
  ext := Ext.refl hs
  slot := fun i sl e => by
    cases i with
    | zero => cases e; exact ⟨g, sc, rfl, start_get rfl, hsc⟩
    | succ i =>
      rw [List.cons_append, List.getElem?_cons_succ] at e
      by_cases hi : i < ds.length
      · rw [List.getElem?_append_left (by rw [List.length_map]; exact hi), List.getElem?_map, List.getElem?_eq_getElem hi] at e
        cases e
        obtain ⟨v, h1, h2⟩ := ha.get (List.getElem?_eq_getElem hi)
        exact ⟨v, start_get (by rw [List.getElem?_cons_succ]; exact h1), h2⟩
      · rw [List.getElem?_append_right (by rw [List.length_map]; omega), List.getElem?_replicate] at e
        split at e <;> cases e
        trivial
  apart := fun i j si sj a e1 e2 o1 o2 _ _ => by
    have no : ∀ (i : Nat) (si : Slot), (Slot.dr scr :: ds.map Slot.sh ++ List.replicate (N.length - 1 - ds.length) Slot.no)[i]? = some si → si.own = false := fun i si e => by
      cases i with
      | zero => cases e; rfl
      | succ i =>
        rw [List.cons_append, List.getElem?_cons_succ] at e
        by_cases hi : i < ds.length
        · rw [List.getElem?_append_left (by rw [List.length_map]; exact hi), List.getElem?_map, List.getElem?_eq_getElem hi] at e
          cases e
          rfl
        · rw [List.getElem?_append_right (by rw [List.length_map]; omega), List.getElem?_replicate] at e
          split at e <;> cases e
          rfl
    rw [no i si e1] at o1
    cases o1
  dr := fun g' sc' e => by
    cases e
    exact ⟨hg, hg2, by show H g ≠ none; rw [hg]; intro z; cases z⟩
  len := by
    rw [start_len (by rw [List.length_cons, ha.len]; exact hl), List.length_append, List.length_cons, List.length_map, List.length_replicate]
    omega
/-- THE RULE for a def whose first parameter is the draw list -/
theorem fn_draw (hZ : Z.K = K) (M : MokT P w K mg base Z T k) {x qual dn : Str} {params : Arguments} {body : List Stmt} {scope : Scope} {f : Addr} {fd : FuncData} {N ps : List Str} {ow od st : List Str} {il : List IS} {F : D → List D → Int → Option (D × Int)}
    (FD : FunD K x qual params body scope [] [] f fd) (S : FnScope N (dn :: ps) scope) (hc : Reads N scope T ow od st (some dn) none body il) (hF : ∀ scr ds c d c1, F scr ds c = some (d, c1) → ds.length = ps.length → callDr N.length il scr ds c = some (d, c1)) :
    FnOk P w K mg base CX0 (k + 1) f fd (dn :: ps) (spF Z (.draw ps.length F)) := by
  refine FD.ok S (fun vs H Q E h => ?_) (fun cdv A outer s H vs Q E hr h => ?_)
  · obtain ⟨_, _, _, _, _, _, _, _, _, rfl, h, _⟩ := h
    rw [List.length_cons, List.length_cons, h]
  · obtain ⟨g, sc, S0, c, scr, vs1, ds, d, c1, rfl, hl, hg, hg2, hs, hsc, ha, hd, q⟩ := h
    have C := cok_of (H0 := H) (S0 := S0) (dg := some (g, sc)) (ow := ow) (od := od) (st := st) (dr := some dn) (sf := none) (sa := none) (outer := outer) (H := H) (E := E) hZ M S hr
    refine ⟨_, (compS_ok srt_ok C 30 hc).nox, ?_⟩
    have hlen : ds.length = ps.length := by rw [← ha.len, hl]
    have hcall := hF scr ds c d c1 hd hlen
    unfold callDr at hcall
    have hsl := scope_len S
    rw [List.length_cons] at hsl
    have R := rel_startD (w := w) (N := N) hs hg hg2 hsc ha (by rw [hlen]; exact hsl)
    cases hrun : IS.runs il (.dr scr :: ds.map .sh ++ List.replicate (N.length - 1 - ds.length) .no) c with
    | none => rw [hrun] at hcall; cases hcall
    | some o =>
      rw [hrun] at hcall
      refine ⟨_, c, o, hrun, S0, R, ?_⟩
      cases o with
      | rt d' c' => cases hcall; exact fun v H1 S1 x1 d1 a1 => q v H1 S1 x1 (d1 g sc rfl).1 a1
      | nx ρ c' => cases hcall; exact fun σ H1 S1 R1 _ => q _ H1 S1 R1.ext (R1.dr g sc rfl).1 .non
      | bk ρ c' => cases hcall
      | ct ρ c' => cases hcall
/-- THE RULE for a class's __init__ -/
theorem fn_init (hZ : Z.K = K) (M : MokT P w K mg base Z T k) {x qual sn c : Str} {params : Arguments} {body : List Stmt} {scope : Scope} {f : Addr} {fd : FuncData} {N ps : List Str} {ow od st : List Str} {il : List IS} {F : List D → Option (List Str × List D)}
    (FD : FunD K x qual params body scope [] [] f fd) (S : FnScope N (sn :: ps) scope) (hc : Reads N scope T ow od st none (some sn) body il) (hF : ∀ ds q, F ds = some q → ds.length = ps.length → callI N.length il c ds = some q) :
    FnOk P w K mg base CX0 (k + 1) f fd (sn :: ps) (spI Z c ps.length F) := by
  refine FD.ok S (fun vs H Q E h => ?_) (fun cdv A outer s H vs Q E hr h => ?_)
  · obtain ⟨_, _, _, _, _, _, _, rfl, h, _⟩ := h
    rw [List.length_cons, List.length_cons, h]
  · obtain ⟨a, dx, S0, vs1, ds, es, fs, rfl, hl, hx, hx2, hs, ha, hd, q⟩ := h
    have hlen : ds.length = ps.length := by rw [← ha.len, hl]
    have hcall := hF ds _ hd hlen
    unfold callI at hcall
    have hsl := scope_len S
    rw [List.length_cons] at hsl
    have hH0 : ∀ b o, (fun b => if b = a then none else H b) b = some o → H b = some o ∧ b ≠ a := fun b o e => by
      by_cases w : b = a
      · rw [w] at e; simp at e
      · exact ⟨by simpa [w] using e, w⟩
    have hS0 : Sub S0 (fun b => if b = a then none else H b) := fun b o e => by
      have w : b ≠ a := ne_of_none e hx2
      simpa [w] using hs b o e
    have C := cok_of (H0 := fun b => if b = a then none else H b) (S0 := S0) (dg := none) (ow := ow) (od := od) (st := st) (dr := none) (sf := some sn) (sa := some a) (outer := outer) (H := H) (E := E) hZ M S hr
    refine ⟨_, (compS_ok srt_ok C 30 hc).nox, ?_⟩
    have R : Rel ⟨Z, w, none, fun b => if b = a then none else H b, S0, some a⟩ (L2.start N (.ref a :: vs1)) H S0 (.ob c [] [] :: ds.map .sh ++ List.replicate (N.length - 1 - ds.length) .no) 0 := by
      refine ⟨⟨fun b o _ e => (hH0 b o e).1, fun b e e' => ?_, Sub.refl S0, fun b e _ => e, hs⟩, fun i sl e => ?_, fun i j si sj u e1 e2 o1 o2 _ _ => ?_, fun g sc e => (by cases e), ?_⟩
      · refine e ?_
        by_cases w : b = a
        · simp [w]
        · simpa [w] using e'
      · cases i with
        | zero => cases e; exact ⟨a, dx, [], rfl, start_get rfl, hx, hx2, by simp, rfl, .nil⟩
        | succ i =>
          rw [List.cons_append, List.getElem?_cons_succ] at e
          by_cases hi : i < ds.length
          · rw [List.getElem?_append_left (by rw [List.length_map]; exact hi), List.getElem?_map, List.getElem?_eq_getElem hi] at e
            cases e
            obtain ⟨v, h1, h2⟩ := ha.get (List.getElem?_eq_getElem hi)
            exact ⟨v, start_get (by rw [List.getElem?_cons_succ]; exact h1), h2⟩
          · rw [List.getElem?_append_right (by rw [List.length_map]; omega), List.getElem?_replicate] at e
            split at e <;> cases e
            trivial
      · have no : ∀ (i : Nat) (si : Slot), (Slot.ob c [] [] :: ds.map Slot.sh ++ List.replicate (N.length - 1 - ds.length) Slot.no)[i]? = some si → si.own = true → i = 0 := fun i si e o => by
          cases i with
          | zero => rfl
          | succ i =>
            rw [List.cons_append, List.getElem?_cons_succ] at e
            by_cases hi : i < ds.length
            · rw [List.getElem?_append_left (by rw [List.length_map]; exact hi), List.getElem?_map, List.getElem?_eq_getElem hi] at e
              cases e
              cases o
            · rw [List.getElem?_append_right (by rw [List.length_map]; omega), List.getElem?_replicate] at e
              split at e <;> cases e
              cases o
        rw [no i si e1 o1, no j sj e2 o2]
      · rw [start_len (by rw [List.length_cons, ha.len, hlen]; exact hsl), List.length_append, List.length_cons, List.length_map, List.length_replicate, hlen]
        omega
    cases hrun : IS.runs il (.ob c [] [] :: ds.map .sh ++ List.replicate (N.length - 1 - ds.length) .no) 0 with
    | none => rw [hrun] at hcall; cases hcall
    | some o =>
      rw [hrun] at hcall
      refine ⟨_, 0, o, hrun, S0, R, ?_⟩
      cases o with
      | nx ρ c1 =>
        dsimp only at hcall
        split at hcall
        · rename_i k1 fs1 es1 e1
          split at hcall <;> cases hcall
          rename_i hk1
          subst hk1
          refine fun σ H1 S1 R1 _ => ?_
          obtain ⟨b, dx', ws, g0, g1, g2, g3, g4, g5, g6⟩ := R1.slot 0 _ e1
          have hab : b = a := (Option.some.inj g0).symm
          subst hab
          have hin : ∀ u o, u ≠ b → H u = some o → (fun y => if y = b then none else H y) u = some o := fun u o w e => by simpa [w] using e
          refine q H1 S1 ws dx' ⟨fun u o w e => R1.ext.kp u o (by intro z; cases z) (hin u o (fun z => w (by rw [z])) e), fun u e => ?_, R1.ext.ss, fun u e e' => ?_, R1.ext.sub⟩ g2 g5 g6
          · by_cases w : u = b
            · subst w; rw [g2]; intro z; cases z
            · refine R1.ext.st u ?_
              simpa [w] using e
          · by_cases w : u = b
            · subst w; exact g3
            · refine R1.ext.no u e ?_
              simpa [w] using e'
        · cases hcall
      | rt d' c' => cases hcall
      | bk ρ c => cases hcall
      | ct ρ c => cases hcall
/-- the law's promise: of a list of at most 63 ints it gives True -/
def spLaw (K : PySem.W.Frag) : Sp := fun vs H Q _ => ∃ (a : Addr) (ns : List Int), vs = [.ref a] ∧ SqL K H a (ns.map V.int) ∧ ns.length ≤ 63 ∧ ∀ H', Q (.bl true) H'
theorem set_start {N : List Str} {a : Addr} {g : Addr} (h : 2 ≤ N.length) : (L2.start N [.ref a]).set 1 (some (.ref g)) = some (.ref a) :: some (.ref g) :: List.replicate (N.length - 2) none := by
  obtain ⟨n, hn⟩ : ∃ n, N.length = n + 2 := ⟨N.length - 2, by omega⟩
  unfold L2.start
  rw [hn]
  show (some (V.ref a) :: List.replicate (n + 1) none).set 1 (some (.ref g)) = _
  rw [List.replicate_succ, List.set_cons_succ, List.set_cons_zero]
  rfl
/-- THE RULE for the law's def: its first statement lays the draw list -/
theorem fn_law (hZ : Z.K = K) (M : MokT P w K mg base Z T k) {x qual dn sn : Str} {params : Arguments} {rest : List Stmt} {scope : Scope} {f : Addr} {fd : FuncData} {N : List Str} {ow od st : List Str} {il : List IS} {p1 p2 p3 p4 p5 : Pos} {j : Nat}
    (FD : FunD K x qual params (.Assign [.Name dn p1] (.List [.Name sn p2, .Constant (.int 0) j p3] p4) p5 :: rest) scope [] [] f fd) (S : FnScope N [sn] scope) (hN0 : ixOf N sn = some 0) (hN1 : ixOf N dn = some 1) (hv : (visB scope sn && okN sn) = true) (hl : locB scope dn = true)
    (hc : Reads N scope T ow od st (some dn) none rest il) (hrun : ∀ ns : List Int, ns.length ≤ 63 → ∃ c, IS.runs il (.sh (.lst (ns.map .int)) :: .dr (.lst (ns.map .int)) :: List.replicate (N.length - 2) .no) 0 = some (.rt (.bl true) c)) :
    FnOk P w K mg base CX0 (k + 1) f fd [sn] (spLaw K) := by
  have hN2 : 2 ≤ N.length := (List.getElem?_eq_some_iff.mp (ixOf_ok hN1)).1
  refine FD.ok S (fun vs H Q E h => ?_) (fun cdv A outer s H vs Q E hr h => ?_)
  · obtain ⟨a, ns, rfl, _⟩ := h
    rfl
  · obtain ⟨a, ns, rfl, hS, hlen, q⟩ := h
    have hd1 : PS (cxOf CX0 P w K mg base N qual scope f cdv A outer s H E).nox (.Assign [.Name dn p1] (.List [.Name sn p2, .Constant (.int 0) j p3] p4) p5) (tAsg (tLst (tCons (tVar 0) (tCons (tC (.int 0)) tNil))) (gName 1)) := by
      have C := cok_of (H0 := H) (S0 := H) (dg := none) (ow := ow) (od := od) (st := st) (dr := some dn) (sf := none) (sa := none) (outer := outer) (H := H) (E := E) hZ M S hr
      refine ps_set S.nd (ixOf_ok hN1) (loc_ok hl) (pe_lst (pa_cons (pe_nm C hN0 hv) (pa_cons pe_int pa_nil))) rfl (.inl rfl)
    -- the rest of the body runs where the draw list lies
    have hrest : PSs (cxOf CX0 P w K mg base N qual scope f cdv A outer s H E).nox rest (fun D σ H1 => ∃ g, H g = none ∧ σ = some (.ref a) :: some (.ref g) :: List.replicate (N.length - 2) none ∧ H1 = upd H g (.lst [.ref a, .int 0]) ∧ ∀ H', D.rt (.bl true) H') := by
      refine ⟨fun pins sh σ H1 D I ⟨g, hg, e1, e2, hk⟩ => ?_⟩
      subst e1
      subst e2
      have C := cok_of (H0 := upd H g (.lst [.ref a, .int 0])) (S0 := H) (dg := some (g, a)) (ow := ow) (od := od) (st := st) (dr := some dn) (sf := none) (sa := none) (outer := outer) (H := H) (E := E) hZ M S hr
      refine (compS_ok srt_ok C 30 hc).run pins sh _ _ D I ?_
      obtain ⟨c, hc1⟩ := hrun ns hlen
      have hat : At Z H (.ref a) (.lst (ns.map .int)) := .lst (by rw [hZ]; exact hS) (Ats.of_ints ns)
      have hsub : Sub H (upd H g (.lst [.ref a, .int 0])) := fun b o e => by rw [upd_ne (ne_of_none e hg)]; exact e
      have R : Rel ⟨Z, w, some (g, a), upd H g (.lst [.ref a, .int 0]), H, none⟩ (some (.ref a) :: some (.ref g) :: List.replicate (N.length - 2) none) (upd H g (.lst [.ref a, .int 0])) H (.sh (.lst (ns.map .int)) :: .dr (.lst (ns.map .int)) :: List.replicate (N.length - 2) .no) 0 := by
        refine ⟨Ext.refl hsub, fun i sl e => ?_, fun i j si sj u e1 e2 o1 o2 _ _ => ?_, fun g' sc' e => ?_, by simp⟩
        · match i with
          | 0 => cases e; exact ⟨_, rfl, hat⟩
          | 1 => cases e; exact ⟨g, a, rfl, rfl, hat⟩
          | i + 2 =>
            rw [List.getElem?_cons_succ, List.getElem?_cons_succ, List.getElem?_replicate] at e
            split at e <;> cases e
            trivial
        · match i with
          | 0 => cases e1; cases o1
          | 1 => cases e1; cases o1
          | i + 2 =>
            rw [List.getElem?_cons_succ, List.getElem?_cons_succ, List.getElem?_replicate] at e1
            split at e1 <;> cases e1
            cases o1
        · cases e
          exact ⟨upd_same, hg, by show upd H g _ g ≠ none; rw [upd_same]; intro z; cases z⟩
      refine ⟨_, 0, _, hc1, H, R, fun v H2 S2 _ _ a2 => ?_⟩
      rw [a2.bl_inv]
      exact hk H2
    refine ⟨_, (pss_cons hd1 hrest).nox, ?_⟩
    refine ⟨.ref a, start_get rfl, by show 2 ≤ sizeLine; decide, fun g hg => ?_⟩
    exact ⟨g, hg, set_start hN2, rfl, q⟩
/-- one def more -/
theorem Mok.more (M : MokT P w K mg base Z T k) {x : Str} {f : Fn} {a : Addr} {fd : FuncData} {ps : List Str} (h1 : mg x = some (.ref a)) (h2 : PySem.W.keepIn K (.ref a) = true) (h3 : Binds K fd ps []) (h4 : FnOk P w K mg base CX0 (k + 1) a fd ps (spF Z f)) : MokT P w K mg base Z { T with fs := (x, f) :: T.fs } (k + 2) where
  fn := fun y g h => by
    have h : List.lookup y ((x, f) :: T.fs) = some g := h
    rw [List.lookup_cons] at h
    split at h
    · rename_i e
      cases h
      have e' : y = x := by simpa using e
      subst e'
      exact ⟨a, fd, ps, k + 1, h1, h2, h3, h4, Nat.le_refl _⟩
    · obtain ⟨a, fd, ps, k', g1, g2, g3, g4, g5⟩ := M.fn y g h
      exact ⟨a, fd, ps, k', g1, g2, g3, g4, by omega⟩
  cn := M.cn
  bl := M.bl
  fl := M.fl
  mt := fun m c n F h => by
    obtain ⟨a, fd, ps, k', g1, g2, g3, g4, g5⟩ := M.mt m c n F h
    exact ⟨a, fd, ps, k', g1, g2, g3, g4, by omega⟩
  cl := fun c n F h => by
    obtain ⟨f, fd, ps, k', g1, g2, g3, g4, g5⟩ := M.cl c n F h
    exact ⟨f, fd, ps, k', g1, g2, g3, g4, by omega⟩
  kc := M.kc
  lv := by have := M.lv; omega
/-- one method more -/
theorem Mok.moreM (M : MokT P w K mg base Z T k) {m c : Str} {n : Nat} {F : List D → Option D} {a : Addr} {fd : FuncData} {ps : List Str} (h1 : Cls K (Z.cl c)) (h2 : Meth K (Z.cl c) m a) (h3 : Binds K fd ps []) (h4 : FnOk P w K mg base CX0 (k + 1) a fd ps (spF Z (.pure n F))) : MokT P w K mg base Z { T with ms := (m, c, .pure n F) :: T.ms } (k + 2) where
  fn := fun y g h => by
    obtain ⟨a, fd, ps, k', g1, g2, g3, g4, g5⟩ := M.fn y g h
    exact ⟨a, fd, ps, k', g1, g2, g3, g4, by omega⟩
  cn := M.cn
  bl := M.bl
  fl := M.fl
  mt := fun m' c' n' F' h => by
    have h : (c', Fn.pure n' F') ∈ mtOf ((m, c, .pure n F) :: T.ms) m' := h
    unfold mtOf at h
    rw [List.filter_cons] at h
    split at h
    · rename_i e
      rw [List.map_cons] at h
      rcases List.mem_cons.mp h with h' | h'
      · have e' : m = m' := by simpa using e
        subst e'
        have h2' : (c', Fn.pure n' F') = (c, Fn.pure n F) := h'
        cases h2'
        exact ⟨a, fd, ps, k + 1, h1, h2, h3, h4, Nat.le_refl _⟩
      · obtain ⟨a, fd, ps, k', g1, g2, g3, g4, g5⟩ := M.mt m' c' n' F' h'
        exact ⟨a, fd, ps, k', g1, g2, g3, g4, by omega⟩
    · obtain ⟨a, fd, ps, k', g1, g2, g3, g4, g5⟩ := M.mt m' c' n' F' h
      exact ⟨a, fd, ps, k', g1, g2, g3, g4, by omega⟩
  cl := fun c n F h => by
    obtain ⟨f, fd, ps, k', g1, g2, g3, g4, g5⟩ := M.cl c n F h
    exact ⟨f, fd, ps, k', g1, g2, g3, g4, by omega⟩
  kc := M.kc
  lv := by have := M.lv; omega
/-- one class more -/
theorem Mok.moreC (M : MokT P w K mg base Z T k) {c : Str} {n : Nat} {F : List D → Option (List Str × List D)} {f : Addr} {fd : FuncData} {ps : List Str} (h1 : mg c = some (.ref (Z.cl c))) (h2 : Mk K (Z.cl c) f) (h3 : Binds K fd ps []) (h4 : FnOk P w K mg base CX0 (k + 1) f fd ps (spI Z c n F)) : MokT P w K mg base Z { T with cl := (c, n, F) :: T.cl } (k + 2) where
  fn := fun y g h => by
    obtain ⟨a, fd, ps, k', g1, g2, g3, g4, g5⟩ := M.fn y g h
    exact ⟨a, fd, ps, k', g1, g2, g3, g4, by omega⟩
  cn := M.cn
  bl := M.bl
  fl := M.fl
  mt := fun m c n F h => by
    obtain ⟨a, fd, ps, k', g1, g2, g3, g4, g5⟩ := M.mt m c n F h
    exact ⟨a, fd, ps, k', g1, g2, g3, g4, by omega⟩
  cl := fun c' n' F' h => by
    have h : List.lookup c' ((c, n, F) :: T.cl) = some (n', F') := h
    rw [List.lookup_cons] at h
    split at h
    · rename_i e
      cases h
      have e' : c' = c := by simpa using e
      subst e'
      exact ⟨f, fd, ps, k + 1, h1, h2, h3, h4, Nat.le_refl _⟩
    · obtain ⟨f, fd, ps, k', g1, g2, g3, g4, g5⟩ := M.cl c' n' F' h
      exact ⟨f, fd, ps, k', g1, g2, g3, g4, by omega⟩
  kc := M.kc
  lv := by have := M.lv; omega
/-- the own classes that isinstance is asked of -/
theorem Mok.moreK (M : MokT P w K mg base Z T k) {ks : List Str} (h : ∀ c ∈ ks, mg c = some (.ref (Z.cl c)) ∧ C8.InsC K (Z.cl c) ∧ ∀ c' ∈ ks, PySem.W.kitOne K (.ref (Z.cl c')) (.ref (Z.cl c)) = some (decide (c' = c))) : MokT P w K mg base Z { T with kc := ks } k :=
  { fn := M.fn, cn := M.cn, bl := M.bl, fl := M.fl, mt := M.mt, cl := M.cl, kc := h, lv := M.lv }
end
end Rf

/-! Rf, part M: the head: defs by name, constants of plain data; a law's end. -/
namespace Rf
open PySem PySem.Spec L2

mutual
/-- the value stands for the datum, off the written part -/
def dB (K : PySem.W.Frag) : Value → D → Bool
  | .none, .non => true
  | .bool b, .bl b' => decide (b = b')
  | .int i _, .int j => decide (i = j)
  | .str s _, .str s' => decide (s = s')
  | .ref a, .tup ds => match K.lookup a with
    | some ⟨.type c, _, .seq its _, _⟩ => decide (c = "tuple") && (decide (its.size ≤ sizeLine) && dBs K its.toList ds)
    | _ => false
  | .ref a, .lst ds => match K.lookup a with
    | some ⟨.type c, none, .seq its _, _⟩ => decide (c = "list") && (decide (its.size ≤ sizeLine) && dBs K its.toList ds)
    | _ => false
  | _, _ => false
def dBs (K : PySem.W.Frag) : List Value → List D → Bool
  | [], [] => true
  | v :: vs, d :: ds => dB K v d && dBs K vs ds
  | _, _ => false
end
theorem and2 {a b : Bool} (h : (a && b) = true) : a = true ∧ b = true := Bool.and_eq_true_iff.mp h
mutual
theorem dB_ok {K : PySem.W.Frag} : ∀ {d : D} {v : Value}, dB K v d = true → ∃ u : V, RelV u v ∧ ∀ Z : KC, Z.K = K → ∀ S, At Z S u d
  | .non, v, h => by
    unfold dB at h
    cases v <;> first | exact ⟨.non, rfl, fun _ _ _ => .non⟩ | cases h
  | .bl b, v, h => by
    unfold dB at h
    cases v <;> first | (cases of_decide_eq_true h; exact ⟨.bl _, rfl, fun _ _ _ => .bl _⟩) | cases h
  | .int i, v, h => by
    unfold dB at h
    cases v <;> first | (cases of_decide_eq_true h; exact ⟨.int _, ⟨_, rfl⟩, fun _ _ _ => .int _⟩) | cases h
  | .str s, v, h => by
    unfold dB at h
    cases v <;> first | (cases of_decide_eq_true h; exact ⟨.str _, ⟨_, rfl⟩, fun _ _ _ => .str _⟩) | cases h
  | .tup ds, v, h => by
    unfold dB at h
    cases v with
    | ref a =>
      dsimp only at h
      cases q : K.lookup a with
      | none => rw [q] at h; cases h
      | some o =>
        obtain ⟨oc, od, dt, osl⟩ := o
        rw [q] at h
        cases oc with
        | type c =>
          cases dt with
          | seq its n =>
            obtain ⟨h1, h2⟩ := and2 (show (decide (c = "tuple") && (decide (its.size ≤ sizeLine) && dBs K its.toList ds)) = true from h)
            obtain ⟨h3, h4⟩ := and2 h2
            obtain ⟨us, r, a1⟩ := dBs_ok h4
            exact ⟨.ref a, rfl, fun Z hZ S => .tup (.inr ⟨_, its, n, by rw [hZ]; exact q, congrArg Value.type (of_decide_eq_true h1), rfl, of_decide_eq_true h3, r⟩) (a1 Z hZ S)⟩
          | _ => cases h
        | _ => cases dt <;> cases h
    | _ => cases h
  | .lst ds, v, h => by
    unfold dB at h
    cases v with
    | ref a =>
      dsimp only at h
      cases q : K.lookup a with
      | none => rw [q] at h; cases h
      | some o =>
        obtain ⟨oc, od, dt, osl⟩ := o
        rw [q] at h
        cases oc with
        | type c =>
          cases od with
          | none =>
            cases dt with
            | seq its n =>
              obtain ⟨h1, h2⟩ := and2 (show (decide (c = "list") && (decide (its.size ≤ sizeLine) && dBs K its.toList ds)) = true from h)
              obtain ⟨h3, h4⟩ := and2 h2
              obtain ⟨us, r, a1⟩ := dBs_ok h4
              exact ⟨.ref a, rfl, fun Z hZ S => .lst (.inr ⟨_, its, n, by rw [hZ]; exact q, congrArg Value.type (of_decide_eq_true h1), rfl, rfl, of_decide_eq_true h3, r⟩) (a1 Z hZ S)⟩
            | _ => cases h
          | some b => cases dt <;> cases h
        | _ => cases od <;> cases dt <;> cases h
    | _ => cases h
  | .obj _ _ _, v, h => by unfold dB at h; cases v <;> cases h
  | .dic _ _, v, h => by unfold dB at h; cases v <;> cases h
  | .tpx _, v, h => by unfold dB at h; cases v <;> cases h
  | .dio _ _, v, h => by unfold dB at h; cases v <;> cases h
theorem dBs_ok {K : PySem.W.Frag} : ∀ {ds : List D} {vs : List Value}, dBs K vs ds = true → ∃ us : List V, Vals us vs ∧ ∀ Z : KC, Z.K = K → ∀ S, Ats Z S us ds
  | [], [], _ => ⟨[], .nil, fun _ _ _ => .nil⟩
  | [], _ :: _, h => by unfold dBs at h; cases h
  | _ :: _, [], h => by unfold dBs at h; cases h
  | d :: ds, v :: vs, h => by
    unfold dBs at h
    obtain ⟨h1, h2⟩ := and2 h
    obtain ⟨u, r, a⟩ := dB_ok h1
    obtain ⟨us, rs, as⟩ := dBs_ok h2
    exact ⟨u :: us, .cons r rs, fun Z hZ S => .cons (a Z hZ S) (as Z hZ S)⟩
end
def csB (cs : List (Str × D)) (K : PySem.W.Frag) : Bool := cs.all fun q => match PySem.W.nsIn K mainGlobals q.1 with
  | some (some v) => dB K v q.2
  | _ => false
theorem lookup_mem {α : Type} {x : Str} {d : α} : ∀ {cs : List (Str × α)}, cs.lookup x = some d → (x, d) ∈ cs
  | [], h => by cases h
  | (y, e) :: cs, h => by
    rw [List.lookup_cons] at h
    split at h
    · rename_i q
      cases h
      have : x = y := by simpa using q
      subst this
      exact List.mem_cons_self
    · exact List.mem_cons_of_mem _ (lookup_mem h)
theorem cs_ok {K : PySem.W.Frag} {h : Heap} {mg : Str → Option Value} {cs : List (Str × D)} (X : K.In h) (G : h.Ns mainGlobals mg) (c : csB cs K = true) {x : Str} {d : D} (e : cs.lookup x = some d) : ∃ v u, mg x = some u ∧ RelV v u ∧ ∀ Z : KC, Z.K = K → ∀ S, At Z S v d := by
  have := List.all_eq_true.mp c (x, d) (lookup_mem e)
  split at this
  · rename_i v hv
    obtain ⟨u, r, a⟩ := dB_ok this
    exact ⟨u, v, PySem.W.mg_of X G hv, r, a⟩
  · cases this
/-- the own classes that isinstance is asked of -/
def insB (K : PySem.W.Frag) (c : Str) : Bool := decide (PySem.W.findIn K (.ref (He.ga K c)) "__class__" = some (some (.builtin "object.__class__"))) && (decide (PySem.W.specialIn K (.builtin "object.__class__") "__get__" = some (some (.builtin "getset_descriptor.__get__"))) &&
  (decide (PySem.W.takesIn K (.builtin "object.__class__") = some true) && (decide (PySem.W.mroIn K (He.ga K c) (.type "object") = some true) && decide (PySem.W.kitOne K (.ref (He.ga K c)) (.ref (He.ga K c)) = some true))))
def kcB (ks : List Str) (K : PySem.W.Frag) : Bool := ks.all fun c => insB K c && ks.all fun c' => decide (PySem.W.kitOne K (.ref (He.ga K c')) (.ref (He.ga K c)) = some (decide (c' = c)))
theorem kc_ok {K : PySem.W.Frag} {ks : List Str} (h : kcB ks K = true) {c : Str} (hc : c ∈ ks) (cl : Cls K (He.ga K c)) : C8.InsC K (He.ga K c) ∧ ∀ c' ∈ ks, PySem.W.kitOne K (.ref (He.ga K c')) (.ref (He.ga K c)) = some (decide (c' = c)) := by
  have h1 := List.all_eq_true.mp h c hc
  obtain ⟨h2, h3⟩ := and2 h1
  unfold insB at h2
  obtain ⟨i1, h2⟩ := and2 h2
  obtain ⟨i2, h2⟩ := and2 h2
  obtain ⟨i3, h2⟩ := and2 h2
  obtain ⟨i4, i5⟩ := and2 h2
  exact ⟨⟨cl, of_decide_eq_true i1, of_decide_eq_true i2, of_decide_eq_true i3, of_decide_eq_true i4, of_decide_eq_true i5⟩, fun c' hc' => of_decide_eq_true (List.all_eq_true.mp h3 c' hc')⟩
def hookR (n : Nat) (fa : List He.Fa) (fn : List He.DefD) (cs : List (Str × D)) : PySem.W.Hook where
  α := He.AlD × Bool
  obs := fun s => (He.obsD fa fn (He.frG s.heap.get? (He.asD s.heap.get? n)), csB cs (He.frG s.heap.get? (He.asD s.heap.get? n)))
  val := fun _ => (He.valD fn, true)
  says := fun _ h => ∃ K : PySem.W.Frag, K.In h ∧ He.SaysD fa fn K ∧ csB cs K = true
  of := fun _ s e => ⟨He.frG s.heap.get? (He.asD s.heap.get? n), He.frG_in, congrArg (fun z : He.AlD × Bool => z.1) e, congrArg (fun z : He.AlD × Bool => z.2) e⟩
  keeps := fun _ _ _ ⟨K, hK, c⟩ k => ⟨K, PySem.W.Frag.In.keeps hK k, c⟩
def obR (n : Nat) (fa : List He.Fa) (fn : List He.DefD) (cs : List (Str × D)) (s : PySem.W.SharedT) : He.AlD × Bool :=
  match He.frG (HandSHeadRun.getT s) (He.asD (HandSHeadRun.getT s) n) with
  | K => (He.obsD fa fn K, csB cs K)
theorem obR_eq {n : Nat} {fa : List He.Fa} {fn : List He.DefD} {cs : List (Str × D)} (s : PySem.W.SharedT) : obR n fa fn cs s = (hookR n fa fn cs).obs s.abs := by
  have e : HandSHeadRun.getT s = s.abs.heap.get? := funext (HandSHeadRun.getT_eq s)
  unfold obR
  rw [e]
  rfl
theorem fact_mem {fa : List He.Fa} {fn : List He.DefD} {K : PySem.W.Frag} (c : He.SaysD fa fn K) {f : He.Fa} (h : f ∈ fa) : f.ok K = true := by
  obtain ⟨i, hi⟩ := List.getElem?_of_mem h
  exact c.fact i hi

section
variable {P : Program} {w : World} {K : PySem.W.Frag} {mg : Str → Option Value} {base : Heap} {T : Tab} {k : Nat}
/-- the written part, where the classes stand -/
abbrev ZK (K : PySem.W.Frag) : KC := ⟨K, fun c => He.ga K c, fun _ => []⟩
/-- where nothing is told yet -/
theorem mok_start {fa : List He.Fa} {fn : List He.DefD} {h : Heap} {cs : List (Str × D)} {fl : List (Str × List Str)} (X : K.In h) (G : h.Ns mainGlobals mg) (c : He.SaysD fa fn K) (cc : csB cs K = true) (hb : ∀ x ∈ blts, He.Fa.free x ∈ fa)
    (hf : ∀ f k, k ∈ flOf fl f → He.Fa.cls k ∈ fa ∧ He.Fa.noat k f ∈ fa) : MokT P w K mg base (ZK K) ⟨[], cs, [], fl, [], []⟩ 2 where
  fn := fun x f h => by cases h
  cn := fun x d e => by
    obtain ⟨v, u, h1, h2, h3⟩ := cs_ok X G cc e
    exact ⟨v, u, h1, h2, h3 (ZK K) rfl⟩
  bl := fun x hx => He.free_ok X G (fact_mem c (hb x hx))
  fl := fun f k hk => ⟨He.cls_ok (fact_mem c (hf f k hk).1), He.noat_ok (fact_mem c (hf f k hk).2)⟩
  mt := fun m c n F h => by cases h
  cl := fun c n F h => by cases h
  kc := fun c h => by cases h
  lv := Nat.le_refl _
/-- a def that draws nothing -/
theorem mok_pure (M : MokT P w K mg base (ZK K) T k) {x : Str} {d : He.DefD} {f : Addr} {fd : FuncData} {N ps : List Str} {ow od st : List Str} {il : List IS} {F : List D → Option D}
    (FD : FunD K d.name d.qual d.params d.body d.scope [] [] f fd) (g : mg x = some (.ref f)) (S : FnScope N ps d.scope)
    (hb : ∀ (kV doc pm : Value) (an : Option Addr) (cdv ct : Value) (us : List Value), us.length = ps.length → bindArgs (PySem.W.fnOf d.name d.qual d.params d.body d.scope .none kV doc pm an cdv ct) ⟨us, []⟩ = pure (ps.zip us))
    (hc : Reads N d.scope T ow od st none none d.body il) (hF : ∀ ds e, F ds = some e → ds.length = ps.length → callP N.length il ds = some e) : MokT P w K mg base (ZK K) { T with fs := (x, .pure ps.length F) :: T.fs } (k + 2) :=
  Mok.more M g FD.kp (FD.bindsN hb) (fn_pure (K := K) (Z := ZK K) rfl M FD S hc hF)
/-- a def that draws -/
theorem mok_draw (M : MokT P w K mg base (ZK K) T k) {x dn : Str} {d : He.DefD} {f : Addr} {fd : FuncData} {N ps : List Str} {ow od st : List Str} {il : List IS} {F : D → List D → Int → Option (D × Int)}
    (FD : FunD K d.name d.qual d.params d.body d.scope [] [] f fd) (g : mg x = some (.ref f)) (S : FnScope N (dn :: ps) d.scope)
    (hb : ∀ (kV doc pm : Value) (an : Option Addr) (cdv ct : Value) (us : List Value), us.length = (dn :: ps).length → bindArgs (PySem.W.fnOf d.name d.qual d.params d.body d.scope .none kV doc pm an cdv ct) ⟨us, []⟩ = pure ((dn :: ps).zip us))
    (hc : Reads N d.scope T ow od st (some dn) none d.body il) (hF : ∀ scr ds c e c1, F scr ds c = some (e, c1) → ds.length = ps.length → callDr N.length il scr ds c = some (e, c1)) : MokT P w K mg base (ZK K) { T with fs := (x, .draw ps.length F) :: T.fs } (k + 2) :=
  Mok.more M g FD.kp (FD.bindsN hb) (fn_draw (K := K) (Z := ZK K) rfl M FD S hc hF)
/-- a method; its first parameter is the object -/
theorem mok_meth (M : MokT P w K mg base (ZK K) T k) {m c : Str} {d : He.DefD} {f : Addr} {fd : FuncData} {N ps : List Str} {ow od st : List Str} {il : List IS} {F : List D → Option D}
    (FD : FunD K d.name d.qual d.params d.body d.scope [] [] f fd) (h1 : Cls K (He.ga K c)) (h2 : Meth K (He.ga K c) m f) (S : FnScope N ps d.scope)
    (hb : ∀ (kV doc pm : Value) (an : Option Addr) (cdv ct : Value) (us : List Value), us.length = ps.length → bindArgs (PySem.W.fnOf d.name d.qual d.params d.body d.scope .none kV doc pm an cdv ct) ⟨us, []⟩ = pure (ps.zip us))
    (hc : Reads N d.scope T ow od st none none d.body il) (hF : ∀ ds e, F ds = some e → ds.length = ps.length → callP N.length il ds = some e) : MokT P w K mg base (ZK K) { T with ms := (m, c, .pure ps.length F) :: T.ms } (k + 2) :=
  Mok.moreM M h1 h2 (FD.bindsN hb) (fn_pure (K := K) (Z := ZK K) rfl M FD S hc hF)
/-- a class that is made -/
theorem mok_class (M : MokT P w K mg base (ZK K) T k) {c sn : Str} {d : He.DefD} {f : Addr} {fd : FuncData} {N ps : List Str} {ow od st : List Str} {il : List IS} {F : List D → Option (List Str × List D)}
    (FD : FunD K d.name d.qual d.params d.body d.scope [] [] f fd) (g : mg c = some (.ref (He.ga K c))) (h2 : Mk K (He.ga K c) f) (S : FnScope N (sn :: ps) d.scope)
    (hb : ∀ (kV doc pm : Value) (an : Option Addr) (cdv ct : Value) (us : List Value), us.length = (sn :: ps).length → bindArgs (PySem.W.fnOf d.name d.qual d.params d.body d.scope .none kV doc pm an cdv ct) ⟨us, []⟩ = pure ((sn :: ps).zip us))
    (hc : Reads N d.scope T ow od st none (some sn) d.body il) (hF : ∀ ds q, F ds = some q → ds.length = ps.length → callI N.length il c ds = some q) : MokT P w K mg base (ZK K) { T with cl := (c, ps.length, F) :: T.cl } (k + 2) :=
  Mok.moreC M g h2 (FD.bindsN hb) (fn_init (K := K) (Z := ZK K) rfl M FD S hc hF)
end
end Rf

/-! runs of blocks; what the laws draw: for every law -/
namespace Rf
open PySem PySem.Spec L2
/-- one turn of a for -/
def turnF (g : IG) (b : List IS) : D → List Slot → Int → Option Out := fun d ρ c => match bindG g d ρ with
  | some ρ1 => IS.runs b ρ1 c
  | none => none
theorem runs_for {g : IG} {it : II} {b rest : List IS} {ρ : List Slot} {c c1 : Int} {ds : List D} (h : it.run ρ c = some (ds, c1)) : IS.runs (.for g it b :: rest) ρ c = match forGo (turnF g b) ds ρ c1 with
    | some (.nx ρ1 c1) => IS.runs rest ρ1 c1
    | o => o := by
  have : IS.run (.for g it b) ρ c = forGo (turnF g b) ds ρ c1 := by
    unfold IS.run
    rw [h]
    rfl
  rw [← this]
  rfl
theorem runs_cons {s : IS} {rest : List IS} {ρ ρ1 : List Slot} {c c1 : Int} (h : s.run ρ c = some (.nx ρ1 c1)) : IS.runs (s :: rest) ρ c = IS.runs rest ρ1 c1 := by
  show (match s.run ρ c with
    | some (.nx ρ1 c1) => IS.runs rest ρ1 c1
    | o => o) = _
  rw [h]
theorem runs_ret {s : IS} {rest : List IS} {ρ : List Slot} {d : D} {c c1 : Int} (h : s.run ρ c = some (.rt d c1)) : IS.runs (s :: rest) ρ c = some (.rt d c1) := by
  show (match s.run ρ c with
    | some (.nx ρ1 c1) => IS.runs rest ρ1 c1
    | o => o) = _
  rw [h]
theorem seq_run {e : IE} {ρ : List Slot} {c c1 : Int} {d : D} {k : Bool} {ds : List D} (h1 : e.run ρ c = some (d, c1)) (h2 : seqOf d = some (k, ds)) : (II.seq e).run ρ c = some (ds, c1) := by
  unfold II.run
  rw [h1]
  dsimp only
  rw [h2]
theorem callP_rt {m : Nat} {b : List IS} {ds : List D} {d : D} {c : Int} (h : IS.runs b (ds.map .sh ++ List.replicate (m - ds.length) .no) 0 = some (.rt d c)) : callP m b ds = some d := by
  unfold callP
  rw [h]
/-- the turn of a comprehension -/
def turnL (ρ : List Slot) (own : List Nat) (tg : IG) (t : IT) (e : IE) : D → Int → Option (Option D × Int) := fun d c => match bindG tg d (wipeS ρ own) with
  | some ρ1 => match t.run ρ1 c with
    | some (true, c2) => match e.run ρ1 c2 with
      | some (x, c3) => some (some x, c3)
      | none => none
    | some (false, c2) => some (none, c2)
    | none => none
  | none => none
theorem lc_run {ρ : List Slot} {own : List Nat} {tg : IG} {it : II} {t : IT} {e : IE} {c c1 c2 : Int} {ds l : List D} (h1 : it.run ρ c = some (ds, c1)) (h2 : lcGo (turnL ρ own tg t e) ds c1 = some (l, c2)) (h3 : ds.length ≤ line) : (IE.lc own tg it t e).run ρ c = some (.lst l, c2) := by
  have : (IE.lc own tg it t e).run ρ c = match it.run ρ c with
    | some (ds, c1) => match lcGo (turnL ρ own tg t e) ds c1 with
      | some (l, c2) => if ds.length ≤ line then some (.lst l, c2) else none
      | none => none
    | none => none := by unfold IE.run; rfl
  rw [this, h1]
  dsimp only
  rw [h2]
  dsimp only
  rw [if_pos h3]
/-! ### the law's draws -/
theorem ints_D : ∀ ns : List Int, D.ints (ns.map .int) = some ns
  | [] => rfl
  | n :: ns => by
    show (D.ints (ns.map .int)).map (n :: ·) = _
    rw [ints_D ns]
    rfl
theorem pds_ints : ∀ ns : List Int, D.pds (ns.map .int) = some (ns.map .int)
  | [] => rfl
  | n :: ns => by
    rw [List.map_cons]
    unfold D.pds
    rw [pds_ints ns]
    rfl
theorem lay_ints : ∀ ns : List Int, PyData.canLayAll0 (ns.map .int) = true ∧ PyData.depthAll (ns.map .int) = 0
  | [] => ⟨rfl, rfl⟩
  | n :: ns => by
    obtain ⟨h1, h2⟩ := lay_ints ns
    rw [List.map_cons]
    exact ⟨by unfold PyData.canLayAll0; rw [h1]; rfl, by unfold PyData.depthAll; rw [h2]; rfl⟩
theorem eqv_intsNil (ns : List Int) : D.eqv (.lst (ns.map .int)) (.lst []) = some (decide (ns = [])) := by
  have e : (D.lst (ns.map .int)).pd = some (.list (ns.map .int)) := by
    show (D.pds (ns.map .int)).map _ = _
    rw [pds_ints]
    rfl
  obtain ⟨h1, h2⟩ := lay_ints ns
  have hs : SeqAt.shaped (.list (ns.map .int)) = true := by
    unfold SeqAt.shaped
    rw [Bool.and_eq_true]
    refine ⟨h1, decide_eq_true ?_⟩
    show PyData.depthAll (ns.map .int) + 1 ≤ 64
    omega
  unfold D.eqv
  rw [e]
  show (if SeqAt.shaped (.list (ns.map .int)) = true ∧ SeqAt.shaped (.list []) = true then some (PyData.eqv (.list (ns.map .int)) (.list [])) else none) = _
  rw [if_pos ⟨hs, rfl⟩]
  cases ns <;> rfl
def lawNum (ns : List Int) (i : Int) : Int :=
  if ns = [] then (i * 48271 + 12345) % 2147483647
  else ((((((if (10 : Int) ^ 60 ≤ (if ns.getD (i % ns.length).toNat 0 < 0 then -ns.getD (i % ns.length).toNat 0 else ns.getD (i % ns.length).toNat 0) then ns.getD (i % ns.length).toNat 0 % 10 ^ 18 else ns.getD (i % ns.length).toNat 0) + 977 * i) * 48271 + 31 * ns.length) % 2147483647) * 69621 % 2147483629) * 16807 + i) % 2147483587
def f__law_number : List D → Option D
  | [.lst l, .int i] => (D.ints l).map fun ns => .int (lawNum ns i)
  | _ => none
def il__law_number : List IS := [.iff (.val (.cmp .eq (.var 0) (.lst .nil))) [.ret (.b1 .int (.bin .mod (.bin .add (.bin .mul (.var 1) (.con (.int 48271))) (.con (.int 12345))) (.con (.int 2147483647))))] [],
   .set 2 (.ix (.of (.var 0)) (.bin .mod (.var 1) (.len (.of (.var 0))))),
   .iff (.val (.cmp .ge (.b1 .abs (.var 2)) (.bin .pow (.con (.int 10)) (.con (.int 60))))) [.set 2 (.bin .mod (.var 2) (.bin .pow (.con (.int 10)) (.con (.int 18))))] [],
   .set 3 (.bin .mod (.bin .add (.bin .mul (.bin .add (.var 2) (.bin .mul (.con (.int 977)) (.var 1))) (.con (.int 48271))) (.bin .mul (.con (.int 31)) (.len (.of (.var 0))))) (.con (.int 2147483647))),
   .ret (.b1 .int (.bin .mod (.bin .add (.bin .mul (.bin .mod (.bin .mul (.var 3) (.con (.int 69621))) (.con (.int 2147483629))) (.con (.int 16807))) (.var 1)) (.con (.int 2147483587))))]
theorem atI_mod (ns : List Int) (i : Int) (h : 0 < ns.length) : atI (ns.map D.int) (i % (ns.length : Int)) = some (.int (ns.getD (i % ns.length).toNat 0)) := by
  have h1 : 0 ≤ i % (ns.length : Int) := Int.emod_nonneg _ (by omega)
  have h2 : i % (ns.length : Int) < ns.length := Int.emod_lt_of_pos _ (by omega)
  have h3 : (i % (ns.length : Int)).toNat < ns.length := by omega
  have e : ixN (ns.map D.int).length (i % (ns.length : Int)) = some (i % (ns.length : Int)).toNat := by
    unfold ixN
    rw [if_pos h1, List.length_map, if_pos h2]
  unfold atI
  rw [e]
  show (ns.map D.int)[(i % (ns.length : Int)).toNat]? = _
  rw [List.getElem?_map, List.getElem?_eq_getElem h3, List.getD_eq_getElem?_getD, List.getElem?_eq_getElem h3]
  rfl
theorem r__law_number (ds : List D) (d : D) (h : f__law_number ds = some d) (_ : ds.length = 2) : callP 4 il__law_number ds = some d := by
  match ds, h with
  | [.lst l, .int i], h =>
    obtain ⟨ns, e, rfl⟩ := Option.map_eq_some_iff.mp h
    obtain rfl := ints_ok e
    refine callP_rt (c := 0) ?_
    show IS.runs il__law_number [.sh (.lst (ns.map .int)), .sh (.int i), .no, .no] 0 = _
    unfold il__law_number
    have hmul : ∀ (a b : Int), -(2 ^ 64) < b → b < 2 ^ 64 → binD .mul (.int a) (.int b) = some (.int (a * b)) := fun a b h1 h2 => if_pos (.inr ⟨h1, h2⟩)
    have hmul2 : ∀ (a b : Int), -(2 ^ 64) < a → a < 2 ^ 64 → binD .mul (.int a) (.int b) = some (.int (a * b)) := fun a b h1 h2 => if_pos (.inl ⟨h1, h2⟩)
    have hmod : ∀ (a b : Int), 0 < b → binD .mod (.int a) (.int b) = some (.int (a % b)) := fun a b h1 => if_pos h1
    have hadd : ∀ (a b : Int), binD .add (.int a) (.int b) = some (.int (a + b)) := fun a b => rfl
    have hp60 : binD .pow (.int 10) (.int 60) = some (.int (10 ^ 60)) := rfl
    have hp18 : binD .pow (.int 10) (.int 18) = some (.int (10 ^ 18)) := rfl
    by_cases h0 : ns = []
    · subst h0
      have e1 : lawNum [] i = (i * 48271 + 12345) % 2147483647 := rfl
      rw [e1]
      have e2 : D.eqv (.lst []) (.lst []) = some true := rfl
      simp [IS.runs, IS.run, IT.run, IE.run, IA.run, cmpD, e2, truD, hmul i 48271 (by omega) (by omega), hadd, hmod (i * 48271 + 12345) 2147483647 (by omega), b1D]
    · have hl : 0 < ns.length := List.length_pos_iff.mpr h0
      have e1 : IS.run (.iff (.val (.cmp .eq (.var 0) (.lst .nil))) [.ret (.b1 .int (.bin .mod (.bin .add (.bin .mul (.var 1) (.con (.int 48271))) (.con (.int 12345))) (.con (.int 2147483647))))] []) [.sh (.lst (ns.map .int)), .sh (.int i), .no, .no] 0 = some (.nx [.sh (.lst (ns.map .int)), .sh (.int i), .no, .no] 0) := by
        have e2 := eqv_intsNil ns
        rw [decide_eq_false h0] at e2
        simp [IS.runs, IS.run, IT.run, IE.run, IA.run, cmpD, e2, truD]
      rw [runs_cons e1]
      have e3 : IS.run (.set 2 (.ix (.of (.var 0)) (.bin .mod (.var 1) (.len (.of (.var 0)))))) [.sh (.lst (ns.map .int)), .sh (.int i), .no, .no] 0 = some (.nx [.sh (.lst (ns.map .int)), .sh (.int i), .sh (.int (ns.getD (i % ns.length).toNat 0)), .no] 0) := by
        simp only [IS.run, IE.run, IL.run, List.getElem?_cons_zero, List.getElem?_cons_succ, seqOf, Option.map_some, List.length_map]
        rw [hmod i ns.length (by omega)]
        simp only [Option.map_some]
        rw [atI_mod ns i hl]
        rfl
      rw [runs_cons e3]
      generalize hcell : ns.getD (i % ns.length).toNat 0 = cell
      have e4 : IS.run (.iff (.val (.cmp .ge (.b1 .abs (.var 2)) (.bin .pow (.con (.int 10)) (.con (.int 60))))) [.set 2 (.bin .mod (.var 2) (.bin .pow (.con (.int 10)) (.con (.int 18))))] []) [.sh (.lst (ns.map .int)), .sh (.int i), .sh (.int cell), .no] 0 = some (.nx [.sh (.lst (ns.map .int)), .sh (.int i), .sh (.int (if (10 : Int) ^ 60 ≤ (if cell < 0 then -cell else cell) then cell % 10 ^ 18 else cell)), .no] 0) := by
        have hm := hmod cell (10 ^ 18) (by omega)
        by_cases hc : (10 : Int) ^ 60 ≤ (if cell < 0 then -cell else cell)
        · rw [if_pos hc]
          simp only [IS.runs, IS.run, IT.run, IE.run, b1D, hp60, hp18, cmpD, truD, hc, decide_true, List.getElem?_cons_zero, List.getElem?_cons_succ, Option.map_some, hm, putS]
          rfl
        · rw [if_neg hc]
          simp only [IS.runs, IS.run, IT.run, IE.run, b1D, hp60, hp18, cmpD, truD, hc, decide_false, List.getElem?_cons_zero, List.getElem?_cons_succ, Option.map_some, hm, putS]
      rw [runs_cons e4]
      have e5 : lawNum ns i = ((((((if (10 : Int) ^ 60 ≤ (if cell < 0 then -cell else cell) then cell % 10 ^ 18 else cell) + 977 * i) * 48271 + 31 * ns.length) % 2147483647) * 69621 % 2147483629) * 16807 + i) % 2147483587 := by
        unfold lawNum
        rw [if_neg h0, hcell]
      rw [e5]
      generalize (if (10 : Int) ^ 60 ≤ (if cell < 0 then -cell else cell) then cell % 10 ^ 18 else cell) = cell2
      simp only [IS.runs, IS.run, IE.run, IL.run, List.getElem?_cons_zero, List.getElem?_cons_succ, seqOf, Option.map_some, List.length_map, hmul2 977 i (by omega) (by omega), hadd, hmul (cell2 + 977 * i) 48271 (by omega) (by omega), hmul2 31 ns.length (by omega) (by omega), hmod ((cell2 + 977 * i) * 48271 + 31 * ns.length) 2147483647 (by omega), putS]
      rw [if_pos (by simp)]
      simp only [Option.map_some, List.set_cons_succ, List.set_cons_zero, List.getElem?_cons_zero, List.getElem?_cons_succ]
      simp only [hmul (((cell2 + 977 * i) * 48271 + 31 * ns.length) % 2147483647) 69621 (by omega) (by omega), Option.map_some, hmod (((cell2 + 977 * i) * 48271 + 31 * ns.length) % 2147483647 * 69621) 2147483629 (by omega), hmul (((cell2 + 977 * i) * 48271 + 31 * ns.length) % 2147483647 * 69621 % 2147483629) 16807 (by omega) (by omega), hadd, hmod (((cell2 + 977 * i) * 48271 + 31 * ns.length) % 2147483647 * 69621 % 2147483629 * 16807 + i) 2147483587 (by omega), b1D]
theorem number_D (ns : List Int) (i : Int) : f__law_number [.lst (ns.map .int), .int i] = some (.int (lawNum ns i)) := by
  show (D.ints (ns.map .int)).map _ = _
  rw [ints_D]
  rfl
def f__law_take : D → List D → Int → Option (D × Int)
  | .lst l, [.int m], c => match D.ints l with
    | some ns => if 0 < m then some (.int (lawNum ns (c + 1) % m), c + 1) else none
    | none => none
  | _, _, _ => none
def il__law_take : List IS := [.drw 0,
   .ret (.bin .mod (.b1 .int (.call 2 f__law_number (.cons (.scr 0) (.cons (.b1 .int (.cnt 0)) .nil)))) (.var 1))]
theorem r__law_take (scr : D) (ds : List D) (c : Int) (d : D) (c1 : Int) (h : f__law_take scr ds c = some (d, c1)) (_ : ds.length = 1) : callDr 2 il__law_take scr ds c = some (d, c1) := by
  match scr, ds, h with
  | .lst l, [.int m], h =>
    have h' : (match D.ints l with
      | some ns => if 0 < m then some (D.int (lawNum ns (c + 1) % m), c + 1) else none
      | none => none) = some (d, c1) := h
    split at h'
    · rename_i ns e
      split at h'
      · rename_i hm
        cases h'
        obtain rfl := ints_ok e
        have hmod : binD .mod (.int (lawNum ns (c + 1))) (.int m) = some (.int (lawNum ns (c + 1) % m)) := if_pos hm
        unfold callDr
        simp [il__law_take, IS.runs, IS.run, IE.run, IA.run, number_D, b1D, hmod]
      · cases h'
    · cases h'
theorem take_D (ns : List Int) (m c : Int) (h : 0 < m) : f__law_take (.lst (ns.map .int)) [.int m] c = some (.int (lawNum ns (c + 1) % m), c + 1) := by
  show (match D.ints (ns.map .int) with
    | some ns => if 0 < m then some (D.int (lawNum ns (c + 1) % m), c + 1) else none
    | none => none) = _
  rw [ints_D]
  exact if_pos h
end Rf

/-! Sets of integers as rows of intervals: the normal form, by plain math. -/
namespace Rf
abbrev Iv := Option Int × Option Int
def inI (p : Iv) (n : Int) : Bool := (match p.1 with | none => true | some l => decide (l ≤ n)) && (match p.2 with | none => true | some h => decide (n ≤ h))
def mem (a : List Iv) (n : Int) : Bool := a.any fun p => inI p n
def void (p : Iv) : Bool := match p.1, p.2 with | some l, some h => decide (h < l) | _, _ => false
def sep (p q : Iv) : Prop := ∃ h l, p.2 = some h ∧ q.1 = some l ∧ h + 1 < l
structure Nf (a : List Iv) : Prop where
  ok : ∀ p ∈ a, void p = false
  sp : a.Pairwise sep
theorem Nf.nil : Nf [] := ⟨fun _ h => (by cases h), .nil⟩
theorem Nf.tail {p : Iv} {a : List Iv} (h : Nf (p :: a)) : Nf a := ⟨fun q hq => h.ok q (List.mem_cons_of_mem _ hq), (List.pairwise_cons.mp h.sp).2⟩
theorem Nf.gap {p : Iv} {a : List Iv} (h : Nf (p :: a)) : ∀ q ∈ a, sep p q := (List.pairwise_cons.mp h.sp).1
theorem void_le {l h : Int} (e : void (some l, some h) = false) : l ≤ h := by
  unfold void at e
  simp at e
  exact e
theorem mem_cons {p : Iv} {a : List Iv} {n : Int} : mem (p :: a) n = (inI p n || mem a n) := rfl
theorem mem_append {a b : List Iv} {n : Int} : mem (a ++ b) n = (mem a n || mem b n) := by unfold mem; rw [List.any_append]
theorem mem_false {a : List Iv} {n : Int} (h : ∀ q ∈ a, inI q n = false) : mem a n = false := by
  unfold mem
  rw [List.any_eq_false]
  intro q hq
  rw [h q hq]
  decide
theorem inI_low {q : Iv} {l n : Int} (e : q.1 = some l) (h : n < l) : inI q n = false := by
  unfold inI
  rw [e]
  simp
  intro z
  omega
theorem inI_high {q : Iv} {u n : Int} (e : q.2 = some u) (h : u < n) : inI q n = false := by
  unfold inI
  rw [e]
  simp
  intro _
  omega
theorem inI_iff {q : Iv} {n : Int} : inI q n = true ↔ (∀ l, q.1 = some l → l ≤ n) ∧ ∀ h, q.2 = some h → n ≤ h := by
  unfold inI
  rcases q with ⟨_ | l, _ | h⟩ <;> simp
/-- what stands behind the first interval lies beyond its end -/
theorem Nf.rest {p : Iv} {a : List Iv} (h : Nf (p :: a)) {n : Int} (e : ∀ u, p.2 = some u → n ≤ u + 1) : mem a n = false := mem_false fun q hq => by
  obtain ⟨u, l, h1, h2, h3⟩ := h.gap q hq
  exact inI_low h2 (by have := e u h1; omega)
theorem Nf.open_ {p : Iv} {a : List Iv} (h : Nf (p :: a)) (e : p.2 = none) : a = [] := by
  cases a with
  | nil => rfl
  | cons q r =>
    obtain ⟨u, l, h1, _⟩ := h.gap q List.mem_cons_self
    rw [e] at h1
    cases h1
/-- before the first interval there is nothing -/
theorem Nf.before {p : Iv} {a : List Iv} (h : Nf (p :: a)) {l n : Int} (e : p.1 = some l) (hn : n < l) : mem (p :: a) n = false := by
  rw [mem_cons, inI_low e hn, Bool.false_or]
  refine h.rest fun u hu => ?_
  have := h.ok p List.mem_cons_self
  rcases p with ⟨a1, a2⟩
  cases e
  cases hu
  have := void_le this
  omega
theorem Nf.at_low {p : Iv} {a : List Iv} (h : Nf (p :: a)) {l : Int} (e : p.1 = some l) : mem (p :: a) l = true := by
  rw [mem_cons]
  have : inI p l = true := inI_iff.mpr ⟨fun l' e' => by rw [e] at e'; cases e'; omega, fun u hu => by
    have := h.ok p List.mem_cons_self
    rcases p with ⟨a1, a2⟩
    cases e
    cases hu
    exact void_le this⟩
  rw [this, Bool.true_or]
theorem Nf.far {p : Iv} {a : List Iv} (e : p.1 = none) : ∃ m, ∀ n, n ≤ m → mem (p :: a) n = true := by
  cases hu : p.2 with
  | none => exact ⟨0, fun n _ => by rw [mem_cons, inI_iff.mpr ⟨fun l' e' => (by rw [e] at e'; cases e'), fun u hu' => by rw [hu] at hu'; cases hu'⟩, Bool.true_or]⟩
  | some u => exact ⟨u, fun n hn => by rw [mem_cons, inI_iff.mpr ⟨fun l' e' => (by rw [e] at e'; cases e'), fun u' hu' => by rw [hu] at hu'; cases hu'; exact hn⟩, Bool.true_or]⟩
theorem Nf.has {p : Iv} {a : List Iv} (h : Nf (p :: a)) : ∃ n, mem (p :: a) n = true := by
  cases e : p.1 with
  | none => obtain ⟨m, hm⟩ := Nf.far (a := a) e; exact ⟨m, hm m (Int.le_refl _)⟩
  | some l => exact ⟨l, h.at_low e⟩
theorem Nf.uniq : ∀ {a b : List Iv}, Nf a → Nf b → (∀ n, mem a n = mem b n) → a = b
  | [], [], _, _, _ => rfl
  | [], q :: b, _, hb, h => by
    obtain ⟨n, hn⟩ := hb.has
    rw [← h n] at hn
    cases hn
  | p :: a, [], ha, _, h => by
    obtain ⟨n, hn⟩ := ha.has
    rw [h n] at hn
    cases hn
  | p :: a, q :: b, ha, hb, h => by
    have e1 : p.1 = q.1 := by
      cases e : p.1 with
      | none =>
        cases e' : q.1 with
        | none => rfl
        | some l =>
          obtain ⟨m, hm⟩ := Nf.far (a := a) e
          have h1 := hm (min m (l - 1)) (by omega)
          rw [h, hb.before e' (by omega)] at h1
          cases h1
      | some l =>
        cases e' : q.1 with
        | none =>
          obtain ⟨m, hm⟩ := Nf.far (a := b) e'
          have h1 := hm (min m (l - 1)) (by omega)
          rw [← h, ha.before e (by omega)] at h1
          cases h1
        | some l' =>
          by_cases c1 : l < l'
          · have h1 := ha.at_low e
            rw [h, hb.before e' c1] at h1
            cases h1
          · by_cases c2 : l' < l
            · have h1 := hb.at_low e'
              rw [← h, ha.before e c2] at h1
              cases h1
            · have : l = l' := by omega
              rw [this]
    have e2 : p.2 = q.2 := by
      -- a point behind the shorter one
      have key : ∀ {p q : Iv} {a b : List Iv}, Nf (p :: a) → Nf (q :: b) → p.1 = q.1 → (∀ n, mem (p :: a) n = mem (q :: b) n) → ∀ u, p.2 = some u → ∃ v, q.2 = some v ∧ v ≤ u := by
        intro p q a b ha hb e1 h u hu
        have h1 : mem (p :: a) (u + 1) = false := by
          rw [mem_cons, inI_high hu (by omega), Bool.false_or]
          exact ha.rest fun u' hu' => by rw [hu] at hu'; cases hu'; omega
        rw [h, mem_cons, Bool.or_eq_false_iff] at h1
        cases hv : q.2 with
        | none =>
          have : inI q (u + 1) = true := inI_iff.mpr ⟨fun l hl => by
            have hp := ha.ok p List.mem_cons_self
            rcases p with ⟨a1, a2⟩
            rw [hl] at e1
            cases e1
            cases hu
            have := void_le hp
            omega, fun w hw => by rw [hv] at hw; cases hw⟩
          rw [h1.1] at this
          cases this
        | some v =>
          refine ⟨v, rfl, ?_⟩
          by_cases c : v ≤ u
          · exact c
          · have : inI q (u + 1) = true := inI_iff.mpr ⟨fun l hl => by
              have hp := ha.ok p List.mem_cons_self
              rcases p with ⟨a1, a2⟩
              rw [hl] at e1
              cases e1
              cases hu
              have := void_le hp
              omega, fun w hw => by rw [hv] at hw; cases hw; omega⟩
            rw [h1.1] at this
            cases this
      cases e : p.2 with
      | none =>
        cases e' : q.2 with
        | none => rfl
        | some v =>
          obtain ⟨u, hu, _⟩ := key hb ha e1.symm (fun n => (h n).symm) v e'
          rw [e] at hu
          cases hu
      | some u =>
        obtain ⟨v, hv, c1⟩ := key ha hb e1 h u e
        obtain ⟨u', hu', c2⟩ := key hb ha e1.symm (fun n => (h n).symm) v hv
        rw [e] at hu'
        cases hu'
        rw [hv]
        have : u = v := by omega
        rw [this]
    have ep : p = q := by
      rcases p with ⟨a1, a2⟩
      rcases q with ⟨b1, b2⟩
      cases e1
      cases e2
      rfl
    subst ep
    congr 1
    refine Nf.uniq ha.tail hb.tail fun n => ?_
    by_cases c : ∀ u, p.2 = some u → n ≤ u + 1
    · rw [ha.rest c, hb.rest c]
    · have hn : inI p n = false := by
        cases hu : p.2 with
        | none => exact absurd (fun u hu' => by rw [hu] at hu'; cases hu') c
        | some u =>
          refine inI_high hu ?_
          by_cases c2 : u < n
          · exact c2
          · exact absurd (fun u' hu' => by rw [hu] at hu'; cases hu'; omega) c
      have := h n
      rw [mem_cons, mem_cons, hn, Bool.false_or, Bool.false_or] at this
      exact this
end Rf

/-! normal, others, how_many and the rest, by plain math. -/
namespace Rf
def lowLe (p q : Iv) : Bool := match p.1, q.1 with | none, _ => true | some _, none => false | some a, some b => decide (a ≤ b)
def reaches (q : Iv) (low : Option Int) : Bool := match low, q.2 with | none, _ => true | _, none => true | some l, some h => decide (l ≤ h + 1)
def later (a b : Option Int) : Option Int := match a, b with | some i, some j => some (if j > i then j else i) | _, _ => none
def nstep (found : List Iv) (p : Iv) : List Iv := match found.getLast? with
  | some q => if reaches q p.1 = true then found.dropLast ++ [(q.1, later q.2 p.2)] else found ++ [p]
  | none => found ++ [p]
def sortI (l : List Iv) : List Iv := l.mergeSort lowLe
def normal (ps : List Iv) : List Iv := (sortI (ps.filter fun p => !void p)).foldl nstep []
theorem lowLe_trans (p q r : Iv) (h1 : lowLe p q = true) (h2 : lowLe q r = true) : lowLe p r = true := by
  rcases p with ⟨_ | a, _⟩ <;> rcases q with ⟨_ | b, _⟩ <;> rcases r with ⟨_ | c, _⟩ <;> simp [lowLe] at h1 h2 ⊢
  omega
theorem lowLe_total (p q : Iv) : (lowLe p q || lowLe q p) = true := by
  rcases p with ⟨_ | a, _⟩ <;> rcases q with ⟨_ | b, _⟩ <;> simp [lowLe]
  omega
theorem sortI_perm (l : List Iv) : (sortI l).Perm l := List.mergeSort_perm l _
theorem sortI_sorted (l : List Iv) : (sortI l).Pairwise fun p q => lowLe p q = true := List.pairwise_mergeSort (le := lowLe) lowLe_trans lowLe_total l
theorem nstep_nil (p : Iv) : nstep [] p = [p] := rfl
theorem nstep_last (pre : List Iv) (q p : Iv) : nstep (pre ++ [q]) p = if reaches q p.1 = true then pre ++ [(q.1, later q.2 p.2)] else pre ++ [q] ++ [p] := by
  unfold nstep
  rw [List.getLast?_concat]
  show (if reaches q p.1 = true then (pre ++ [q]).dropLast ++ [(q.1, later q.2 p.2)] else pre ++ [q] ++ [p]) = _
  rw [List.dropLast_concat]
theorem inI_merge {q p : Iv} {n : Int} (h1 : lowLe q p = true) (h2 : reaches q p.1 = true) (h3 : void q = false) (h4 : void p = false) : inI (q.1, later q.2 p.2) n = (inI q n || inI p n) := by
  rw [Bool.eq_iff_iff, Bool.or_eq_true, inI_iff, inI_iff, inI_iff]
  rcases q with ⟨_ | a, _ | b⟩ <;> rcases p with ⟨_ | c, _ | d⟩ <;> simp [lowLe, reaches, void, later] at h1 h2 h3 h4 ⊢ <;> (try split) <;> omega
theorem Nf.merge {pre : List Iv} {q p : Iv} (h : Nf (pre ++ [q])) (h4 : void p = false) : Nf (pre ++ [(q.1, later q.2 p.2)]) := by
  refine ⟨fun x hx => ?_, ?_⟩
  · rcases List.mem_append.mp hx with hx | hx
    · exact h.ok x (List.mem_append_left _ hx)
    · rw [List.mem_singleton.mp hx]
      have := h.ok q (List.mem_append_right _ List.mem_cons_self)
      rcases q with ⟨_ | a, _ | b⟩ <;> rcases p with ⟨_ | c, _ | d⟩ <;> simp [void, later] at this h4 ⊢ <;> (try split) <;> omega
  · have := List.pairwise_append.mp h.sp
    refine List.pairwise_append.mpr ⟨this.1, List.pairwise_singleton _ _, fun x hx y hy => ?_⟩
    rw [List.mem_singleton.mp hy]
    obtain ⟨u, l, e1, e2, e3⟩ := this.2.2 x hx q List.mem_cons_self
    exact ⟨u, l, e1, e2, e3⟩
theorem Nf.more {pre : List Iv} {q p : Iv} (h : Nf (pre ++ [q])) (h4 : void p = false) (h5 : reaches q p.1 = false) : Nf (pre ++ [q] ++ [p]) := by
  refine ⟨fun x hx => ?_, ?_⟩
  · rcases List.mem_append.mp hx with hx | hx
    · exact h.ok x hx
    · rw [List.mem_singleton.mp hx]; exact h4
  · have hq : sep q p := by
      rcases q with ⟨a, _ | b⟩ <;> rcases p with ⟨_ | c, d⟩ <;> simp [reaches] at h5
      exact ⟨b, c, rfl, rfl, by omega⟩
    refine List.pairwise_append.mpr ⟨h.sp, List.pairwise_singleton _ _, fun x hx y hy => ?_⟩
    rw [List.mem_singleton.mp hy]
    rcases List.mem_append.mp hx with hx | hx
    · obtain ⟨u, l, e1, e2, e3⟩ := (List.pairwise_append.mp h.sp).2.2 x hx q List.mem_cons_self
      obtain ⟨u', l', e1', e2', e3'⟩ := hq
      have hv := h.ok q (List.mem_append_right _ List.mem_cons_self)
      refine ⟨u, l', e1, e2', ?_⟩
      rcases q with ⟨a, b⟩
      cases e2
      cases e1'
      have := void_le hv
      omega
    · rw [List.mem_singleton.mp hx]; exact hq
theorem last_cases (l : List Iv) : l = [] ∨ ∃ pre q, l = pre ++ [q] := by
  rcases List.eq_nil_or_concat l with h | ⟨pre, q, h⟩
  · exact .inl h
  · exact .inr ⟨pre, q, by rw [h, List.concat_eq_append]⟩
/-- the loop of normal -/
theorem fold_nf : ∀ (l found : List Iv), (l.Pairwise fun p q => lowLe p q = true) → (∀ p ∈ l, void p = false) → Nf found → (∀ pre q, found = pre ++ [q] → ∀ p ∈ l, lowLe q p = true) →
    Nf (l.foldl nstep found) ∧ ∀ n, mem (l.foldl nstep found) n = (mem found n || mem l n)
  | [], found, _, _, hn, _ => ⟨hn, fun n => by show mem found n = (mem found n || false); rw [Bool.or_false]⟩
  | p :: l, found, hs, hv, hn, hl => by
    have hs' := List.pairwise_cons.mp hs
    have hp := hv p List.mem_cons_self
    rw [List.foldl_cons]
    rcases last_cases found with e | ⟨pre, q, e⟩
    · subst e
      rw [nstep_nil]
      obtain ⟨h1, h2⟩ := fold_nf l [p] hs'.2 (fun x hx => hv x (List.mem_cons_of_mem _ hx)) ⟨fun x hx => by rw [List.mem_singleton.mp hx]; exact hp, List.pairwise_singleton _ _⟩ fun pre q e x hx => by
        have : q = p := by
          have := congrArg List.getLast? e
          rw [List.getLast?_concat] at this
          exact (Option.some.inj this).symm
        rw [this]
        exact hs'.1 x hx
      exact ⟨h1, fun n => by rw [h2, mem_cons, mem_cons]; simp [mem]⟩
    · subst e
      rw [nstep_last]
      have hq := hl pre q rfl p List.mem_cons_self
      have hqv := hn.ok q (List.mem_append_right _ List.mem_cons_self)
      split
      · rename_i hr
        obtain ⟨h1, h2⟩ := fold_nf l (pre ++ [(q.1, later q.2 p.2)]) hs'.2 (fun x hx => hv x (List.mem_cons_of_mem _ hx)) (hn.merge hp) fun pre' q' e x hx => by
          have := congrArg List.getLast? e
          rw [List.getLast?_concat, List.getLast?_concat] at this
          have e' := (Option.some.inj this).symm
          rw [e']
          have := hl pre q rfl x (List.mem_cons_of_mem _ hx)
          exact this
        refine ⟨h1, fun n => ?_⟩
        rw [h2, mem_append, mem_append, mem_cons, mem_cons, mem_cons, inI_merge hq hr hqv hp]
        simp [mem, Bool.or_assoc]
      · rename_i hr
        obtain ⟨h1, h2⟩ := fold_nf l (pre ++ [q] ++ [p]) hs'.2 (fun x hx => hv x (List.mem_cons_of_mem _ hx)) (hn.more hp (by simpa using hr)) fun pre' q' e x hx => by
          have := congrArg List.getLast? e
          rw [List.getLast?_concat, List.getLast?_concat] at this
          have e' := (Option.some.inj this).symm
          rw [e']
          exact hs'.1 x hx
        refine ⟨h1, fun n => ?_⟩
        rw [h2, mem_append, mem_append, mem_cons, mem_cons, mem_cons]
        simp [mem, Bool.or_assoc]
theorem mem_perm {a b : List Iv} (h : a.Perm b) (n : Int) : mem a n = mem b n := by
  rw [Bool.eq_iff_iff]
  unfold mem
  rw [List.any_eq_true, List.any_eq_true]
  exact ⟨fun ⟨x, h1, h2⟩ => ⟨x, h.mem_iff.mp h1, h2⟩, fun ⟨x, h1, h2⟩ => ⟨x, h.mem_iff.mpr h1, h2⟩⟩
theorem void_in {p : Iv} {n : Int} (h : void p = true) : inI p n = false := by
  rcases p with ⟨_ | a, _ | b⟩ <;> simp [void, inI] at h ⊢
  omega
theorem mem_filter (ps : List Iv) (n : Int) : mem (ps.filter fun p => !void p) n = mem ps n := by
  rw [Bool.eq_iff_iff]
  unfold mem
  rw [List.any_eq_true, List.any_eq_true]
  refine ⟨fun ⟨x, h1, h2⟩ => ⟨x, (List.mem_filter.mp h1).1, h2⟩, fun ⟨x, h1, h2⟩ => ⟨x, List.mem_filter.mpr ⟨h1, ?_⟩, h2⟩⟩
  cases hv : void x with
  | false => rfl
  | true => rw [void_in hv] at h2; cases h2
theorem normal_ok (ps : List Iv) : Nf (normal ps) ∧ ∀ n, mem (normal ps) n = mem ps n := by
  obtain ⟨h1, h2⟩ := fold_nf (sortI (ps.filter fun p => !void p)) [] (sortI_sorted _) (fun p hp => by
    have := (List.mem_filter.mp ((sortI_perm _).mem_iff.mp hp)).2
    simpa using this) .nil fun pre q e => by simp at e
  refine ⟨h1, fun n => ?_⟩
  show mem ((sortI (ps.filter fun p => !void p)).foldl nstep []) n = _
  rw [h2, mem_perm (sortI_perm _), mem_filter]
  rfl
theorem normal_nf {a : List Iv} (h : Nf a) : normal a = a := Nf.uniq (normal_ok a).1 h (normal_ok a).2
/-- ends come from ends -/
def Bd (B : Int → Prop) (p : Iv) : Prop := (∀ l, p.1 = some l → B l) ∧ ∀ h, p.2 = some h → B h
theorem fold_bd (B : Int → Prop) : ∀ (l found : List Iv), (∀ p ∈ l, Bd B p) → (∀ p ∈ found, Bd B p) → ∀ p ∈ l.foldl nstep found, Bd B p
  | [], _, _, h => h
  | p :: l, found, hl, hf => by
    rw [List.foldl_cons]
    refine fold_bd B l _ (fun x hx => hl x (List.mem_cons_of_mem _ hx)) ?_
    have hp := hl p List.mem_cons_self
    rcases last_cases found with e | ⟨pre, q, e⟩
    · subst e
      rw [nstep_nil]
      intro x hx
      rw [List.mem_singleton.mp hx]
      exact hp
    · subst e
      have hq := hf q (List.mem_append_right _ List.mem_cons_self)
      rw [nstep_last]
      split
      · intro x hx
        rcases List.mem_append.mp hx with hx | hx
        · exact hf x (List.mem_append_left _ hx)
        · rw [List.mem_singleton.mp hx]
          refine ⟨hq.1, fun h e => ?_⟩
          rcases q with ⟨a, _ | b⟩ <;> rcases p with ⟨c, _ | d⟩ <;> simp [later] at e
          subst e
          split
          · exact hp.2 d rfl
          · exact hq.2 b rfl
      · intro x hx
        rcases List.mem_append.mp hx with hx | hx
        · exact hf x hx
        · rw [List.mem_singleton.mp hx]; exact hp
theorem normal_bd (B : Int → Prop) {ps : List Iv} (h : ∀ p ∈ ps, Bd B p) : ∀ p ∈ normal ps, Bd B p :=
  fold_bd B _ [] (fun p hp => h p (List.mem_filter.mp ((sortI_perm _).mem_iff.mp hp)).1) fun p hp => by cases hp
theorem nstep_len (found : List Iv) (p : Iv) : (nstep found p).length ≤ found.length + 1 := by
  rcases last_cases found with e | ⟨pre, q, e⟩
  · subst e; exact Nat.le_refl _
  · subst e
    rw [nstep_last]
    split <;> simp
theorem fold_len : ∀ (l found : List Iv), (l.foldl nstep found).length ≤ found.length + l.length
  | [], found => Nat.le_refl _
  | p :: l, found => by
    rw [List.foldl_cons, List.length_cons]
    have h1 := fold_len l (nstep found p)
    have h2 := nstep_len found p
    omega
theorem normal_len (ps : List Iv) : (normal ps).length ≤ ps.length := by
  have h1 := fold_len (sortI (ps.filter fun p => !void p)) []
  have h2 := (sortI_perm (ps.filter fun p => !void p)).length_eq
  have h3 := List.length_filter_le (fun p => !void p) ps
  show (List.foldl nstep [] (sortI (ps.filter fun p => !void p))).length ≤ _
  simp at h1
  omega

/-! ### the others -/
def oth (b : Option Int) : List Iv → List Iv
  | [] => [(b, none)]
  | (l, h) :: r => (match l with
    | some l => [(b, some (l - 1))]
    | none => []) ++ (match h with
    | none => []
    | some h => oth (some (h + 1)) r)
def others (a : List Iv) : List Iv := oth none a
def geB (b : Option Int) (n : Int) : Bool := match b with | none => true | some k => decide (k ≤ n)
theorem oth_low : ∀ (a : List Iv) (k : Int), Nf a → (∀ q ∈ a, ∃ l, q.1 = some l ∧ k < l) → (∀ q ∈ oth (some k) a, ∃ l, q.1 = some l ∧ k ≤ l) ∧ Nf (oth (some k) a) ∧ ∀ n, mem (oth (some k) a) n = (decide (k ≤ n) && !mem a n)
  | [], k, _, _ => by
    refine ⟨fun q hq => ?_, ⟨fun q hq => ?_, List.pairwise_singleton _ _⟩, fun n => ?_⟩
    · rw [List.mem_singleton.mp hq]; exact ⟨k, rfl, Int.le_refl _⟩
    · rw [List.mem_singleton.mp hq]; rfl
    · simp [oth, mem, inI]
  | (l0, h0) :: r, k, hn, hl => by
    obtain ⟨l, e, hkl⟩ := hl (l0, h0) List.mem_cons_self
    cases e
    have hbef : ∀ n, n < l → mem ((some l, h0) :: r) n = false := fun n h => hn.before rfl h
    cases h0 with
    | none =>
      have := hn.open_ rfl
      subst this
      show (∀ q ∈ [(some k, some (l - 1))], _) ∧ Nf [(some k, some (l - 1))] ∧ _
      refine ⟨fun q hq => ?_, ⟨fun q hq => ?_, List.pairwise_singleton _ _⟩, fun n => ?_⟩
      · rw [List.mem_singleton.mp hq]; exact ⟨k, rfl, Int.le_refl _⟩
      · rw [List.mem_singleton.mp hq]; simp [void]; omega
      · show mem [(some k, some (l - 1))] n = _
        rw [Bool.eq_iff_iff]
        simp [mem, inI]
        omega
    | some h =>
      have hlh := void_le (hn.ok _ List.mem_cons_self)
      have hr : ∀ q ∈ r, ∃ l', q.1 = some l' ∧ h + 1 < l' := fun q hq => by
        obtain ⟨u, l', e1, e2, e3⟩ := hn.gap q hq
        cases e1
        exact ⟨l', e2, e3⟩
      obtain ⟨i1, i2, i3⟩ := oth_low r (h + 1) hn.tail hr
      show (∀ q ∈ (some k, some (l - 1)) :: oth (some (h + 1)) r, _) ∧ Nf ((some k, some (l - 1)) :: oth (some (h + 1)) r) ∧ _
      refine ⟨fun q hq => ?_, ⟨fun q hq => ?_, List.pairwise_cons.mpr ⟨fun q hq => ?_, i2.sp⟩⟩, fun n => ?_⟩
      · rcases List.mem_cons.mp hq with rfl | hq
        · exact ⟨k, rfl, Int.le_refl _⟩
        · obtain ⟨l', e1, e2⟩ := i1 q hq
          exact ⟨l', e1, by omega⟩
      · rcases List.mem_cons.mp hq with rfl | hq
        · simp [void]; omega
        · exact i2.ok q hq
      · obtain ⟨l', e1, e2⟩ := i1 q hq
        exact ⟨l - 1, l', rfl, e1, by omega⟩
      · show mem ((some k, some (l - 1)) :: oth (some (h + 1)) r) n = _
        rw [mem_cons, mem_cons, i3]
        have hrest : n ≤ h + 1 → mem r n = false := fun hh => hn.rest fun u hu => by cases hu; exact hh
        by_cases c : n ≤ h
        · rw [hrest (by omega), Bool.eq_iff_iff]
          simp [inI]
          omega
        · rw [Bool.eq_iff_iff]
          simp [inI]
          constructor
          · rintro (h1 | h1)
            · omega
            · exact ⟨by omega, .inr (by omega), h1.2⟩
          · intro h1
            exact .inr ⟨by omega, h1.2.2⟩
theorem others_ok {a : List Iv} (hn : Nf a) : Nf (others a) ∧ ∀ n, mem (others a) n = !mem a n := by
  cases a with
  | nil => exact ⟨⟨fun q hq => by rw [List.mem_singleton.mp hq]; rfl, List.pairwise_singleton _ _⟩, fun n => rfl⟩
  | cons p r =>
    rcases p with ⟨_ | l, _ | h⟩
    · have := hn.open_ rfl
      subst this
      exact ⟨.nil, fun n => by simp [others, oth, mem, inI]⟩
    · have hr : ∀ q ∈ r, ∃ l', q.1 = some l' ∧ h + 1 < l' := fun q hq => by
        obtain ⟨u, l', e1, e2, e3⟩ := hn.gap q hq
        cases e1
        exact ⟨l', e2, e3⟩
      obtain ⟨i1, i2, i3⟩ := oth_low r (h + 1) hn.tail hr
      refine ⟨i2, fun n => ?_⟩
      show mem (oth (some (h + 1)) r) n = _
      rw [i3, mem_cons]
      have hrest : n ≤ h + 1 → mem r n = false := fun hh => hn.rest fun u hu => by cases hu; exact hh
      by_cases c : n ≤ h
      · rw [hrest (by omega), Bool.eq_iff_iff]
        simp [inI]
        omega
      · rw [Bool.eq_iff_iff]
        simp [inI]
        intro _
        omega
    · have := hn.open_ rfl
      subst this
      refine ⟨⟨fun q hq => by rw [List.mem_singleton.mp hq]; rfl, List.pairwise_singleton _ _⟩, fun n => ?_⟩
      show mem [(none, some (l - 1))] n = _
      rw [Bool.eq_iff_iff]
      simp [mem, inI]
      omega
    · have hlh := void_le (hn.ok _ List.mem_cons_self)
      have hr : ∀ q ∈ r, ∃ l', q.1 = some l' ∧ h + 1 < l' := fun q hq => by
        obtain ⟨u, l', e1, e2, e3⟩ := hn.gap q hq
        cases e1
        exact ⟨l', e2, e3⟩
      obtain ⟨i1, i2, i3⟩ := oth_low r (h + 1) hn.tail hr
      show Nf ((none, some (l - 1)) :: oth (some (h + 1)) r) ∧ _
      refine ⟨⟨fun q hq => ?_, List.pairwise_cons.mpr ⟨fun q hq => ?_, i2.sp⟩⟩, fun n => ?_⟩
      · rcases List.mem_cons.mp hq with rfl | hq
        · rfl
        · exact i2.ok q hq
      · obtain ⟨l', e1, e2⟩ := i1 q hq
        exact ⟨l - 1, l', rfl, e1, by omega⟩
      · show mem ((none, some (l - 1)) :: oth (some (h + 1)) r) n = _
        rw [mem_cons, mem_cons, i3]
        have hrest : n ≤ h + 1 → mem r n = false := fun hh => hn.rest fun u hu => by cases hu; exact hh
        by_cases c : n ≤ h
        · rw [hrest (by omega), Bool.eq_iff_iff]
          simp [inI]
          omega
        · rw [Bool.eq_iff_iff]
          simp [inI]
          constructor
          · rintro (h1 | h1)
            · omega
            · exact ⟨.inr (by omega), h1.2⟩
          · intro h1
            exact .inr ⟨by omega, h1.2⟩
theorem oth_len : ∀ (a : List Iv) (b : Option Int), (oth b a).length ≤ a.length + 1
  | [], b => Nat.le_refl _
  | (l, h) :: r, b => by
    have := fun k => oth_len r (some k)
    cases l <;> cases h <;> simp [oth]
    · exact Nat.le_succ_of_le (this _)
    · exact this _
def union (a b : List Iv) : List Iv := normal (a ++ b)
def meet (a b : List Iv) : List Iv := others (union (others a) (others b))
theorem union_ok (a b : List Iv) : Nf (union a b) ∧ ∀ n, mem (union a b) n = (mem a n || mem b n) := by
  obtain ⟨h1, h2⟩ := normal_ok (a ++ b)
  exact ⟨h1, fun n => by rw [show union a b = normal (a ++ b) from rfl, h2, mem_append]⟩
theorem meet_ok {a b : List Iv} (ha : Nf a) (hb : Nf b) : Nf (meet a b) ∧ ∀ n, mem (meet a b) n = (mem a n && mem b n) := by
  obtain ⟨h1, h2⟩ := others_ok (union_ok (others a) (others b)).1
  refine ⟨h1, fun n => ?_⟩
  show mem (others (union (others a) (others b))) n = _
  rw [h2, (union_ok _ _).2, (others_ok ha).2, (others_ok hb).2]
  cases mem a n <;> cases mem b n <;> rfl
theorem others_others {a : List Iv} (h : Nf a) : others (others a) = a := Nf.uniq (others_ok (others_ok h).1).1 h fun n => by
  rw [(others_ok (others_ok h).1).2, (others_ok h).2, Bool.not_not]
theorem nf_all : Nf [(none, none)] := ⟨fun q hq => by rw [List.mem_singleton.mp hq]; rfl, List.pairwise_singleton _ _⟩
theorem union_others {a : List Iv} (h : Nf a) : union a (others a) = [(none, none)] := Nf.uniq (union_ok _ _).1 nf_all fun n => by
  rw [(union_ok _ _).2, (others_ok h).2]
  cases mem a n <;> rfl
theorem meet_others {a : List Iv} (h : Nf a) : meet a (others a) = [] := Nf.uniq (meet_ok h (others_ok h).1).1 .nil fun n => by
  rw [(meet_ok h (others_ok h).1).2, (others_ok h).2]
  cases mem a n <;> rfl
end Rf

/-! how_many, inside, least, greatest, member_but, by plain math. -/
namespace Rf
def rngI (lo : Int) (n : Nat) : List Int := (List.range n).map fun (i : Nat) => lo + (i : Int)
theorem rngI_len (lo : Int) (n : Nat) : (rngI lo n).length = n := by unfold rngI; rw [List.length_map, List.length_range]
theorem mem_rngI {lo k : Int} {n : Nat} : k ∈ rngI lo n ↔ lo ≤ k ∧ k < lo + n := by
  unfold rngI
  rw [List.mem_map]
  constructor
  · rintro ⟨i, h1, rfl⟩
    rw [List.mem_range] at h1
    omega
  · intro ⟨h1, h2⟩
    refine ⟨(k - lo).toNat, ?_, by omega⟩
    rw [List.mem_range]
    omega
theorem rngI_add (lo : Int) (m n : Nat) : rngI lo (m + n) = rngI lo m ++ rngI (lo + m) n := by
  unfold rngI
  rw [List.range_add, List.map_append, List.map_map]
  congr 1
  apply List.map_congr_left
  intro i _
  show lo + ((m + i : Nat) : Int) = lo + m + i
  omega
theorem rngI_zero (lo : Int) : rngI lo 0 = [] := rfl
theorem rngI_succ (lo : Int) (n : Nat) : rngI lo (n + 1) = lo :: rngI (lo + 1) n := by
  rw [Nat.add_comm, rngI_add]
  show [lo + ((0 : Nat) : Int)] ++ _ = _
  simp
theorem rngI_last (lo : Int) (n : Nat) : rngI lo (n + 1) = rngI lo n ++ [lo + n] := by
  rw [rngI_add]
  show _ ++ [lo + n + ((0 : Nat) : Int)] = _
  simp
/-- the loop of how_many -/
def hm (m : Int) : List Iv → Option Int
  | [] => some m
  | (some l, some h) :: r => hm (m + ((h - l) + 1)) r
  | _ :: _ => none
def howMany (a : List Iv) : Option Int := hm 0 a
def exp : List Iv → List Int
  | (some l, some h) :: r => rngI l (h - l + 1).toNat ++ exp r
  | _ => []
def inside (a : List Iv) : List Int := (rngI (-40) 100).filter (mem a)
theorem hm_exp : ∀ {a : List Iv} {m k : Int}, Nf a → hm m a = some k → k = m + (exp a).length
  | [], m, k, _, h => by
    cases h
    show m = m + ((0 : Nat) : Int)
    omega
  | (some l, some h) :: r, m, k, hn, e => by
    have := hm_exp hn.tail (show hm (m + ((h - l) + 1)) r = some k from e)
    have hv := void_le (hn.ok _ List.mem_cons_self)
    show k = m + ((rngI l (h - l + 1).toNat ++ exp r).length : Nat)
    rw [List.length_append, rngI_len]
    omega
  | (none, _) :: r, m, k, _, e => by cases e
  | (some l, none) :: r, m, k, _, e => by cases e
theorem exp_inside : ∀ {a : List Iv} {m k lo : Int} {n : Nat}, Nf a → hm m a = some k → (∀ p ∈ a, Bd (fun x => lo ≤ x ∧ x < lo + n) p) → (rngI lo n).filter (mem a) = exp a
  | [], m, k, lo, n, _, _, _ => List.filter_eq_nil_iff.mpr fun x _ => (by intro z; cases z)
  | (some l, some h) :: r, m, k, lo, n, hn, e, hb => by
    have hv := void_le (hn.ok _ List.mem_cons_self)
    have b1 := (hb _ List.mem_cons_self).1 l rfl
    have b2 := (hb _ List.mem_cons_self).2 h rfl
    have hr : ∀ q ∈ r, Bd (fun x => h + 1 ≤ x ∧ x < h + 1 + (lo + n - h - 1).toNat) q := fun q hq => by
      obtain ⟨u, l', e1, e2, e3⟩ := hn.gap q hq
      cases e1
      have b3 := hb q (List.mem_cons_of_mem _ hq)
      refine ⟨fun x hx => ?_, fun x hx => ?_⟩
      · rw [e2] at hx
        cases hx
        have := b3.1 l' e2
        omega
      · have b4 := b3.2 x hx
        have := b3.1 l' e2
        have hvq := hn.ok q (List.mem_cons_of_mem _ hq)
        rcases q with ⟨q1, q2⟩
        cases e2
        cases hx
        have := void_le hvq
        omega
    have ih := exp_inside (lo := h + 1) (n := (lo + n - h - 1).toNat) hn.tail (show hm (m + ((h - l) + 1)) r = some k from e) hr
    have en : n = (l - lo).toNat + ((h - l + 1).toNat + (lo + n - h - 1).toNat) := by omega
    have e1 : lo + ((l - lo).toNat : Int) = l := by omega
    have e2 : l + ((h - l + 1).toNat : Int) = h + 1 := by omega
    show _ = rngI l (h - l + 1).toNat ++ exp r
    have s1 : (rngI lo (l - lo).toNat).filter (mem ((some l, some h) :: r)) = [] := List.filter_eq_nil_iff.mpr fun x hx => by
      rw [mem_rngI] at hx
      rw [hn.before (l := l) rfl (by omega)]
      decide
    have s2 : (rngI l (h - l + 1).toNat).filter (mem ((some l, some h) :: r)) = rngI l (h - l + 1).toNat := List.filter_eq_self.mpr fun x hx => by
      rw [mem_rngI] at hx
      rw [mem_cons, inI_iff.mpr ⟨fun l' e' => by cases e'; omega, fun u e' => by cases e'; omega⟩, Bool.true_or]
    have s3 : (rngI (h + 1) (lo + n - h - 1).toNat).filter (mem ((some l, some h) :: r)) = exp r := by
      rw [← ih]
      apply List.filter_congr
      intro x hx
      rw [mem_rngI] at hx
      rw [mem_cons, inI_high (u := h) rfl (by omega), Bool.false_or]
    rw [en, rngI_add, rngI_add, e1, e2, List.filter_append, List.filter_append, s1, s2, s3, List.nil_append]
  | (none, _) :: r, m, k, _, _, _, e, _ => by cases e
  | (some l, none) :: r, m, k, _, _, _, e, _ => by cases e
theorem exp_head {p : Iv} {r : List Iv} {m k : Int} (hn : Nf (p :: r)) (e : hm m (p :: r) = some k) : ∃ l, p.1 = some l ∧ (exp (p :: r)).head? = some l := by
  rcases p with ⟨_ | l, _ | h⟩
  · cases e
  · cases e
  · cases e
  · have hv := void_le (hn.ok _ List.mem_cons_self)
    refine ⟨l, rfl, ?_⟩
    show (rngI l (h - l + 1).toNat ++ exp r).head? = _
    obtain ⟨n, hn⟩ : ∃ n, (h - l + 1).toNat = n + 1 := ⟨(h - l).toNat, by omega⟩
    rw [hn, rngI_succ]
    rfl
theorem exp_last : ∀ {pre : List Iv} {p : Iv} {m k : Int}, Nf (pre ++ [p]) → hm m (pre ++ [p]) = some k → ∃ h, p.2 = some h ∧ (exp (pre ++ [p])).getLast? = some h
  | [], p, m, k, hn, e => by
    rcases p with ⟨_ | l, _ | h⟩
    · cases e
    · cases e
    · cases e
    · have hv := void_le (hn.ok _ List.mem_cons_self)
      refine ⟨h, rfl, ?_⟩
      show (rngI l (h - l + 1).toNat ++ []).getLast? = _
      obtain ⟨n, hn⟩ : ∃ n, (h - l + 1).toNat = n + 1 := ⟨(h - l).toNat, by omega⟩
      rw [hn, rngI_last, List.append_nil, List.getLast?_concat]
      congr 1
      omega
  | q :: pre, p, m, k, hn, e => by
    rcases q with ⟨_ | l, _ | h⟩
    · cases e
    · cases e
    · cases e
    · obtain ⟨u, h1, h2⟩ := exp_last (pre := pre) (p := p) (m := m + ((h - l) + 1)) (k := k) hn.tail e
      refine ⟨u, h1, ?_⟩
      show (rngI l (h - l + 1).toNat ++ exp (pre ++ [p])).getLast? = _
      rw [List.getLast?_append, h2]
      rfl

/-! ### a member that is barred by none -/
def fpart (p : Iv) (many : Int) : Int × Int := match p with
  | (none, none) => (0, many - 1)
  | (none, some h) => ((h - many) + 1, h)
  | (some l, none) => (l, (l + many) - 1)
  | (some l, some h) => (l, h)
def mb (B : List Int) : List Iv → Option Int
  | [] => none
  | p :: r => match (rngI (fpart p (B.length + 1)).1 ((fpart p (B.length + 1)).2 + 1 - (fpart p (B.length + 1)).1).toNat).find? (fun n => !decide (n ∈ B)) with
    | some n => some n
    | none => mb B r
theorem pigeon : ∀ (n : Nat) (B : List Int) (b : Int), (∀ k, b ≤ k → k < b + n → k ∈ B) → n ≤ B.length
  | 0, _, _, _ => Nat.zero_le _
  | n + 1, B, b, h => by
    have hx := h (b + n) (by omega) (by omega)
    have ih := pigeon n (B.erase (b + n)) b fun k h1 h2 => (List.mem_erase_of_ne (by omega)).mpr (h k h1 (by omega))
    rw [List.length_erase_of_mem hx] at ih
    have := List.length_pos_of_mem hx
    omega
theorem mb_some {B : List Int} : ∀ {a : List Iv} {n : Int}, mb B a = some n → mem a n = true ∧ n ∉ B
  | [], _, h => by cases h
  | p :: r, n, h => by
    unfold mb at h
    split at h
    · rename_i x hx
      cases h
      have h1 := List.mem_of_find?_eq_some hx
      have h2 := List.find?_some hx
      rw [mem_rngI] at h1
      refine ⟨?_, by simpa using h2⟩
      rw [mem_cons]
      have : inI p n = true := by
        rcases p with ⟨_ | l, _ | u⟩ <;> simp [fpart, inI] at h1 ⊢ <;> omega
      rw [this, Bool.true_or]
    · obtain ⟨h1, h2⟩ := mb_some h
      exact ⟨by rw [mem_cons, h1, Bool.or_true], h2⟩
theorem mb_none {B : List Int} : ∀ {a : List Iv} {n : Int}, mb B a = none → mem a n = true → n ∈ B
  | [], _, _, h => by cases h
  | p :: r, n, h, hm => by
    unfold mb at h
    split at h
    · cases h
    · rename_i hx
      rw [List.find?_eq_none] at hx
      have hx' : ∀ k, (fpart p (B.length + 1)).1 ≤ k → k < (fpart p (B.length + 1)).2 + 1 → k ∈ B := fun k h1 h2 => by
        have := hx k (mem_rngI.mpr ⟨h1, by omega⟩)
        simpa using this
      rw [mem_cons, Bool.or_eq_true] at hm
      rcases hm with hm | hm
      · rcases p with ⟨_ | l, _ | u⟩
        · have := pigeon (B.length + 1) B 0 fun k h1 h2 => hx' k (by show (0 : Int) ≤ k; omega) (by show k < (B.length : Int) + 1 - 1 + 1; omega)
          omega
        · have := pigeon (B.length + 1) B (u - (B.length + 1) + 1) fun k h1 h2 => hx' k (by show u - ((B.length : Int) + 1) + 1 ≤ k; omega) (by show k < u + 1; omega)
          omega
        · have := pigeon (B.length + 1) B l fun k h1 h2 => hx' k (by show l ≤ k; omega) (by show k < l + ((B.length : Int) + 1) - 1 + 1; omega)
          omega
        · rw [inI_iff] at hm
          exact hx' n (hm.1 l rfl) (by have := hm.2 u rfl; show n < u + 1; omega)
      · exact mb_none h hm
end Rf

/-! What the defs of streamsure.sets do with plain data. -/
namespace Rf
open PySem PySem.Spec L2
def oD : Option Int → D
  | none => .non
  | some i => .int i
def iD (p : Iv) : D := .tup [oD p.1, oD p.2]
def sD (a : List Iv) : D := .tup (a.map iD)
def toO : D → Option (Option Int)
  | .non => some none
  | .int i => some (some i)
  | _ => none
def toIv : D → Option Iv
  | .tup [a, b] => match toO a, toO b with
    | some x, some y => some (x, y)
    | _, _ => none
  | _ => none
def toL : List D → Option (List Iv)
  | [] => some []
  | d :: r => match toIv d, toL r with
    | some p, some ps => some (p :: ps)
    | _, _ => none
def toS : D → Option (List Iv)
  | .tup l => toL l
  | .lst l => toL l
  | _ => none
theorem toO_D (o : Option Int) : toO (oD o) = some o := by cases o <;> rfl
theorem toIv_D (p : Iv) : toIv (iD p) = some p := by
  rcases p with ⟨a, b⟩
  show (match toO (oD a), toO (oD b) with
    | some x, some y => some (x, y)
    | _, _ => none) = _
  rw [toO_D, toO_D]
theorem toL_D : ∀ a : List Iv, toL (a.map iD) = some a
  | [] => rfl
  | p :: a => by
    rw [List.map_cons]
    unfold toL
    rw [toIv_D, toL_D a]
theorem toS_D (a : List Iv) : toS (sD a) = some a := toL_D a
theorem toS_L (a : List Iv) : toS (.lst (a.map iD)) = some a := toL_D a
theorem toO_inv {d : D} {o : Option Int} (h : toO d = some o) : d = oD o := by
  cases d <;> cases h <;> rfl
theorem toIv_inv {d : D} {p : Iv} (h : toIv d = some p) : d = iD p := by
  unfold toIv at h
  split at h
  · split at h
    · rename_i e1 e2
      cases h
      rw [toO_inv e1, toO_inv e2]
      rfl
    · cases h
  · cases h
theorem toL_inv : ∀ {l : List D} {a : List Iv}, toL l = some a → l = a.map iD
  | [], _, h => by cases h; rfl
  | d :: l, a, h => by
    unfold toL at h
    split at h
    · rename_i e1 e2
      cases h
      rw [toIv_inv e1, toL_inv e2]
      rfl
    · cases h
theorem toS_inv {d : D} {a : List Iv} (h : toS d = some a) : d = .tup (a.map iD) ∨ d = .lst (a.map iD) := by
  unfold toS at h
  split at h
  · rw [toL_inv h]; exact .inl rfl
  · rw [toL_inv h]; exact .inr rfl
  · cases h
theorem seq_toS {d : D} {a : List Iv} (h : toS d = some a) : ∃ k, seqOf d = some (k, a.map iD) := by
  rcases toS_inv h with e | e <;> subst e
  · exact ⟨_, rfl⟩
  · exact ⟨_, rfl⟩

def f__is_void : List D → Option D
  | [d] => (toIv d).map fun p => .bl (void p)
  | _ => none
def il__is_void : List IS := [.unp (.tp (.cons (.nm 1) (.cons (.nm 2) .nil))) (.var 0),
   .ret (.and (.notN (.var 1)) (.and (.notN (.var 2)) (.cmp .gt (.var 1) (.var 2))))]
theorem r__is_void (ds : List D) (d : D) (h : f__is_void ds = some d) (_ : ds.length = 1) : callP 3 il__is_void ds = some d := by
  match ds, h with
  | [x], h =>
    obtain ⟨p, e, rfl⟩ := Option.map_eq_some_iff.mp h
    rw [toIv_inv e]
    rcases p with ⟨_ | l, _ | h⟩ <;> rfl
end Rf

namespace Rf
open PySem PySem.Spec L2
/-! ### has, and the law's _law_in -/
def il_has : List IS := [.for (.tp (.cons (.nm 2) (.cons (.nm 3) .nil))) (.seq (.var 0)) [.iff (.and (.or (.val (.isN (.var 2))) (.val (.cmp .le (.var 2) (.var 1)))) (.or (.val (.isN (.var 3))) (.val (.cmp .le (.var 1) (.var 3))))) [.ret (.con (.bl true))] []],
   .ret (.con (.bl false))]
abbrev b_has := turnF (.tp (.cons (.nm 2) (.cons (.nm 3) .nil))) [.iff (.and (.or (.val (.isN (.var 2))) (.val (.cmp .le (.var 2) (.var 1)))) (.or (.val (.isN (.var 3))) (.val (.cmp .le (.var 1) (.var 3))))) [.ret (.con (.bl true))] []]
theorem s_has (p : Iv) (d0 : D) (n c : Int) (x y : Slot) : b_has (iD p) [.sh d0, .sh (.int n), x, y] c = some (if inI p n = true then .rt (.bl true) c else .nx [.sh d0, .sh (.int n), .sh (oD p.1), .sh (oD p.2)] c) := by
  rcases p with ⟨_ | l, _ | h⟩
  · rfl
  · by_cases h2 : n ≤ h <;> simp [turnF, iD, oD, bindG, bindGs, putS, IS.runs, IS.run, IT.run, IE.run, cmpD, truD, isNon, inI, h2]
  · by_cases h2 : l ≤ n <;> simp [turnF, iD, oD, bindG, bindGs, putS, IS.runs, IS.run, IT.run, IE.run, cmpD, truD, isNon, inI, h2]
  · by_cases h1 : l ≤ n <;> by_cases h2 : n ≤ h <;> simp [turnF, iD, oD, bindG, bindGs, putS, IS.runs, IS.run, IT.run, IE.run, cmpD, truD, isNon, inI, h1, h2]
theorem l_has : ∀ (a : List Iv) (d0 : D) (n c : Int) (x y : Slot), ∃ x' y', forGo b_has (a.map iD) [.sh d0, .sh (.int n), x, y] c = some (if mem a n = true then .rt (.bl true) c else .nx [.sh d0, .sh (.int n), x', y'] c)
  | [], d0, n, c, x, y => ⟨x, y, rfl⟩
  | p :: a, d0, n, c, x, y => by
    rw [List.map_cons, mem_cons]
    unfold forGo
    rw [s_has]
    cases inI p n with
    | true => exact ⟨x, y, rfl⟩
    | false => exact l_has a d0 n c _ _
def f_has : List D → Option D
  | [d, .int n] => (toS d).map fun a => .bl (mem a n)
  | _ => none
theorem r_has (ds : List D) (d : D) (h : f_has ds = some d) (_ : ds.length = 2) : callP 4 il_has ds = some d := by
  match ds, h with
  | [d0, .int n], h =>
    obtain ⟨a, e, rfl⟩ := Option.map_eq_some_iff.mp h
    obtain ⟨k, hk⟩ := seq_toS e
    refine callP_rt (c := 0) ?_
    show IS.runs il_has [.sh d0, .sh (.int n), .no, .no] 0 = _
    unfold il_has
    rw [runs_for (seq_run (c1 := 0) (d := d0) rfl hk)]
    obtain ⟨x, y, hx⟩ := l_has a d0 n 0 .no .no
    rw [hx]
    cases mem a n <;> rfl
/-! ### the law's _law_is_normal -/
end Rf

namespace Rf
open PySem PySem.Spec L2
/-! ### straight-line defs -/
def f__begin : List D → Option D
  | [d] => (toIv d).map fun p => match p.1 with
    | none => .tup [.int 0, .int 0]
    | some l => .tup [.int 1, .int l]
  | _ => none
def il__begin : List IS := [.set 1 (.ix (.of (.var 0)) (.con (.int 0))),
   .ret (.ite (.val (.isN (.var 1))) (.tup (.cons (.con (.int 0)) (.cons (.con (.int 0)) .nil))) (.tup (.cons (.con (.int 1)) (.cons (.var 1) .nil))))]
theorem r__begin (ds : List D) (d : D) (h : f__begin ds = some d) (_ : ds.length = 1) : callP 2 il__begin ds = some d := by
  match ds, h with
  | [x], h =>
    obtain ⟨p, e, rfl⟩ := Option.map_eq_some_iff.mp h
    rw [toIv_inv e]
    rcases p with ⟨_ | l, h⟩ <;> rfl
def f__reaches : List D → Option D
  | [d, e] => match toIv d, toO e with
    | some p, some o => some (.bl (reaches p o))
    | _, _ => none
  | _ => none
def il__reaches : List IS := [.set 2 (.ix (.of (.var 0)) (.con (.int 1))),
   .ret (.or (.isN (.var 1)) (.or (.isN (.var 2)) (.cmp .le (.var 1) (.bin .add (.var 2) (.con (.int 1))))))]
theorem r__reaches (ds : List D) (d : D) (h : f__reaches ds = some d) (_ : ds.length = 2) : callP 3 il__reaches ds = some d := by
  match ds, h with
  | [x, y], h =>
    have h' : (match toIv x, toO y with
      | some p, some o => some (.bl (reaches p o))
      | _, _ => none) = some d := h
    split at h'
    · rename_i p o e1 e2
      cases h'
      rw [toIv_inv e1, toO_inv e2]
      rcases p with ⟨a, _ | b⟩ <;> rcases o with _ | l <;> rfl
    · cases h'
def f__later_end : List D → Option D
  | [d, e] => match toO d, toO e with
    | some p, some o => some (oD (later p o))
    | _, _ => none
  | _ => none
def il__later_end : List IS := [.ret (.ite (.or (.val (.isN (.var 0))) (.val (.isN (.var 1)))) (.con .non) (.b2 .max (.var 0) (.var 1)))]
theorem r__later_end (ds : List D) (d : D) (h : f__later_end ds = some d) (_ : ds.length = 2) : callP 2 il__later_end ds = some d := by
  match ds, h with
  | [x, y], h =>
    have h' : (match toO x, toO y with
      | some p, some o => some (oD (later p o))
      | _, _ => none) = some d := h
    split at h'
    · rename_i p o e1 e2
      cases h'
      rw [toO_inv e1, toO_inv e2]
      rcases p with _ | b <;> rcases o with _ | l <;> rfl
    · cases h'
def f__finite_part : List D → Option D
  | [d, e, .int m] => match toO d, toO e with
    | some p, some o => some (.tup [.int (fpart (p, o) m).1, .int (fpart (p, o) m).2])
    | _, _ => none
  | _ => none
def il__finite_part : List IS := [.iff (.and (.val (.isN (.var 0))) (.val (.isN (.var 1)))) [.ret (.tup (.cons (.con (.int 0)) (.cons (.bin .sub (.var 2) (.con (.int 1))) .nil)))] [],
   .iff (.val (.isN (.var 0))) [.ret (.tup (.cons (.bin .add (.bin .sub (.var 1) (.var 2)) (.con (.int 1))) (.cons (.var 1) .nil)))] [],
   .iff (.val (.isN (.var 1))) [.ret (.tup (.cons (.var 0) (.cons (.bin .sub (.bin .add (.var 0) (.var 2)) (.con (.int 1))) .nil)))] [],
   .ret (.tup (.cons (.var 0) (.cons (.var 1) .nil)))]
theorem r__finite_part (ds : List D) (d : D) (h : f__finite_part ds = some d) (_ : ds.length = 3) : callP 3 il__finite_part ds = some d := by
  match ds, h with
  | [x, y, .int m], h =>
    have h' : (match toO x, toO y with
      | some p, some o => some (.tup [.int (fpart (p, o) m).1, .int (fpart (p, o) m).2])
      | _, _ => none) = some d := h
    split at h'
    · rename_i p o e1 e2
      cases h'
      rw [toO_inv e1, toO_inv e2]
      rcases p with _ | b <;> rcases o with _ | l <;> rfl
    · cases h'
theorem atI_last {α : Type} (l : List α) (x : α) : atI (l ++ [x]) (-1) = some x := by
  have h : ixN (l ++ [x]).length (-1) = some l.length := by
    unfold ixN
    rw [if_neg (by omega), List.length_append, List.length_singleton, if_pos (by omega)]
    congr 1
    omega
  unfold atI
  rw [h]
  show (l ++ [x])[l.length]? = some x
  rw [List.getElem?_append_right (Nat.le_refl _), Nat.sub_self]
  rfl
def f_least : List D → Option D
  | [d] => (toS d).map fun a => match a with
    | [] => .non
    | p :: _ => oD p.1
  | _ => none
def il_least : List IS := [.ret (.ite (.val (.var 0)) (.ix (.of (.ix (.of (.var 0)) (.con (.int 0)))) (.con (.int 0))) (.con .non))]
theorem atI_zero {α : Type} (x : α) (l : List α) : atI (x :: l) 0 = some x := by
  have h : ixN (x :: l).length 0 = some 0 := by
    unfold ixN
    rw [if_pos (by omega), List.length_cons, if_pos (by omega)]
    rfl
  unfold atI
  rw [h]
  rfl
theorem r_least (ds : List D) (d : D) (h : f_least ds = some d) (_ : ds.length = 1) : callP 1 il_least ds = some d := by
  match ds, h with
  | [x], h =>
    obtain ⟨a, e, rfl⟩ := Option.map_eq_some_iff.mp h
    refine callP_rt (c := 0) ?_
    rcases toS_inv e with e' | e' <;> subst e' <;> rcases a with _ | ⟨p, r⟩ <;> simp [il_least, IS.runs, IS.run, IT.run, IE.run, IL.run, truD, seqOf, atI_zero, iD]
def f_greatest : List D → Option D
  | [d] => (toS d).map fun a => match a.getLast? with
    | none => .non
    | some p => oD p.2
  | _ => none
def il_greatest : List IS := [.ret (.ite (.val (.var 0)) (.ix (.of (.ix (.of (.var 0)) (.neg (.con (.int 1))))) (.con (.int 1))) (.con .non))]
theorem atI_one {α : Type} (x y : α) : atI [x, y] 1 = some y := rfl
theorem isE {α : Type} (l : List α) (x : α) : (l ++ [x]).isEmpty = false := by cases l <;> rfl
theorem r_greatest (ds : List D) (d : D) (h : f_greatest ds = some d) (_ : ds.length = 1) : callP 1 il_greatest ds = some d := by
  match ds, h with
  | [x], h =>
    obtain ⟨a, e, rfl⟩ := Option.map_eq_some_iff.mp h
    refine callP_rt (c := 0) ?_
    rcases last_cases a with ea | ⟨pre, q, ea⟩ <;> subst ea <;> rcases toS_inv e with e' | e' <;> subst e' <;> simp [il_greatest, IS.runs, IS.run, IT.run, IE.run, IL.run, truD, seqOf, atI_last, atI_one, iD, isE]
/-! ### loops -/
def f_how_many : List D → Option D
  | [d] => (toS d).map fun a => oD (howMany a)
  | _ => none
def il_how_many : List IS := [.set 1 (.con (.int 0)),
   .for (.tp (.cons (.nm 2) (.cons (.nm 3) .nil))) (.seq (.var 0)) [.iff (.or (.val (.isN (.var 2))) (.val (.isN (.var 3)))) [.ret (.con .non)] [],
    .aug 1 false (.bin .add (.bin .sub (.var 3) (.var 2)) (.con (.int 1)))],
   .ret (.var 1)]
abbrev b_hm := turnF (.tp (.cons (.nm 2) (.cons (.nm 3) .nil))) [.iff (.or (.val (.isN (.var 2))) (.val (.isN (.var 3)))) [.ret (.con .non)] [],
    .aug 1 false (.bin .add (.bin .sub (.var 3) (.var 2)) (.con (.int 1)))]
theorem l_hm : ∀ (a : List Iv) (d0 : D) (m c : Int) (x y : Slot), ∃ x' y', forGo b_hm (a.map iD) [.sh d0, .sh (.int m), x, y] c = some (match hm m a with
    | none => .rt .non c
    | some k => .nx [.sh d0, .sh (.int k), x', y'] c)
  | [], d0, m, c, x, y => ⟨x, y, rfl⟩
  | (none, h) :: a, d0, m, c, x, y => ⟨x, y, rfl⟩
  | (some l, none) :: a, d0, m, c, x, y => ⟨x, y, rfl⟩
  | (some l, some h) :: a, d0, m, c, x, y => l_hm a d0 (m + ((h - l) + 1)) c _ _
theorem r_how_many (ds : List D) (d : D) (h : f_how_many ds = some d) (_ : ds.length = 1) : callP 4 il_how_many ds = some d := by
  match ds, h with
  | [d0], h =>
    obtain ⟨a, e, rfl⟩ := Option.map_eq_some_iff.mp h
    obtain ⟨k, hk⟩ := seq_toS e
    refine callP_rt (c := 0) ?_
    show IS.runs il_how_many [.sh d0, .no, .no, .no] 0 = _
    unfold il_how_many
    rw [runs_cons (ρ1 := [.sh d0, .sh (.int 0), .no, .no]) (c1 := 0) rfl, runs_for (seq_run (c1 := 0) (d := d0) rfl hk)]
    obtain ⟨x, y, hx⟩ := l_hm a d0 0 0 .no .no
    rw [hx]
    unfold howMany
    cases hm 0 a <;> rfl
def f_others : List D → Option D
  | [d] => match toS d with
    | some a => if a.length ≤ 1000 then some (sD (others a)) else none
    | none => none
  | _ => none
def il_others : List IS := [.setO 1 .nil,
   .set 2 (.con .non),
   .for (.tp (.cons (.nm 3) (.cons (.nm 4) .nil))) (.seq (.var 0)) [.iff (.val (.notN (.var 3))) [.app 1 (.tup (.cons (.var 2) (.cons (.bin .sub (.var 3) (.con (.int 1))) .nil)))] [],
    .iff (.val (.isN (.var 4))) [.ret (.tupOf (.own 1))] [],
    .set 2 (.bin .add (.var 4) (.con (.int 1)))],
   .app 1 (.tup (.cons (.var 2) (.cons (.con .non) .nil))),
   .ret (.tupOf (.own 1))]
abbrev b_oth := turnF (.tp (.cons (.nm 3) (.cons (.nm 4) .nil))) [.iff (.val (.notN (.var 3))) [.app 1 (.tup (.cons (.var 2) (.cons (.bin .sub (.var 3) (.con (.int 1))) .nil)))] [],
    .iff (.val (.isN (.var 4))) [.ret (.tupOf (.own 1))] [],
    .set 2 (.bin .add (.var 4) (.con (.int 1)))]
theorem two_line : 2 ≤ line := by decide
theorem two_line2 : ¬ line ≤ 1 := by decide
theorem s_oth (p : Iv) (d0 : D) (fd : List D) (b : Option Int) (c : Int) (x y : Slot) (hl : fd.length < line) : b_oth (iD p) [.sh d0, .ow fd, .sh (oD b), x, y] c = some (match p with
    | (none, none) => .rt (.tup fd) c
    | (none, some h) => .nx [.sh d0, .ow fd, .sh (.int (h + 1)), .sh .non, .sh (.int h)] c
    | (some l, none) => .rt (.tup (fd ++ [iD (b, some (l - 1))])) c
    | (some l, some h) => .nx [.sh d0, .ow (fd ++ [iD (b, some (l - 1))]), .sh (.int (h + 1)), .sh (.int l), .sh (.int h)] c) := by
  rcases p with ⟨_ | l, _ | h⟩
  · rfl
  · rfl
  · simp [turnF, iD, oD, bindG, bindGs, putS, IS.runs, IS.run, IT.run, IE.run, IA.run, IL.run, binD, truD, isNon, hl, two_line]
  · simp [turnF, iD, oD, bindG, bindGs, putS, IS.runs, IS.run, IT.run, IE.run, IA.run, IL.run, binD, truD, isNon, hl, two_line]
theorem l_oth : ∀ (a : List Iv) (d0 : D) (fd : List D) (b : Option Int) (c : Int) (x y : Slot), fd.length + a.length < line →
    forGo b_oth (a.map iD) [.sh d0, .ow fd, .sh (oD b), x, y] c = some (.rt (.tup (fd ++ (oth b a).map iD)) c) ∨
    ∃ fd' b' x' y', forGo b_oth (a.map iD) [.sh d0, .ow fd, .sh (oD b), x, y] c = some (.nx [.sh d0, .ow fd', .sh (oD b'), x', y'] c) ∧ fd' ++ [iD (b', none)] = fd ++ (oth b a).map iD ∧ fd'.length < line
  | [], d0, fd, b, c, x, y, hl => .inr ⟨fd, b, x, y, rfl, rfl, by simpa using hl⟩
  | p :: a, d0, fd, b, c, x, y, hl => by
    rw [List.length_cons] at hl
    rw [List.map_cons]
    unfold forGo
    rw [s_oth p d0 fd b c x y (by omega)]
    rcases p with ⟨_ | l, _ | h⟩
    · exact .inl (by show _ = some (Out.rt (.tup (fd ++ [])) c); rw [List.append_nil])
    · exact l_oth a d0 fd (some (h + 1)) c _ _ (by omega)
    · exact .inl rfl
    · have := l_oth a d0 (fd ++ [iD (b, some (l - 1))]) (some (h + 1)) c (.sh (.int l)) (.sh (.int h)) (by rw [List.length_append, List.length_singleton]; omega)
      rw [List.append_assoc] at this
      exact this
theorem r_others (ds : List D) (d : D) (h : f_others ds = some d) (_ : ds.length = 1) : callP 5 il_others ds = some d := by
  match ds, h with
  | [d0], h =>
    have h' : (match toS d0 with
      | some a => if a.length ≤ 1000 then some (sD (others a)) else none
      | none => none) = some d := h
    split at h'
    · rename_i a e
      split at h'
      · rename_i hlen
        cases h'
        obtain ⟨k, hk⟩ := seq_toS e
        refine callP_rt (c := 0) ?_
        show IS.runs il_others [.sh d0, .no, .no, .no, .no] 0 = _
        unfold il_others
        have hline : 1001 < line := by decide
        rw [runs_cons (ρ1 := [.sh d0, .ow [], .no, .no, .no]) (c1 := 0) rfl, runs_cons (ρ1 := [.sh d0, .ow [], .sh (oD none), .no, .no]) (c1 := 0) rfl, runs_for (seq_run (c1 := 0) (d := d0) rfl hk)]
        rcases l_oth a d0 [] none 0 .no .no (by rw [List.length_nil]; omega) with hx | ⟨fd', b', x', y', hx, h2, h3⟩
        · rw [hx]; rfl
        · rw [hx]
          show IS.runs _ [.sh d0, .ow fd', .sh (oD b'), x', y'] 0 = _
          rw [runs_cons (ρ1 := [.sh d0, .ow (fd' ++ [iD (b', none)]), .sh (oD b'), x', y']) (c1 := 0) (by simp [IS.run, IE.run, IA.run, putS, h3, two_line, iD, oD])]
          rw [h2]
          rfl
      · cases h'
    · cases h'
end Rf

namespace Rf
open PySem PySem.Spec L2
/-! ### the law's test of the form -/
open Classical in
noncomputable def f__law_is_normal : List D → Option D
  | [d] => match toS d with
    | some a => if Nf a then some (.bl true) else none
    | none => none
  | _ => none
def il__law_is_normal : List IS := [.for (.tp (.cons (.nm 1) (.cons (.nm 2) .nil))) (.seq (.var 0)) [.iff (.and (.val (.notN (.var 1))) (.and (.val (.notN (.var 2))) (.val (.cmp .gt (.var 1) (.var 2))))) [.ret (.con (.bl false))] []],
   .for (.tp (.cons (.tp (.cons (.nm 1) (.cons (.nm 2) .nil))) (.cons (.tp (.cons (.nm 3) (.cons (.nm 4) .nil))) .nil))) (.zip (.var 0) (.sli (.of (.var 0)) (.at (.con (.int 1))) .no)) [.iff (.or (.val (.isN (.var 2))) (.or (.val (.isN (.var 3))) (.val (.cmp .le (.var 3) (.bin .add (.var 2) (.con (.int 1))))))) [.ret (.con (.bl false))] []],
   .ret (.con (.bl true))]
abbrev b_ln1 := turnF (.tp (.cons (.nm 1) (.cons (.nm 2) .nil))) [.iff (.and (.val (.notN (.var 1))) (.and (.val (.notN (.var 2))) (.val (.cmp .gt (.var 1) (.var 2))))) [.ret (.con (.bl false))] []]
abbrev b_ln2 := turnF (.tp (.cons (.tp (.cons (.nm 1) (.cons (.nm 2) .nil))) (.cons (.tp (.cons (.nm 3) (.cons (.nm 4) .nil))) .nil))) [.iff (.or (.val (.isN (.var 2))) (.or (.val (.isN (.var 3))) (.val (.cmp .le (.var 3) (.bin .add (.var 2) (.con (.int 1))))))) [.ret (.con (.bl false))] []]
theorem s_ln1 (p : Iv) (d0 : D) (c : Int) (x y z w : Slot) (hv : void p = false) : b_ln1 (iD p) [.sh d0, x, y, z, w] c = some (.nx [.sh d0, .sh (oD p.1), .sh (oD p.2), z, w] c) := by
  rcases p with ⟨_ | l, _ | h⟩
  · rfl
  · rfl
  · rfl
  · have := void_le hv
    have h2 : ¬ h < l := by omega
    simp [turnF, iD, oD, bindG, bindGs, putS, IS.runs, IS.run, IT.run, IE.run, cmpD, truD, isNon, h2]
theorem l_ln1 : ∀ (a : List Iv) (d0 : D) (c : Int) (x y z w : Slot), (∀ p ∈ a, void p = false) → ∃ x' y', forGo b_ln1 (a.map iD) [.sh d0, x, y, z, w] c = some (.nx [.sh d0, x', y', z, w] c)
  | [], d0, c, x, y, z, w, _ => ⟨x, y, rfl⟩
  | p :: a, d0, c, x, y, z, w, h => by
    rw [List.map_cons]
    unfold forGo
    rw [s_ln1 p d0 c x y z w (h p List.mem_cons_self)]
    exact l_ln1 a d0 c _ _ z w fun q hq => h q (List.mem_cons_of_mem _ hq)
theorem s_ln2 (p q : Iv) (d0 : D) (c : Int) (x y z w : Slot) (hs : sep p q) : b_ln2 (.tup [iD p, iD q]) [.sh d0, x, y, z, w] c = some (.nx [.sh d0, .sh (oD p.1), .sh (oD p.2), .sh (oD q.1), .sh (oD q.2)] c) := by
  obtain ⟨h, l, e1, e2, h3⟩ := hs
  rcases p with ⟨a, b⟩
  rcases q with ⟨a', b'⟩
  cases e1
  cases e2
  have h2 : ¬ l ≤ h + 1 := by omega
  simp [turnF, iD, oD, bindG, bindGs, putS, IS.runs, IS.run, IT.run, IE.run, cmpD, binD, truD, isNon, h2]
theorem l_ln2 : ∀ (a : List Iv) (d0 : D) (c : Int) (x y z w : Slot), Nf a → ∃ x' y' z' w', forGo b_ln2 (zipD (a.map iD) (a.map iD).tail) [.sh d0, x, y, z, w] c = some (.nx [.sh d0, x', y', z', w'] c)
  | [], d0, c, x, y, z, w, _ => ⟨x, y, z, w, rfl⟩
  | [p], d0, c, x, y, z, w, _ => ⟨x, y, z, w, rfl⟩
  | p :: q :: a, d0, c, x, y, z, w, h => by
    show ∃ x' y' z' w', forGo b_ln2 (.tup [iD p, iD q] :: zipD ((q :: a).map iD) ((q :: a).map iD).tail) _ _ = _
    unfold forGo
    rw [s_ln2 p q d0 c x y z w (h.gap q List.mem_cons_self)]
    exact l_ln2 (q :: a) d0 c _ _ _ _ h.tail
theorem cut_tail (l : List D) : cutD l (some 1) none = l.tail := by
  cases l with
  | nil => rfl
  | cons d l =>
    unfold cutD
    have e1 : HT.sIx (d :: l).length 0 (some 1) = 1 := by
      show (if (1 : Int) < 0 then ((1 : Int) + ((d :: l).length : Int)).toNat else min (1 : Int).toNat (d :: l).length) = 1
      rw [if_neg (by omega), List.length_cons]
      show min 1 (l.length + 1) = 1
      omega
    rw [e1]
    show (l.take ((d :: l).length - 1)) = l
    rw [List.length_cons, Nat.add_sub_cancel]
    exact List.take_length
open Classical in
theorem r__law_is_normal (ds : List D) (d : D) (h : f__law_is_normal ds = some d) (_ : ds.length = 1) : callP 5 il__law_is_normal ds = some d := by
  match ds, h with
  | [d0], h =>
    have h' : (match toS d0 with
      | some a => if Nf a then some (.bl true) else none
      | none => none) = some d := h
    split at h'
    · rename_i a e
      split at h'
      · rename_i hn
        obtain rfl := Option.some.inj h'
        obtain ⟨k, hk⟩ := seq_toS e
        refine callP_rt (c := 0) ?_
        show IS.runs il__law_is_normal [.sh d0, .no, .no, .no, .no] 0 = _
        unfold il__law_is_normal
        rw [runs_for (seq_run (c1 := 0) (d := d0) rfl hk)]
        obtain ⟨x, y, hx⟩ := l_ln1 a d0 0 .no .no .no .no hn.ok
        rw [hx]
        have hz : (II.zip (.var 0) (.sli (.of (.var 0)) (.at (.con (.int 1))) .no)).run [.sh d0, x, y, .no, .no] 0 = some (zipD (a.map iD) (a.map iD).tail, 0) := by
          have e1 : (IE.sli (.of (.var 0)) (.at (.con (.int 1))) .no).run [.sh d0, x, y, .no, .no] 0 = some (if k = true then .lst (a.map iD).tail else .tup (a.map iD).tail, 0) := by
            simp [IE.run, IL.run, IO.run, hk, cut_tail]
          show (match some (d0, 0) with
            | some (x, c1) => match (IE.sli (.of (.var 0)) (.at (.con (.int 1))) .no).run [.sh d0, _, _, .no, .no] c1 with
              | some (y, c2) => match seqOf x, seqOf y with
                | some (p, xs), some (q, ys) => if p = q then some (zipD xs ys, c2) else none
                | _, _ => none
              | none => none
            | none => none) = _
          dsimp only
          rw [e1]
          dsimp only
          rw [hk]
          cases k <;> rfl
        show IS.runs (.for _ _ _ :: _) _ 0 = _
        rw [runs_for hz]
        obtain ⟨x', y', z', w', hx'⟩ := l_ln2 a d0 0 x y .no .no hn
        rw [hx']
        rfl
      · cases h'
    · cases h'
/-! ### member_but -/
def bdO : Option Int → Bool
  | none => true
  | some i => decide (-1000000 ≤ i ∧ i ≤ 1000000)
def bdB (a : List Iv) : Bool := a.all fun p => bdO p.1 && bdO p.2
def toN (d : D) : Option (List Int) := match d with
  | .lst l => D.ints l
  | .tup [] => some []
  | _ => none
def f_member_but : List D → Option D
  | [d, s] => match toS d, toN s with
    | some a, some ns => if bdB a = true ∧ ns.length < 1000 ∧ (dedup ns).length ≤ ns.length then some (oD (mb (dedup ns) a)) else none
    | _, _ => none
  | _ => none
def il_member_but : List IS := [.setS 2 (.of (.var 1)),
   .for (.tp (.cons (.nm 3) (.cons (.nm 4) .nil))) (.seq (.var 0)) [.unp (.tp (.cons (.nm 5) (.cons (.nm 6) .nil))) (.call 3 f__finite_part (.cons (.var 3) (.cons (.var 4) (.cons (.bin .add (.lenS 2) (.con (.int 1))) .nil)))),
    .for (.nm 7) (.rng2 (.var 5) (.bin .add (.var 6) (.con (.int 1)))) [.iff (.val (.inS true (.var 7) 2)) [.ret (.var 7)] []]],
   .ret (.con .non)]
abbrev b_mb1 := turnF (.tp (.cons (.nm 3) (.cons (.nm 4) .nil))) [.unp (.tp (.cons (.nm 5) (.cons (.nm 6) .nil))) (.call 3 f__finite_part (.cons (.var 3) (.cons (.var 4) (.cons (.bin .add (.lenS 2) (.con (.int 1))) .nil)))),
    .for (.nm 7) (.rng2 (.var 5) (.bin .add (.var 6) (.con (.int 1)))) [.iff (.val (.inS true (.var 7) 2)) [.ret (.var 7)] []]]
abbrev b_mb2 := turnF (.nm 7) [.iff (.val (.inS true (.var 7) 2)) [.ret (.var 7)] []]
theorem l_mb2 : ∀ (ks B : List Int) (d0 d1 : D) (c : Int) (x1 x2 x3 x4 x5 : Slot), ∃ x5', forGo b_mb2 (ks.map .int) [.sh d0, .sh d1, .st B, x1, x2, x3, x4, x5] c = some (match ks.find? (fun n => !decide (n ∈ B)) with
    | some n => .rt (.int n) c
    | none => .nx [.sh d0, .sh d1, .st B, x1, x2, x3, x4, x5'] c)
  | [], B, d0, d1, c, x1, x2, x3, x4, x5 => ⟨x5, rfl⟩
  | k :: ks, B, d0, d1, c, x1, x2, x3, x4, x5 => by
    rw [List.map_cons, List.find?_cons]
    unfold forGo
    by_cases h : k ∈ B
    · have e : b_mb2 (.int k) [.sh d0, .sh d1, .st B, x1, x2, x3, x4, x5] c = some (.nx [.sh d0, .sh d1, .st B, x1, x2, x3, x4, .sh (.int k)] c) := by
        simp [turnF, bindG, putS, IS.runs, IS.run, IT.run, IE.run, truD, h]
      rw [e, show (!decide (k ∈ B)) = false from by simp [h]]
      exact l_mb2 ks B d0 d1 c x1 x2 x3 x4 _
    · have e : b_mb2 (.int k) [.sh d0, .sh d1, .st B, x1, x2, x3, x4, x5] c = some (.rt (.int k) c) := by
        simp [turnF, bindG, putS, IS.runs, IS.run, IT.run, IE.run, truD, h]
      rw [e, show (!decide (k ∈ B)) = true from by simp [h]]
      exact ⟨x5, rfl⟩
theorem rng_map (lo : Int) (n : Nat) : rng lo n = (rngI lo n).map .int := by
  unfold rng rngI
  rw [List.map_map]
  rfl
theorem fpart_bd {p : Iv} {m : Int} (h : (bdO p.1 && bdO p.2) = true) (h1 : 0 ≤ m) (h2 : m ≤ 1000) : -2000000 ≤ (fpart p m).1 ∧ (fpart p m).1 ≤ 2000000 ∧ -2000000 ≤ (fpart p m).2 ∧ (fpart p m).2 ≤ 2000000 := by
  rw [Bool.and_eq_true] at h
  rcases p with ⟨_ | l, _ | u⟩ <;> simp [bdO, fpart] at h ⊢ <;> omega
theorem s_mb1 (p : Iv) (B : List Int) (d0 d1 : D) (c : Int) (x1 x2 x3 x4 x5 : Slot) (hB : B.length < 1000) (hp : (bdO p.1 && bdO p.2) = true) : ∃ y1 y2 y3 y4 y5, b_mb1 (iD p) [.sh d0, .sh d1, .st B, x1, x2, x3, x4, x5] c = some (match (rngI (fpart p (B.length + 1)).1 ((fpart p (B.length + 1)).2 + 1 - (fpart p (B.length + 1)).1).toNat).find? (fun n => !decide (n ∈ B)) with
    | some n => .rt (.int n) c
    | none => .nx [.sh d0, .sh d1, .st B, y1, y2, y3, y4, y5] c) := by
  obtain ⟨h1, h2, h3, h4⟩ := fpart_bd (m := B.length + 1) hp (by omega) (by omega)
  have e0 : b_mb1 (iD p) [.sh d0, .sh d1, .st B, x1, x2, x3, x4, x5] c = IS.runs [.unp (.tp (.cons (.nm 5) (.cons (.nm 6) .nil))) (.call 3 f__finite_part (.cons (.var 3) (.cons (.var 4) (.cons (.bin .add (.lenS 2) (.con (.int 1))) .nil)))),
    .for (.nm 7) (.rng2 (.var 5) (.bin .add (.var 6) (.con (.int 1)))) [.iff (.val (.inS true (.var 7) 2)) [.ret (.var 7)] []]] [.sh d0, .sh d1, .st B, .sh (oD p.1), .sh (oD p.2), x3, x4, x5] c := rfl
  have ef : f__finite_part [oD p.1, oD p.2, .int ((B.length : Int) + 1)] = some (.tup [.int (fpart p (B.length + 1)).1, .int (fpart p (B.length + 1)).2]) := by
    show (match toO (oD p.1), toO (oD p.2) with
      | some q, some o => some (D.tup [.int (fpart (q, o) ((B.length : Int) + 1)).1, .int (fpart (q, o) ((B.length : Int) + 1)).2])
      | _, _ => none) = _
    rw [toO_D, toO_D]
  have e1 : IS.run (.unp (.tp (.cons (.nm 5) (.cons (.nm 6) .nil))) (.call 3 f__finite_part (.cons (.var 3) (.cons (.var 4) (.cons (.bin .add (.lenS 2) (.con (.int 1))) .nil))))) [.sh d0, .sh d1, .st B, .sh (oD p.1), .sh (oD p.2), x3, x4, x5] c
      = some (.nx [.sh d0, .sh d1, .st B, .sh (oD p.1), .sh (oD p.2), .sh (.int (fpart p (B.length + 1)).1), .sh (.int (fpart p (B.length + 1)).2), x5] c) := by
    have hB2 : B.length < 100000 := by omega
    simp [IS.run, IE.run, IA.run, binD, hB2, ef, bindG, bindGs, putS]
  rw [e0, runs_cons e1]
  have hi : (II.rng2 (.var 5) (.bin .add (.var 6) (.con (.int 1)))).run [.sh d0, .sh d1, .st B, .sh (oD p.1), .sh (oD p.2), .sh (.int (fpart p (B.length + 1)).1), .sh (.int (fpart p (B.length + 1)).2), x5] c
      = some ((rngI (fpart p (B.length + 1)).1 ((fpart p (B.length + 1)).2 + 1 - (fpart p (B.length + 1)).1).toNat).map .int, c) := by
    rw [← rng_map]
    have hc : -(2 ^ 62) ≤ (fpart p (B.length + 1)).1 ∧ (fpart p (B.length + 1)).1 < 2 ^ 62 ∧ -(2 ^ 62) ≤ (fpart p (B.length + 1)).2 + 1 ∧ (fpart p (B.length + 1)).2 + 1 < 2 ^ 62 := by omega
    show (if -(2 ^ 62) ≤ (fpart p (B.length + 1)).1 ∧ (fpart p (B.length + 1)).1 < 2 ^ 62 ∧ -(2 ^ 62) ≤ (fpart p (B.length + 1)).2 + 1 ∧ (fpart p (B.length + 1)).2 + 1 < 2 ^ 62 then some (rng (fpart p (B.length + 1)).1 ((fpart p (B.length + 1)).2 + 1 - (fpart p (B.length + 1)).1).toNat, c) else none) = _
    rw [if_pos hc]
  rw [runs_for hi]
  obtain ⟨x5', hx⟩ := l_mb2 (rngI (fpart p (B.length + 1)).1 ((fpart p (B.length + 1)).2 + 1 - (fpart p (B.length + 1)).1).toNat) B d0 d1 c (.sh (oD p.1)) (.sh (oD p.2)) (.sh (.int (fpart p (B.length + 1)).1)) (.sh (.int (fpart p (B.length + 1)).2)) x5
  rw [hx]
  refine ⟨.sh (oD p.1), .sh (oD p.2), .sh (.int (fpart p (B.length + 1)).1), .sh (.int (fpart p (B.length + 1)).2), x5', ?_⟩
  cases (rngI (fpart p (B.length + 1)).1 ((fpart p (B.length + 1)).2 + 1 - (fpart p (B.length + 1)).1).toNat).find? (fun n => !decide (n ∈ B)) <;> rfl
theorem l_mb1 : ∀ (a : List Iv) (B : List Int) (d0 d1 : D) (c : Int) (x1 x2 x3 x4 x5 : Slot), B.length < 1000 → bdB a = true → ∃ y1 y2 y3 y4 y5, forGo b_mb1 (a.map iD) [.sh d0, .sh d1, .st B, x1, x2, x3, x4, x5] c = some (match mb B a with
    | some n => .rt (.int n) c
    | none => .nx [.sh d0, .sh d1, .st B, y1, y2, y3, y4, y5] c)
  | [], B, d0, d1, c, x1, x2, x3, x4, x5, _, _ => ⟨x1, x2, x3, x4, x5, rfl⟩
  | p :: a, B, d0, d1, c, x1, x2, x3, x4, x5, hB, ha => by
    have ha' : ((bdO p.1 && bdO p.2) && bdB a) = true := ha
    rw [Bool.and_eq_true] at ha'
    obtain ⟨y1, y2, y3, y4, y5, e⟩ := s_mb1 p B d0 d1 c x1 x2 x3 x4 x5 hB ha'.1
    rw [List.map_cons]
    unfold forGo
    rw [e]
    unfold mb
    cases (rngI (fpart p (B.length + 1)).1 ((fpart p (B.length + 1)).2 + 1 - (fpart p (B.length + 1)).1).toNat).find? (fun n => !decide (n ∈ B)) with
    | some n => exact ⟨x1, x2, x3, x4, x5, rfl⟩
    | none => exact l_mb1 a B d0 d1 c y1 y2 y3 y4 y5 hB ha'.2
theorem r_member_but (ds : List D) (d : D) (h : f_member_but ds = some d) (_ : ds.length = 2) : callP 8 il_member_but ds = some d := by
  match ds, h with
  | [d0, s], h =>
    have h' : (match toS d0, toN s with
      | some a, some ns => if bdB a = true ∧ ns.length < 1000 ∧ (dedup ns).length ≤ ns.length then some (oD (mb (dedup ns) a)) else none
      | _, _ => none) = some d := h
    split at h'
    · rename_i a ns e1 e2
      split at h'
      · rename_i hc
        cases h'
        obtain ⟨k, hk⟩ := seq_toS e1
        refine callP_rt (c := 0) ?_
        show IS.runs il_member_but [.sh d0, .sh s, .no, .no, .no, .no, .no, .no] 0 = _
        unfold il_member_but
        have e3 : IS.run (.setS 2 (.of (.var 1))) [.sh d0, .sh s, .no, .no, .no, .no, .no, .no] 0 = some (.nx [.sh d0, .sh s, .st (dedup ns), .no, .no, .no, .no, .no] 0) := by
          unfold toN at e2
          split at e2
          · simp [IS.run, IL.run, IE.run, seqOf, e2, hc.2.1, putS]
          · cases e2
            rfl
          · cases e2
        rw [runs_cons e3, runs_for (seq_run (c1 := 0) (d := d0) rfl hk)]
        obtain ⟨y1, y2, y3, y4, y5, hx⟩ := l_mb1 a (dedup ns) d0 s 0 .no .no .no .no .no (by omega) hc.1
        rw [hx]
        cases mb (dedup ns) a <;> rfl
      · cases h'
    · cases h'
def f_some_member : List D → Option D
  | [d] => match toS d with
    | some a => if bdB a = true then some (oD (mb [] a)) else none
    | none => none
  | _ => none
def il_some_member : List IS := [.ret (.call 2 f_member_but (.cons (.var 0) (.cons (.tup .nil) .nil)))]
theorem r_some_member (ds : List D) (d : D) (h : f_some_member ds = some d) (_ : ds.length = 1) : callP 1 il_some_member ds = some d := by
  match ds, h with
  | [d0], h =>
    have h' : (match toS d0 with
      | some a => if bdB a = true then some (oD (mb [] a)) else none
      | none => none) = some d := h
    split at h'
    · rename_i a e1
      split at h'
      · rename_i hc
        cases h'
        have e2 : f_member_but [d0, .tup []] = some (oD (mb [] a)) := by
          show (match toS d0, some ([] : List Int) with
            | some a, some ns => if bdB a = true ∧ ns.length < 1000 ∧ (dedup ns).length ≤ ns.length then some (oD (mb (dedup ns) a)) else none
            | _, _ => none) = _
          rw [e1]
          exact if_pos ⟨hc, by decide, Nat.le_refl _⟩
        refine callP_rt (c := 0) ?_
        simp [il_some_member, IS.runs, IS.run, IE.run, IA.run, e2]
      · cases h'
    · cases h'
end Rf

namespace Rf
open PySem PySem.Spec L2
/-! ### normal -/
def kx (p : Iv) : Int := match p.1 with
  | none => 0
  | some _ => 1
def ky (p : Iv) : Int := match p.1 with
  | none => 0
  | some l => l
def kD (p : Iv) : D := .tup [.int (kx p), .int (ky p)]
def kP (p : Iv) : PyData := .tuple [.int (kx p), .int (ky p)]
theorem begin_D (p : Iv) : f__begin [iD p] = some (kD p) := by
  show (toIv (iD p)).map _ = _
  rw [toIv_D]
  rcases p with ⟨_ | l, h⟩ <;> rfl
theorem keysD_D : ∀ l : List Iv, keysD f__begin (l.map iD) = some (l.map kD)
  | [] => rfl
  | p :: l => by
    rw [List.map_cons]
    unfold keysD
    rw [begin_D, keysD_D l]
    rfl
theorem kD_pd (p : Iv) : (kD p).pd = some (kP p) := rfl
theorem srtOk_kP (l : List Iv) : srtOk (l.map kP) = true := by
  unfold srtOk
  rw [Bool.and_eq_true, Bool.and_eq_true, Bool.or_eq_true]
  refine ⟨⟨?_, .inl ?_⟩, ?_⟩
  · rw [List.all_eq_true]
    intro a ha
    rw [List.all_eq_true]
    intro b hb
    obtain ⟨p, _, rfl⟩ := List.mem_map.mp ha
    obtain ⟨q, _, rfl⟩ := List.mem_map.mp hb
    rfl
  · rw [List.all_eq_true]
    intro a ha
    obtain ⟨p, _, rfl⟩ := List.mem_map.mp ha
    rfl
  · rw [List.all_eq_true]
    intro a ha
    obtain ⟨p, _, rfl⟩ := List.mem_map.mp ha
    exact decide_eq_true (Nat.le_trans (m := 1) (Nat.le_of_eq (rfl : (kP p).depth = 1)) (show (1 : Nat) ≤ 60 by decide))
theorem le_key (p q : Iv) : PySem.W.dataLe false (fun b : PyData × D => b.1) (kP p, iD p) (kP q, iD q) = lowLe p q := by
  have e : PySem.W.dataLe false (fun b : PyData × D => b.1) (kP p, iD p) (kP q, iD q) = PySem.W.dataLe false (fun b : Iv => (.tuple [.int (kx b), .int (ky b)] : PyData)) p q := rfl
  rw [e, PySem.W.dataLe_ii]
  rcases p with ⟨_ | a, u⟩ <;> rcases q with ⟨_ | b, w⟩ <;> simp [kx, ky, lowLe]
theorem byKey_D (l : List Iv) : byKey (l.map kP) (l.map iD) = (sortI l).map iD := by
  unfold byKey sortI
  have e : (l.map kP).zip (l.map iD) = l.map fun p => (kP p, iD p) := by
    induction l with
    | nil => rfl
    | cons p l ih => rw [List.map_cons, List.map_cons, List.zip_cons_cons, ih, List.map_cons]
  rw [e, ← List.map_mergeSort (r := lowLe) (s := PySem.W.dataLe false (fun b : PyData × D => b.1)) (f := fun p => (kP p, iD p)) (l := l) (fun p _ q _ => (le_key p q).symm), List.map_map]
  rfl
theorem srtD_D (l : List Iv) (h : l.length ≤ line) : srtD f__begin (l.map iD) = some ((sortI l).map iD) := by
  unfold srtD
  rw [keysD_D]
  have e : (l.map kD).map pdK = l.map kP := by
    rw [List.map_map]
    rfl
  show (if (l.map iD).length ≤ line ∧ (l.map kD).all (fun k => k.pd.isSome) = true ∧ srtOk ((l.map kD).map pdK) = true then some (byKey ((l.map kD).map pdK) (l.map iD)) else none) = _
  rw [e, if_pos ⟨by rw [List.length_map]; exact h, by
    rw [List.all_eq_true]
    intro a ha
    obtain ⟨p, _, rfl⟩ := List.mem_map.mp ha
    rfl, srtOk_kP l⟩, byKey_D]
def f_normal : List D → Option D
  | [d] => match toS d with
    | some a => if a.length ≤ 1000 then some (sD (normal a)) else none
    | none => none
  | _ => none
def il_normal : List IS := [.setO 1 .nil,
   .for (.tp (.cons (.nm 2) (.cons (.nm 3) .nil))) (.seq (.srt f__begin (.of (.lc [4] (.nm 4) (.seq (.var 0)) (.not (.val (.call 1 f__is_void (.cons (.var 4) .nil)))) (.var 4))))) [.iff (.and (.ne (.own 1)) (.val (.call 2 f__reaches (.cons (.ix (.own 1) (.neg (.con (.int 1)))) (.cons (.var 2) .nil))))) [.seti 1 (.neg (.con (.int 1))) (.tup (.cons (.ix (.of (.ix (.own 1) (.neg (.con (.int 1))))) (.con (.int 0))) (.cons (.call 2 f__later_end (.cons (.ix (.of (.ix (.own 1) (.neg (.con (.int 1))))) (.con (.int 1))) (.cons (.var 3) .nil))) .nil)))] [.app 1 (.tup (.cons (.var 2) (.cons (.var 3) .nil)))]],
   .ret (.tupOf (.own 1))]
abbrev b_nm := turnF (.tp (.cons (.nm 2) (.cons (.nm 3) .nil))) [.iff (.and (.ne (.own 1)) (.val (.call 2 f__reaches (.cons (.ix (.own 1) (.neg (.con (.int 1)))) (.cons (.var 2) .nil))))) [.seti 1 (.neg (.con (.int 1))) (.tup (.cons (.ix (.of (.ix (.own 1) (.neg (.con (.int 1))))) (.con (.int 0))) (.cons (.call 2 f__later_end (.cons (.ix (.of (.ix (.own 1) (.neg (.con (.int 1))))) (.con (.int 1))) (.cons (.var 3) .nil))) .nil)))] [.app 1 (.tup (.cons (.var 2) (.cons (.var 3) .nil)))]]
theorem reaches_D (q : Iv) (o : Option Int) : f__reaches [iD q, oD o] = some (.bl (reaches q o)) := by
  show (match toIv (iD q), toO (oD o) with
    | some p, some o => some (D.bl (reaches p o))
    | _, _ => none) = _
  rw [toIv_D, toO_D]
theorem later_D (q o : Option Int) : f__later_end [oD q, oD o] = some (oD (later q o)) := by
  show (match toO (oD q), toO (oD o) with
    | some p, some o => some (oD (later p o))
    | _, _ => none) = _
  rw [toO_D, toO_D]
theorem ixN_last (n : Nat) : ixN (n + 1) (-1) = some n := by
  unfold ixN
  rw [if_neg (by omega), if_pos (by omega)]
  congr 1
  omega
theorem set_last {α : Type} (l : List α) (x y : α) : (l ++ [x]).set l.length y = l ++ [y] := by
  rw [List.set_append_right _ _ (Nat.le_refl _), Nat.sub_self]
  rfl
theorem s_nm (p : Iv) (d0 : D) (fd : List Iv) (c : Int) (x y z : Slot) (hl : fd.length < line) : b_nm (iD p) [.sh d0, .ow (fd.map iD), x, y, z] c = some (.nx [.sh d0, .ow ((nstep fd p).map iD), .sh (oD p.1), .sh (oD p.2), z] c) := by
  have e0 : b_nm (iD p) [.sh d0, .ow (fd.map iD), x, y, z] c = IS.runs [.iff (.and (.ne (.own 1)) (.val (.call 2 f__reaches (.cons (.ix (.own 1) (.neg (.con (.int 1)))) (.cons (.var 2) .nil))))) [.seti 1 (.neg (.con (.int 1))) (.tup (.cons (.ix (.of (.ix (.own 1) (.neg (.con (.int 1))))) (.con (.int 0))) (.cons (.call 2 f__later_end (.cons (.ix (.of (.ix (.own 1) (.neg (.con (.int 1))))) (.con (.int 1))) (.cons (.var 3) .nil))) .nil)))] [.app 1 (.tup (.cons (.var 2) (.cons (.var 3) .nil)))]] [.sh d0, .ow (fd.map iD), .sh (oD p.1), .sh (oD p.2), z] c := rfl
  rw [e0]
  rcases last_cases fd with e | ⟨pre, q, e⟩
  · subst e
    rfl
  · subst e
    rw [nstep_last]
    have hl2 : (pre.map iD).length + 1 < line := by simpa using hl
    cases hr : reaches q p.1 with
    | true =>
      have ha : atI [oD q.1, oD q.2] 0 = some (oD q.1) := rfl
      have := reaches_D q p.1
      rw [hr] at this
      simp only [iD] at this
      have e2 := set_last (pre.map iD) (iD q) (iD (q.1, later q.2 p.2))
      rw [List.length_map] at e2
      simp only [iD] at e2
      simp [IS.runs, IS.run, IT.run, IE.run, IA.run, IL.run, truD, isE, atI_last, this, seqOf, atI_one, ha, later_D, ixN_last, putS, two_line, iD, e2]
    | false =>
      have := reaches_D q p.1
      rw [hr] at this
      simp only [iD] at this
      have hl3 : pre.length + 1 < line := by simpa using hl
      simp [IS.runs, IS.run, IT.run, IE.run, IA.run, IL.run, truD, isE, atI_last, putS, two_line, iD, this, hl3]
end Rf

namespace Rf
open PySem PySem.Spec L2
theorem void_D (p : Iv) : f__is_void [iD p] = some (.bl (void p)) := by
  show (toIv (iD p)).map _ = _
  rw [toIv_D]
  rfl
theorem l_nm : ∀ (l : List Iv) (d0 : D) (fd : List Iv) (c : Int) (x y z : Slot), fd.length + l.length < line → ∃ x' y', forGo b_nm (l.map iD) [.sh d0, .ow (fd.map iD), x, y, z] c = some (.nx [.sh d0, .ow ((l.foldl nstep fd).map iD), x', y', z] c)
  | [], d0, fd, c, x, y, z, _ => ⟨x, y, rfl⟩
  | p :: l, d0, fd, c, x, y, z, hl => by
    rw [List.length_cons] at hl
    rw [List.map_cons, List.foldl_cons]
    unfold forGo
    rw [s_nm p d0 fd c x y z (by omega)]
    exact l_nm l d0 (nstep fd p) c _ _ z (by have := nstep_len fd p; omega)
theorem l_void (d0 : D) (s1 s2 s3 s4 : Slot) : ∀ (a : List Iv) (c : Int), lcGo (turnL [.sh d0, s1, s2, s3, s4] [4] (.nm 4) (.not (.val (.call 1 f__is_void (.cons (.var 4) .nil)))) (.var 4)) (a.map iD) c = some ((a.filter fun p => !void p).map iD, c)
  | [], c => rfl
  | p :: a, c => by
    rw [List.map_cons]
    unfold lcGo
    have e : turnL [.sh d0, s1, s2, s3, s4] [4] (.nm 4) (.not (.val (.call 1 f__is_void (.cons (.var 4) .nil)))) (.var 4) (iD p) c = some (if void p = true then none else some (iD p), c) := by
      cases hv : void p <;> simp [turnL, bindG, wipeS, putS, IT.run, IE.run, IA.run, void_D, truD, hv]
    rw [e]
    dsimp only
    rw [l_void d0 s1 s2 s3 s4 a c, List.filter_cons]
    cases void p <;> rfl
theorem r_normal (ds : List D) (d : D) (h : f_normal ds = some d) (_ : ds.length = 1) : callP 5 il_normal ds = some d := by
  match ds, h with
  | [d0], h =>
    have h' : (match toS d0 with
      | some a => if a.length ≤ 1000 then some (sD (normal a)) else none
      | none => none) = some d := h
    split at h'
    · rename_i a e
      split at h'
      · rename_i hlen
        cases h'
        obtain ⟨k, hk⟩ := seq_toS e
        have hline : 1001 < line := by decide
        have hf := List.length_filter_le (fun p => !void p) a
        have hp := (sortI_perm (a.filter fun p => !void p)).length_eq
        refine callP_rt (c := 0) ?_
        show IS.runs il_normal [.sh d0, .no, .no, .no, .no] 0 = _
        unfold il_normal
        rw [runs_cons (ρ1 := [.sh d0, .ow [], .no, .no, .no]) (c1 := 0) rfl]
        have e1 : (IE.lc [4] (.nm 4) (.seq (.var 0)) (.not (.val (.call 1 f__is_void (.cons (.var 4) .nil)))) (.var 4)).run [.sh d0, .ow [], .no, .no, .no] 0 = some (.lst ((a.filter fun p => !void p).map iD), 0) :=
          lc_run (seq_run (c1 := 0) (d := d0) rfl hk) (l_void d0 _ _ _ _ a 0) (by rw [List.length_map]; omega)
        have e2 : (IE.srt f__begin (.of (.lc [4] (.nm 4) (.seq (.var 0)) (.not (.val (.call 1 f__is_void (.cons (.var 4) .nil)))) (.var 4)))).run [.sh d0, .ow [], .no, .no, .no] 0 = some (.lst ((sortI (a.filter fun p => !void p)).map iD), 0) := by
          have e3 : (IL.of (.lc [4] (.nm 4) (.seq (.var 0)) (.not (.val (.call 1 f__is_void (.cons (.var 4) .nil)))) (.var 4))).run [.sh d0, .ow [], .no, .no, .no] 0 = some (true, (a.filter fun p => !void p).map iD, 0) := by
            unfold IL.run
            rw [e1]
            rfl
          unfold IE.run
          rw [e3]
          dsimp only
          rw [srtD_D _ (by omega)]
          rfl
        rw [runs_for (seq_run (c1 := 0) (k := true) e2 rfl)]
        obtain ⟨x, y, hx⟩ := l_nm (sortI (a.filter fun p => !void p)) d0 [] 0 .no .no .no (by rw [List.length_nil]; omega)
        have hx' : forGo b_nm ((sortI (a.filter fun p => !void p)).map iD) [.sh d0, .ow [], .no, .no, .no] 0 = _ := hx
        rw [hx']
        rfl
      · cases h'
    · cases h'
theorem normal_T (a : List Iv) (h : a.length ≤ 1000) : f_normal [sD a] = some (sD (normal a)) := by
  show (match toS (sD a) with
    | some a => if a.length ≤ 1000 then some (sD (normal a)) else none
    | none => none) = _
  rw [toS_D]
  exact if_pos h
theorem normal_L (a : List Iv) (h : a.length ≤ 1000) : f_normal [.lst (a.map iD)] = some (sD (normal a)) := by
  show (match toS (.lst (a.map iD)) with
    | some a => if a.length ≤ 1000 then some (sD (normal a)) else none
    | none => none) = _
  rw [toS_L]
  exact if_pos h
theorem others_T (a : List Iv) (h : a.length ≤ 1000) : f_others [sD a] = some (sD (others a)) := by
  show (match toS (sD a) with
    | some a => if a.length ≤ 1000 then some (sD (others a)) else none
    | none => none) = _
  rw [toS_D]
  exact if_pos h
/-! ### union, meet -/
def f_union : List D → Option D
  | [d, e] => match toS d, toS e with
    | some a, some b => if a.length ≤ 400 ∧ b.length ≤ 400 then some (sD (union a b)) else none
    | _, _ => none
  | _ => none
def il_union : List IS := [.ret (.call 1 f_normal (.cons (.lst (.star (.of (.var 0)) (.star (.of (.var 1)) .nil))) .nil))]
theorem r_union (ds : List D) (d : D) (h : f_union ds = some d) (_ : ds.length = 2) : callP 2 il_union ds = some d := by
  match ds, h with
  | [d0, d1], h =>
    have h' : (match toS d0, toS d1 with
      | some a, some b => if a.length ≤ 400 ∧ b.length ≤ 400 then some (sD (union a b)) else none
      | _, _ => none) = some d := h
    split at h'
    · rename_i a b e1 e2
      split at h'
      · rename_i hlen
        cases h'
        obtain ⟨k, hk⟩ := seq_toS e1
        obtain ⟨k', hk'⟩ := seq_toS e2
        have hline : 1001 < line := by decide
        have hl : a.length + b.length ≤ line := by omega
        have e3 := normal_L (a ++ b) (by rw [List.length_append]; omega)
        rw [List.map_append] at e3
        refine callP_rt (c := 0) ?_
        simp [il_union, IS.runs, IS.run, IE.run, IA.run, IL.run, hk, hk', hl, e3]
        rfl
      · cases h'
    · cases h'
theorem union_T (a b : List Iv) (h : a.length ≤ 400) (h2 : b.length ≤ 400) : f_union [sD a, sD b] = some (sD (union a b)) := by
  show (match toS (sD a), toS (sD b) with
    | some a, some b => if a.length ≤ 400 ∧ b.length ≤ 400 then some (sD (union a b)) else none
    | _, _ => none) = _
  rw [toS_D, toS_D]
  exact if_pos ⟨h, h2⟩
def f_meet : List D → Option D
  | [d, e] => match toS d, toS e with
    | some a, some b => if a.length ≤ 100 ∧ b.length ≤ 100 then some (sD (meet a b)) else none
    | _, _ => none
  | _ => none
def il_meet : List IS := [.ret (.call 1 f_others (.cons (.call 2 f_union (.cons (.call 1 f_others (.cons (.var 0) .nil)) (.cons (.call 1 f_others (.cons (.var 1) .nil)) .nil))) .nil))]
theorem others_S {d : D} {a : List Iv} (e : toS d = some a) (h : a.length ≤ 1000) : f_others [d] = some (sD (others a)) := by
  show (match toS d with
    | some a => if a.length ≤ 1000 then some (sD (others a)) else none
    | none => none) = _
  rw [e]
  exact if_pos h
theorem union_len (a b : List Iv) : (union a b).length ≤ a.length + b.length := by
  have := normal_len (a ++ b)
  rw [List.length_append] at this
  exact this
theorem r_meet (ds : List D) (d : D) (h : f_meet ds = some d) (_ : ds.length = 2) : callP 2 il_meet ds = some d := by
  match ds, h with
  | [d0, d1], h =>
    have h' : (match toS d0, toS d1 with
      | some a, some b => if a.length ≤ 100 ∧ b.length ≤ 100 then some (sD (meet a b)) else none
      | _, _ => none) = some d := h
    split at h'
    · rename_i a b e1 e2
      split at h'
      · rename_i hlen
        cases h'
        have h1 := others_S e1 (by omega)
        have h2 := others_S e2 (by omega)
        have l1 := oth_len a none
        have l2 := oth_len b none
        have h3 := union_T (others a) (others b) (by show (oth none a).length ≤ _; omega) (by show (oth none b).length ≤ _; omega)
        have l3 := union_len (others a) (others b)
        have h4 := others_T (union (others a) (others b)) (Nat.le_trans l3 (by show (oth none a).length + (oth none b).length ≤ _; omega))
        refine callP_rt (c := 0) ?_
        simp [il_meet, IS.runs, IS.run, IE.run, IA.run, h1, h2, h3, h4]
        rfl
      · cases h'
    · cases h'
theorem meet_T (a b : List Iv) (h : a.length ≤ 100) (h2 : b.length ≤ 100) : f_meet [sD a, sD b] = some (sD (meet a b)) := by
  show (match toS (sD a), toS (sD b) with
    | some a, some b => if a.length ≤ 100 ∧ b.length ≤ 100 then some (sD (meet a b)) else none
    | _, _ => none) = _
  rw [toS_D, toS_D]
  exact if_pos ⟨h, h2⟩
end Rf

namespace Rf
open PySem PySem.Spec L2
def drawPair (ns : List Int) (c : Int) : Iv :=
  (if lawNum ns (c + 1 + 1 + 1) % 9 = 0 then none else some (lawNum ns (c + 1) % 14 - 4), if lawNum ns (c + 1 + 1 + 1) % 9 = 1 then none else some (lawNum ns (c + 1) % 14 - 4 + lawNum ns (c + 1 + 1) % 6 - 1))
def drawPairs (ns : List Int) : Nat → Int → List Iv
  | 0, _ => []
  | n + 1, c => drawPair ns c :: drawPairs ns n (c + 1 + 1 + 1)
def aft : Nat → Int → Int
  | 0, c => c
  | n + 1, c => aft n (c + 1 + 1 + 1)
theorem drawPairs_len (ns : List Int) : ∀ (n : Nat) (c : Int), (drawPairs ns n c).length = n
  | 0, _ => rfl
  | n + 1, c => by
    show (drawPairs ns n (c + 1 + 1 + 1)).length + 1 = _
    rw [drawPairs_len ns n]
theorem drawPairs_bd (ns : List Int) : ∀ (n : Nat) (c : Int), ∀ p ∈ drawPairs ns n c, Bd (fun x => -5 ≤ x ∧ x ≤ 13) p
  | 0, _, p, h => by cases h
  | n + 1, c, p, h => by
    rcases List.mem_cons.mp h with e | h
    · subst e
      have h1 := Int.emod_nonneg (lawNum ns (c + 1)) (show (14 : Int) ≠ 0 by decide)
      have h2 := Int.emod_lt_of_pos (lawNum ns (c + 1)) (show (0 : Int) < 14 by decide)
      have h3 := Int.emod_nonneg (lawNum ns (c + 1 + 1)) (show (6 : Int) ≠ 0 by decide)
      have h4 := Int.emod_lt_of_pos (lawNum ns (c + 1 + 1)) (show (0 : Int) < 6 by decide)
      refine ⟨fun l hl => ?_, fun u hu => ?_⟩
      · have hl' : (if lawNum ns (c + 1 + 1 + 1) % 9 = 0 then none else some (lawNum ns (c + 1) % 14 - 4)) = some l := hl
        split at hl' <;> cases hl'
        omega
      · have hu' : (if lawNum ns (c + 1 + 1 + 1) % 9 = 1 then none else some (lawNum ns (c + 1) % 14 - 4 + lawNum ns (c + 1 + 1) % 6 - 1)) = some u := hu
        split at hu' <;> cases hu'
        omega
    · exact drawPairs_bd ns n _ p h
def f__law_pairs : D → List D → Int → Option (D × Int)
  | .lst l, [], c => match D.ints l with
    | some ns => some (.lst ((drawPairs ns (lawNum ns (c + 1) % 5).toNat (c + 1)).map iD), aft (lawNum ns (c + 1) % 5).toNat (c + 1))
    | none => none
  | _, _, _ => none
def il__law_pairs : List IS := [.setO 1 .nil,
   .for (.nm 2) (.rng1 (.calld 1 f__law_take 0 (.cons (.con (.int 5)) .nil))) [.set 3 (.bin .sub (.calld 1 f__law_take 0 (.cons (.con (.int 14)) .nil)) (.con (.int 4))),
    .set 4 (.bin .sub (.bin .add (.var 3) (.calld 1 f__law_take 0 (.cons (.con (.int 6)) .nil))) (.con (.int 1))),
    .set 5 (.calld 1 f__law_take 0 (.cons (.con (.int 9)) .nil)),
    .app 1 (.tup (.cons (.ite (.val (.cmp .eq (.var 5) (.con (.int 0)))) (.con .non) (.var 3)) (.cons (.ite (.val (.cmp .eq (.var 5) (.con (.int 1)))) (.con .non) (.var 4)) .nil)))],
   .retO 1]
abbrev b_dp := turnF (.nm 2) [.set 3 (.bin .sub (.calld 1 f__law_take 0 (.cons (.con (.int 14)) .nil)) (.con (.int 4))),
    .set 4 (.bin .sub (.bin .add (.var 3) (.calld 1 f__law_take 0 (.cons (.con (.int 6)) .nil))) (.con (.int 1))),
    .set 5 (.calld 1 f__law_take 0 (.cons (.con (.int 9)) .nil)),
    .app 1 (.tup (.cons (.ite (.val (.cmp .eq (.var 5) (.con (.int 0)))) (.con .non) (.var 3)) (.cons (.ite (.val (.cmp .eq (.var 5) (.con (.int 1)))) (.con .non) (.var 4)) .nil)))]
theorem eqv_int (i j : Int) : D.eqv (.int i) (.int j) = some (i == j) := rfl
theorem s_dp (ns : List Int) (t : D) (fd : List D) (c : Int) (x y z w : Slot) (hl : fd.length < line) : ∃ y' z' w', b_dp t [.dr (.lst (ns.map .int)), .ow fd, x, y, z, w] c = some (.nx [.dr (.lst (ns.map .int)), .ow (fd ++ [iD (drawPair ns c)]), .sh t, y', z', w'] (c + 1 + 1 + 1)) := by
  refine ⟨.sh (.int (lawNum ns (c + 1) % 14 - 4)), .sh (.int (lawNum ns (c + 1) % 14 - 4 + lawNum ns (c + 1 + 1) % 6 - 1)), .sh (.int (lawNum ns (c + 1 + 1 + 1) % 9)), ?_⟩
  unfold drawPair
  by_cases h0 : lawNum ns (c + 1 + 1 + 1) % 9 = 0
  · simp [turnF, bindG, putS, IS.runs, IS.run, IT.run, IE.run, IA.run, take_D, binD, cmpD, eqv_int, truD, hl, two_line, h0, iD, oD]
  · by_cases h1 : lawNum ns (c + 1 + 1 + 1) % 9 = 1
    · simp [turnF, bindG, putS, IS.runs, IS.run, IT.run, IE.run, IA.run, take_D, binD, cmpD, eqv_int, truD, hl, two_line, h1, iD, oD]
    · have q0 : (lawNum ns (c + 1 + 1 + 1) % 9 == 0) = false := beq_eq_false_iff_ne.mpr h0
      have q1 : (lawNum ns (c + 1 + 1 + 1) % 9 == 1) = false := beq_eq_false_iff_ne.mpr h1
      simp [turnF, bindG, putS, IS.runs, IS.run, IT.run, IE.run, IA.run, take_D, binD, cmpD, eqv_int, truD, hl, two_line, h0, h1, q0, q1, iD, oD]
theorem l_dp (ns : List Int) : ∀ (l : List D) (fd : List D) (c : Int) (x y z w : Slot), fd.length + l.length < line → ∃ x' y' z' w', forGo b_dp l [.dr (.lst (ns.map .int)), .ow fd, x, y, z, w] c = some (.nx [.dr (.lst (ns.map .int)), .ow (fd ++ (drawPairs ns l.length c).map iD), x', y', z', w'] (aft l.length c))
  | [], fd, c, x, y, z, w, _ => ⟨x, y, z, w, by show _ = some (Out.nx [_, .ow (fd ++ []), _, _, _, _] c); rw [List.append_nil]; rfl⟩
  | t :: l, fd, c, x, y, z, w, hl => by
    rw [List.length_cons] at hl
    obtain ⟨y1, z1, w1, e⟩ := s_dp ns t fd c x y z w (by omega)
    unfold forGo
    rw [e]
    obtain ⟨x2, y2, z2, w2, e2⟩ := l_dp ns l (fd ++ [iD (drawPair ns c)]) (c + 1 + 1 + 1) (.sh t) y1 z1 w1 (by rw [List.length_append, List.length_singleton]; omega)
    refine ⟨x2, y2, z2, w2, ?_⟩
    rw [List.append_assoc] at e2
    exact e2
theorem r__law_pairs (scr : D) (ds : List D) (c : Int) (d : D) (c1 : Int) (h : f__law_pairs scr ds c = some (d, c1)) (_ : ds.length = 0) : callDr 6 il__law_pairs scr ds c = some (d, c1) := by
  match scr, ds, h with
  | .lst l, [], h =>
    have h' : (match D.ints l with
      | some ns => some (D.lst ((drawPairs ns (lawNum ns (c + 1) % 5).toNat (c + 1)).map iD), aft (lawNum ns (c + 1) % 5).toNat (c + 1))
      | none => none) = some (d, c1) := h
    split at h'
    · rename_i ns e
      cases h'
      obtain rfl := ints_ok e
      have h1 := Int.emod_nonneg (lawNum ns (c + 1)) (show (5 : Int) ≠ 0 by decide)
      have h2 := Int.emod_lt_of_pos (lawNum ns (c + 1)) (show (0 : Int) < 5 by decide)
      unfold callDr
      show (match IS.runs il__law_pairs [.dr (.lst (ns.map .int)), .no, .no, .no, .no, .no] c with
        | some (.rt d c1) => some (d, c1)
        | some (.nx _ c1) => some (.non, c1)
        | _ => none) = _
      unfold il__law_pairs
      have hi : (II.rng1 (.calld 1 f__law_take 0 (.cons (.con (.int 5)) .nil))).run [.dr (.lst (ns.map .int)), .ow [], .no, .no, .no, .no] c = some (rng 0 (lawNum ns (c + 1) % 5).toNat, c + 1) := by
        have e2 : (IE.calld 1 f__law_take 0 (.cons (.con (.int 5)) .nil)).run [.dr (.lst (ns.map .int)), .ow [], .no, .no, .no, .no] c = some (.int (lawNum ns (c + 1) % 5), c + 1) := by
          simp [IE.run, IA.run, take_D]
        unfold II.run
        rw [e2]
        exact if_pos ⟨by omega, by omega⟩
      rw [runs_cons (ρ1 := [.dr (.lst (ns.map .int)), .ow [], .no, .no, .no, .no]) (c1 := c) rfl, runs_for hi]
      have hlen : (rng 0 (lawNum ns (c + 1) % 5).toNat).length = (lawNum ns (c + 1) % 5).toNat := by
        unfold rng
        rw [List.length_map, List.length_range]
      have hline : 1001 < line := by decide
      obtain ⟨x', y', z', w', e3⟩ := l_dp ns (rng 0 (lawNum ns (c + 1) % 5).toNat) [] (c + 1) .no .no .no .no (by rw [hlen, List.length_nil]; omega)
      rw [e3, hlen]
      rfl
    · cases h'
theorem pairs_D (ns : List Int) (c : Int) : f__law_pairs (.lst (ns.map .int)) [] c = some (.lst ((drawPairs ns (lawNum ns (c + 1) % 5).toNat (c + 1)).map iD), aft (lawNum ns (c + 1) % 5).toNat (c + 1)) := by
  show (match D.ints (ns.map .int) with
    | some ns => some (D.lst ((drawPairs ns (lawNum ns (c + 1) % 5).toNat (c + 1)).map iD), aft (lawNum ns (c + 1) % 5).toNat (c + 1))
    | none => none) = _
  rw [ints_D]
theorem pairs_ok (ns : List Int) (c : Int) : ∃ (a : List Iv) (c1 : Int), f__law_pairs (.lst (ns.map .int)) [] c = some (.lst (a.map iD), c1) ∧ a.length ≤ 4 ∧ ∀ p ∈ a, Bd (fun x => -5 ≤ x ∧ x ≤ 13) p := by
  have h1 := Int.emod_nonneg (lawNum ns (c + 1)) (show (5 : Int) ≠ 0 by decide)
  have h2 := Int.emod_lt_of_pos (lawNum ns (c + 1)) (show (0 : Int) < 5 by decide)
  exact ⟨_, _, pairs_D ns c, by rw [drawPairs_len]; omega, drawPairs_bd ns _ _⟩
end Rf

namespace Rf
open PySem PySem.Spec L2
/-! ### equality of sets -/
def oP : Option Int → PyData
  | none => .none
  | some i => .int i
def iP (p : Iv) : PyData := .tuple [oP p.1, oP p.2]
theorem pd_iD (p : Iv) : (iD p).pd = some (iP p) := by rcases p with ⟨_ | l, _ | h⟩ <;> rfl
theorem pds_iD : ∀ a : List Iv, D.pds (a.map iD) = some (a.map iP)
  | [] => rfl
  | p :: a => by
    rw [List.map_cons]
    unfold D.pds
    rw [pd_iD, pds_iD a]
    rfl
theorem lay_iP (p : Iv) : PyData.canLay0 (iP p) = true ∧ PyData.depth (iP p) = 1 := by rcases p with ⟨_ | l, _ | h⟩ <;> exact ⟨rfl, rfl⟩
theorem lay_iPs : ∀ a : List Iv, PyData.canLayAll0 (a.map iP) = true ∧ PyData.depthAll (a.map iP) ≤ 1
  | [] => ⟨rfl, Nat.zero_le _⟩
  | p :: a => by
    obtain ⟨h1, h2⟩ := lay_iPs a
    obtain ⟨h3, h4⟩ := lay_iP p
    rw [List.map_cons]
    refine ⟨by unfold PyData.canLayAll0; rw [h1, h3]; rfl, ?_⟩
    unfold PyData.depthAll
    rw [h4]
    omega
theorem eqv_oP (x y : Option Int) : PyData.eqv (oP x) (oP y) = decide (x = y) := by
  cases x with
  | none => cases y <;> rfl
  | some i => cases y with
    | none => rfl
    | some j =>
      show (i == j) = _
      by_cases h : i = j
      · subst h; simp
      · rw [beq_eq_false_iff_ne.mpr h]
        simp [h]
theorem eqv_iP (p q : Iv) : PyData.eqv (iP p) (iP q) = decide (p = q) := by
  show (PyData.eqv (oP p.1) (oP q.1) && (PyData.eqv (oP p.2) (oP q.2) && true)) = _
  rw [eqv_oP, eqv_oP, Bool.and_true]
  rcases p with ⟨a, b⟩
  rcases q with ⟨c, d⟩
  by_cases h1 : a = c
  · by_cases h2 : b = d
    · subst h1; subst h2; simp
    · simp [h1, h2]
  · simp [h1]
theorem eqv_iPs : ∀ a b : List Iv, PyData.eqvAll (a.map iP) (b.map iP) = decide (a = b)
  | [], [] => rfl
  | [], q :: b => rfl
  | p :: a, [] => rfl
  | p :: a, q :: b => by
    rw [List.map_cons, List.map_cons]
    unfold PyData.eqvAll
    rw [eqv_iP, eqv_iPs a b, Bool.eq_iff_iff]
    simp
theorem eqv_sD (a b : List Iv) : D.eqv (sD a) (sD b) = some (decide (a = b)) := by
  have e : ∀ a, (sD a).pd = some (.tuple (a.map iP)) := fun a => by
    show (D.pds (a.map iD)).map _ = _
    rw [pds_iD]
    rfl
  have hs : ∀ a : List Iv, SeqAt.shaped (.tuple (a.map iP)) = true := fun a => by
    obtain ⟨h1, h2⟩ := lay_iPs a
    unfold SeqAt.shaped
    rw [Bool.and_eq_true]
    refine ⟨h1, decide_eq_true ?_⟩
    show PyData.depthAll (a.map iP) + 1 ≤ 64
    omega
  unfold D.eqv
  rw [e, e]
  show (if SeqAt.shaped (.tuple (a.map iP)) = true ∧ SeqAt.shaped (.tuple (b.map iP)) = true then some (PyData.eqv (.tuple (a.map iP)) (.tuple (b.map iP))) else none) = _
  rw [if_pos ⟨hs a, hs b⟩]
  show some (PyData.eqvAll (a.map iP) (b.map iP)) = _
  rw [eqv_iPs]
theorem eqv_iD (p q : Iv) : D.eqv (iD p) (iD q) = some (decide (p = q)) := by
  unfold D.eqv
  rw [pd_iD, pd_iD]
  have hs : ∀ p : Iv, SeqAt.shaped (iP p) = true := fun p => by
    obtain ⟨h1, h2⟩ := lay_iP p
    unfold SeqAt.shaped
    rw [h1, h2]
    rfl
  show (if SeqAt.shaped (iP p) = true ∧ SeqAt.shaped (iP q) = true then some (PyData.eqv (iP p) (iP q)) else none) = _
  rw [if_pos ⟨hs p, hs q⟩, eqv_iP]
theorem eqv_bl (a b : Bool) : D.eqv (.bl a) (.bl b) = some (a == b) := rfl
/-! ### membership in a list of ints -/
theorem inV_ints (n : Int) : ∀ ns : List Int, inV (.int n) ((ns.map D.int).map D.v) = decide (n ∈ ns)
  | [] => rfl
  | m :: ns => by
    have ih := inV_ints n ns
    show (eqV (.int m) (.int n) || inV (.int n) ((ns.map D.int).map D.v)) = _
    rw [ih]
    have e : eqV (.int m) (.int n) = decide (m = n) := by
      first
        | rfl
        | (unfold eqV; simp [Bool.eq_iff_iff])
    rw [e, Bool.eq_iff_iff]
    simp
    constructor
    · rintro (h | h)
      · exact .inl h.symm
      · exact .inr h
    · rintro (h | h)
      · exact .inl h.symm
      · exact .inr h
theorem flat_ints (ns : List Int) : (ns.map D.int).all (fun z => z.scal && flatV z.v) = true := by
  rw [List.all_eq_true]
  intro z hz
  obtain ⟨n, _, rfl⟩ := List.mem_map.mp hz
  rfl
theorem cmp_in (n : Int) (ns : List Int) : cmpD .inn (.int n) (.lst (ns.map .int)) = some (decide (n ∈ ns)) := by
  show (if (D.int n).scal = true ∧ flatV (D.int n).v = true ∧ (ns.map D.int).all (fun z => z.scal && flatV z.v) = true then some (inV (.int n) ((ns.map D.int).map D.v)) else inDeep false (.int n) (ns.map D.int)) = _
  rw [if_pos ⟨rfl, rfl, flat_ints ns⟩, inV_ints]
theorem cmp_notin (n : Int) (ns : List Int) : cmpD .notin (.int n) (.lst (ns.map .int)) = some (!decide (n ∈ ns)) := by
  show (if (D.int n).scal = true ∧ flatV (D.int n).v = true ∧ (ns.map D.int).all (fun z => z.scal && flatV z.v) = true then some (!inV (.int n) ((ns.map D.int).map D.v)) else (inDeep false (.int n) (ns.map D.int)).map (!·)) = _
  rw [if_pos ⟨rfl, rfl, flat_ints ns⟩, inV_ints]
theorem dedup_len (ns : List Int) : (dedup ns).length ≤ ns.length := PyProof.Rows.firstMet_length_le _ _
theorem dedup_mem (ns : List Int) (k : Int) : k ∈ dedup ns ↔ k ∈ ns := by
  have e : (List.range ns.length).map (fun i => ns.getD i 0) = ns := by
    apply List.ext_getElem
    · rw [List.length_map, List.length_range]
    · intro i h1 h2
      rw [List.getElem_map, List.getElem_range, List.getD_eq_getElem?_getD, List.getElem?_eq_getElem h2]
      rfl
  have h := PyProof.Rows.firstMet_any (fun i => ns.getD i 0) ns.length k
  rw [e] at h
  have h1 : ((dedup ns).any (· == k) = true) ↔ k ∈ dedup ns := by simp
  have h2 : (ns.any (· == k) = true) ↔ k ∈ ns := by simp
  rw [← h1, ← h2]
  unfold dedup
  rw [h]
/-! ### what the law calls -/
theorem has_T (a : List Iv) (n : Int) : f_has [sD a, .int n] = some (.bl (mem a n)) := by
  show (toS (sD a)).map _ = _
  rw [toS_D]
  rfl
theorem has_L (a : List Iv) (n : Int) : f_has [.lst (a.map iD), .int n] = some (.bl (mem a n)) := by
  show (toS (.lst (a.map iD))).map _ = _
  rw [toS_L]
  rfl
open Classical in
theorem isn_T {a : List Iv} (h : Nf a) : f__law_is_normal [sD a] = some (.bl true) := by
  show (match toS (sD a) with
    | some a => if Nf a then some (D.bl true) else none
    | none => none) = _
  rw [toS_D]
  exact if_pos h
theorem many_T (a : List Iv) : f_how_many [sD a] = some (oD (howMany a)) := by
  show (toS (sD a)).map _ = _
  rw [toS_D]
  rfl
theorem least_T (p : Iv) (a : List Iv) : f_least [sD (p :: a)] = some (oD p.1) := by
  show (toS (sD (p :: a))).map _ = _
  rw [toS_D]
  rfl
theorem greatest_T (a : List Iv) (p : Iv) : f_greatest [sD (a ++ [p])] = some (oD p.2) := by
  show (toS (sD (a ++ [p]))).map _ = _
  rw [toS_D]
  show some (match (a ++ [p]).getLast? with
    | none => D.non
    | some p => oD p.2) = _
  rw [List.getLast?_concat]
theorem some_T {a : List Iv} (h : bdB a = true) : f_some_member [sD a] = some (oD (mb [] a)) := by
  show (match toS (sD a) with
    | some a => if bdB a = true then some (oD (mb [] a)) else none
    | none => none) = _
  rw [toS_D]
  exact if_pos h
theorem but_T {a : List Iv} {ns : List Int} (h : bdB a = true) (h2 : ns.length < 1000) : f_member_but [sD a, .lst (ns.map .int)] = some (oD (mb (dedup ns) a)) := by
  show (match toS (sD a), D.ints (ns.map .int) with
    | some a, some ns => if bdB a = true ∧ ns.length < 1000 ∧ (dedup ns).length ≤ ns.length then some (oD (mb (dedup ns) a)) else none
    | _, _ => none) = _
  rw [toS_D, ints_D]
  exact if_pos ⟨h, h2, dedup_len ns⟩
theorem bd_bdB {a : List Iv} (h : ∀ p ∈ a, Bd (fun x => -5 ≤ x ∧ x ≤ 13) p) : bdB a = true := by
  unfold bdB
  rw [List.all_eq_true]
  intro p hp
  have := h p hp
  rcases p with ⟨_ | l, _ | u⟩ <;> simp [bdO]
  · have := this.2 u rfl; omega
  · have := this.1 l rfl; omega
  · have h1 := this.1 l rfl
    have h2 := this.2 u rfl
    omega
end Rf

namespace Rf
open PySem PySem.Spec L2
def lw2 : IS := .par 3 4 (.calld 0 f__law_pairs 1 .nil) (.calld 0 f__law_pairs 1 .nil)
def lw3 : IS := .unp (.tp (.cons (.nm 5) (.cons (.nm 6) .nil))) (.tup (.cons (.call 1 f_normal (.cons (.var 3) .nil)) (.cons (.call 1 f_normal (.cons (.var 4) .nil)) .nil)))
noncomputable def lw4 : IS := .iff (.or (.not (.val (.call 1 f__law_is_normal (.cons (.var 5) .nil)))) (.or (.val (.cmp .ne (.call 1 f_normal (.cons (.var 5) .nil)) (.var 5))) (.val (.cmp .ne (.call 1 f_others (.cons (.call 1 f_others (.cons (.var 5) .nil)) .nil)) (.var 5))))) [.ret (.con (.bl false))] []
def lw5b : List IS := [.par 8 9 (.call 2 f_has (.cons (.var 3) (.cons (.var 7) .nil))) (.call 2 f_has (.cons (.var 4) (.cons (.var 7) .nil))),
    .iff (.or (.val (.cmp .ne (.call 2 f_has (.cons (.var 5) (.cons (.var 7) .nil))) (.var 8))) (.val (.cmp .ne (.call 2 f_has (.cons (.call 2 f_union (.cons (.var 5) (.cons (.var 6) .nil))) (.cons (.var 7) .nil))) (.or (.var 8) (.var 9))))) [.ret (.con (.bl false))] [],
    .iff (.or (.val (.cmp .ne (.call 2 f_has (.cons (.call 2 f_meet (.cons (.var 5) (.cons (.var 6) .nil))) (.cons (.var 7) .nil))) (.and (.var 8) (.var 9)))) (.val (.cmp .ne (.call 2 f_has (.cons (.call 1 f_others (.cons (.var 5) .nil)) (.cons (.var 7) .nil))) (.not (.var 8))))) [.ret (.con (.bl false))] []]
def lw5 : IS := .for (.nm 7) (.rng2 (.neg (.con (.int 12))) (.con (.int 24))) lw5b
def lw6 : IS := .iff (.or (.val (.cmp .ne (.call 2 f_union (.cons (.var 5) (.cons (.call 1 f_others (.cons (.var 5) .nil)) .nil))) (.con (.tup [(.tup [.non, .non])])))) (.val (.cmp .ne (.call 2 f_meet (.cons (.var 5) (.cons (.call 1 f_others (.cons (.var 5) .nil)) .nil))) (.tup .nil)))) [.ret (.con (.bl false))] []
def lw7 : IS := .set 10 (.lc [7] (.nm 7) (.rng2 (.neg (.con (.int 40))) (.con (.int 60))) (.val (.call 2 f_has (.cons (.var 5) (.cons (.var 7) .nil)))) (.var 7))
def lw8 : IS := .iff (.and (.val (.notN (.call 1 f_how_many (.cons (.var 5) .nil)))) (.or (.val (.cmp .ne (.call 1 f_how_many (.cons (.var 5) .nil)) (.len (.of (.var 10))))) (.and (.val (.cmp .ne (.var 5) (.tup .nil))) (.val (.cmp .ne (.tup (.cons (.call 1 f_least (.cons (.var 5) .nil)) (.cons (.call 1 f_greatest (.cons (.var 5) .nil)) .nil))) (.tup (.cons (.ix (.of (.var 10)) (.con (.int 0))) (.cons (.ix (.of (.var 10)) (.neg (.con (.int 1)))) .nil)))))))) [.ret (.con (.bl false))] []
def lw9 : IS := .iff (.and (.val (.cmp .ne (.var 5) (.tup .nil))) (.not (.val (.call 2 f_has (.cons (.var 5) (.cons (.call 1 f_some_member (.cons (.var 5) .nil)) .nil)))))) [.ret (.con (.bl false))] []
def lw10 : IS := .set 11 (.lc [13] (.nm 13) (.rng1 (.calld 1 f__law_take 1 (.cons (.con (.int 9)) .nil))) .yes (.bin .sub (.calld 1 f__law_take 1 (.cons (.con (.int 20)) .nil)) (.con (.int 6))))
def lw11 : IS := .set 12 (.call 2 f_member_but (.cons (.var 5) (.cons (.var 11) .nil)))
def lw12 : IS := .iff (.and (.val (.isN (.var 12))) (.val (.b1 .any (.lc [7] (.nm 7) (.seq (.var 10)) .yes (.cmp .notin (.var 7) (.var 11)))))) [.ret (.con (.bl false))] []
def lw13 : IS := .iff (.and (.val (.notN (.var 12))) (.or (.val (.cmp .inn (.var 12) (.var 11))) (.not (.val (.call 2 f_has (.cons (.var 5) (.cons (.var 12) .nil))))))) [.ret (.con (.bl false))] []
noncomputable def il_law : List IS := [.for (.nm 2) (.rng1 (.con (.int 6))) [lw2, lw3, lw4, lw5, lw6, lw7, lw8, lw9, lw10, lw11, lw12, lw13], .ret (.con (.bl true))]

section
variable {ns : List Int} {a b one oth : List Iv} {s2 s3 s4 s5 s6 s7 s8 s9 s10 s11 s12 s13 : Slot} {c : Int}
theorem e_lw4 (hn : Nf one) (hl : one.length ≤ 4) : lw4.run [.sh (.lst (ns.map .int)), .dr (.lst (ns.map .int)), s2, s3, s4, .sh (sD one), s6, s7, s8, s9, s10, s11, s12, s13] c = some (.nx [.sh (.lst (ns.map .int)), .dr (.lst (ns.map .int)), s2, s3, s4, .sh (sD one), s6, s7, s8, s9, s10, s11, s12, s13] c) := by
  have l1 := oth_len one none
  have h1 := normal_T one (by omega)
  rw [normal_nf hn] at h1
  have h2 := others_T one (by omega)
  have h3 := others_T (others one) (by show (Rf.oth none one).length ≤ _; omega)
  rw [others_others hn] at h3
  have h4 := eqv_sD one one
  simp [lw4, IS.runs, IS.run, IT.run, IE.run, IA.run, isn_T hn, h1, h2, h3, cmpD, h4, truD]
theorem s_lw5 {n : Int} (ha : Nf one) (hb : Nf oth) (e1 : ∀ n, mem one n = mem a n) (e2 : ∀ n, mem oth n = mem b n) (hl : one.length ≤ 4) (hl2 : oth.length ≤ 4) :
    ∃ y8 y9, turnF (.nm 7) lw5b (.int n) [.sh (.lst (ns.map .int)), .dr (.lst (ns.map .int)), s2, .sh (.lst (a.map iD)), .sh (.lst (b.map iD)), .sh (sD one), .sh (sD oth), s7, s8, s9, s10, s11, s12, s13] c = some (.nx [.sh (.lst (ns.map .int)), .dr (.lst (ns.map .int)), s2, .sh (.lst (a.map iD)), .sh (.lst (b.map iD)), .sh (sD one), .sh (sD oth), .sh (.int n), y8, y9, s10, s11, s12, s13] c) := by
  refine ⟨.sh (.bl (mem a n)), .sh (.bl (mem b n)), ?_⟩
  have h1 := union_T one oth (by omega) (by omega)
  have h2 := meet_T one oth (by omega) (by omega)
  have h3 := others_T one (by omega)
  have q1 := (union_ok one oth).2 n
  have q2 := (meet_ok ha hb).2 n
  have q3 := (others_ok ha).2 n
  rw [e1, e2] at q1 q2
  rw [e1] at q3
  cases m1 : mem a n <;> cases m2 : mem b n <;> rw [m1, m2] at q1 q2 <;> rw [m1] at q3 <;>
    simp [turnF, bindG, putS, lw5b, IS.runs, IS.run, IT.run, IE.run, IA.run, has_T, has_L, h1, h2, h3, q1, q2, q3, e1, m1, m2, cmpD, eqv_bl, truD]
theorem l_lw5 (ha : Nf one) (hb : Nf oth) (e1 : ∀ n, mem one n = mem a n) (e2 : ∀ n, mem oth n = mem b n) (hl : one.length ≤ 4) (hl2 : oth.length ≤ 4) : ∀ (ks : List Int) (s7 s8 s9 : Slot),
    ∃ y7 y8 y9, forGo (turnF (.nm 7) lw5b) (ks.map .int) [.sh (.lst (ns.map .int)), .dr (.lst (ns.map .int)), s2, .sh (.lst (a.map iD)), .sh (.lst (b.map iD)), .sh (sD one), .sh (sD oth), s7, s8, s9, s10, s11, s12, s13] c = some (.nx [.sh (.lst (ns.map .int)), .dr (.lst (ns.map .int)), s2, .sh (.lst (a.map iD)), .sh (.lst (b.map iD)), .sh (sD one), .sh (sD oth), y7, y8, y9, s10, s11, s12, s13] c)
  | [], s7, s8, s9 => ⟨s7, s8, s9, rfl⟩
  | k :: ks, s7, s8, s9 => by
    obtain ⟨y8, y9, e⟩ := s_lw5 (n := k) (ns := ns) (s2 := s2) (s7 := s7) (s8 := s8) (s9 := s9) (s10 := s10) (s11 := s11) (s12 := s12) (s13 := s13) (c := c) ha hb e1 e2 hl hl2
    rw [List.map_cons]
    unfold forGo
    rw [e]
    exact l_lw5 ha hb e1 e2 hl hl2 ks _ _ _
theorem e_lw5 (ha : Nf one) (hb : Nf oth) (e1 : ∀ n, mem one n = mem a n) (e2 : ∀ n, mem oth n = mem b n) (hl : one.length ≤ 4) (hl2 : oth.length ≤ 4) :
    ∃ y7 y8 y9, lw5.run [.sh (.lst (ns.map .int)), .dr (.lst (ns.map .int)), s2, .sh (.lst (a.map iD)), .sh (.lst (b.map iD)), .sh (sD one), .sh (sD oth), s7, s8, s9, s10, s11, s12, s13] c = some (.nx [.sh (.lst (ns.map .int)), .dr (.lst (ns.map .int)), s2, .sh (.lst (a.map iD)), .sh (.lst (b.map iD)), .sh (sD one), .sh (sD oth), y7, y8, y9, s10, s11, s12, s13] c) := by
  obtain ⟨y7, y8, y9, e⟩ := l_lw5 (ns := ns) (s2 := s2) (s10 := s10) (s11 := s11) (s12 := s12) (s13 := s13) (c := c) ha hb e1 e2 hl hl2 (rngI (-12) 36) s7 s8 s9
  refine ⟨y7, y8, y9, ?_⟩
  rw [← rng_map] at e
  exact e
theorem e_lw6 (hn : Nf one) (hl : one.length ≤ 4) : lw6.run [.sh (.lst (ns.map .int)), .dr (.lst (ns.map .int)), s2, s3, s4, .sh (sD one), s6, s7, s8, s9, s10, s11, s12, s13] c = some (.nx [.sh (.lst (ns.map .int)), .dr (.lst (ns.map .int)), s2, s3, s4, .sh (sD one), s6, s7, s8, s9, s10, s11, s12, s13] c) := by
  have l1 := oth_len one none
  have l2 : (others one).length ≤ 5 := by show (Rf.oth none one).length ≤ _; omega
  have h2 := others_T one (by omega)
  have h3 := union_T one (others one) (by omega) (by omega)
  have h4 := meet_T one (others one) (by omega) (by omega)
  rw [union_others hn] at h3
  rw [meet_others hn] at h4
  have h5 : D.eqv (sD [(none, none)]) (.tup [.tup [.non, .non]]) = some true := eqv_sD [(none, none)] [(none, none)]
  have h6 : D.eqv (sD []) (.tup []) = some true := eqv_sD [] []
  simp [lw6, IS.runs, IS.run, IT.run, IE.run, IA.run, h2, h3, h4, cmpD, h5, h6, truD]
theorem l_lw7 : ∀ (ks : List Int) (c : Int), lcGo (turnL [.sh (.lst (ns.map .int)), .dr (.lst (ns.map .int)), s2, s3, s4, .sh (sD one), s6, s7, s8, s9, s10, s11, s12, s13] [7] (.nm 7) (.val (.call 2 f_has (.cons (.var 5) (.cons (.var 7) .nil)))) (.var 7)) (ks.map .int) c = some ((ks.filter (mem one)).map .int, c)
  | [], c => rfl
  | k :: ks, c => by
    rw [List.map_cons]
    unfold lcGo
    have e : turnL [.sh (.lst (ns.map .int)), .dr (.lst (ns.map .int)), s2, s3, s4, .sh (sD one), s6, s7, s8, s9, s10, s11, s12, s13] [7] (.nm 7) (.val (.call 2 f_has (.cons (.var 5) (.cons (.var 7) .nil)))) (.var 7) (.int k) c = some (if mem one k = true then some (.int k) else none, c) := by
      cases hv : mem one k <;> simp [turnL, bindG, wipeS, putS, IT.run, IE.run, IA.run, has_T, truD, hv]
    rw [e]
    dsimp only
    rw [l_lw7 ks c, List.filter_cons]
    cases mem one k <;> rfl
theorem e_lw7 : lw7.run [.sh (.lst (ns.map .int)), .dr (.lst (ns.map .int)), s2, s3, s4, .sh (sD one), s6, s7, s8, s9, s10, s11, s12, s13] c = some (.nx [.sh (.lst (ns.map .int)), .dr (.lst (ns.map .int)), s2, s3, s4, .sh (sD one), s6, s7, s8, s9, .sh (.lst ((inside one).map .int)), s11, s12, s13] c) := by
  have h := l_lw7 (ns := ns) (one := one) (s2 := s2) (s3 := s3) (s4 := s4) (s6 := s6) (s7 := s7) (s8 := s8) (s9 := s9) (s10 := s10) (s11 := s11) (s12 := s12) (s13 := s13) (rngI (-40) 100) c
  rw [← rng_map] at h
  have hi : (II.rng2 (.neg (.con (.int 40))) (.con (.int 60))).run [.sh (.lst (ns.map .int)), .dr (.lst (ns.map .int)), s2, s3, s4, .sh (sD one), s6, s7, s8, s9, s10, s11, s12, s13] c = some (rng (-40) 100, c) := rfl
  have := lc_run hi h (by
    unfold rng
    rw [List.length_map, List.length_range]
    decide)
  unfold lw7 IS.run
  rw [this]
  rfl
theorem e_lw8 (hn : Nf one) (hb : ∀ p ∈ one, Bd (fun x => -5 ≤ x ∧ x ≤ 13) p) : lw8.run [.sh (.lst (ns.map .int)), .dr (.lst (ns.map .int)), s2, s3, s4, .sh (sD one), s6, s7, s8, s9, .sh (.lst ((inside one).map .int)), s11, s12, s13] c = some (.nx [.sh (.lst (ns.map .int)), .dr (.lst (ns.map .int)), s2, s3, s4, .sh (sD one), s6, s7, s8, s9, .sh (.lst ((inside one).map .int)), s11, s12, s13] c) := by
  cases hm : howMany one with
  | none =>
    have h1 := many_T one
    rw [hm] at h1
    simp [lw8, IS.runs, IS.run, IT.run, IE.run, IA.run, h1, oD, isNon, truD]
  | some k =>
    have h1 := many_T one
    rw [hm] at h1
    have hin : inside one = exp one := exp_inside (lo := -40) (n := 100) hn hm fun p hp => ⟨fun l hl => by have := (hb p hp).1 l hl; omega, fun l hl => by have := (hb p hp).2 l hl; omega⟩
    have hk := hm_exp hn hm
    have hk2 : k = ((exp one).length : Int) := by omega
    rw [hin]
    cases one with
    | nil =>
      have h6 : D.eqv (sD []) (.tup []) = some true := eqv_sD [] []
      simp [lw8, IS.runs, IS.run, IT.run, IE.run, IA.run, IL.run, seqOf, h1, oD, isNon, truD, cmpD, eqv_int, hk2, h6]
    | cons p r =>
      obtain ⟨l, e1, e2⟩ := exp_head hn hm
      obtain ⟨pre, q, eq⟩ : ∃ pre q, p :: r = pre ++ [q] := by
        rcases last_cases (p :: r) with h | h
        · cases h
        · exact h
      obtain ⟨u, e3, e4⟩ := exp_last (pre := pre) (p := q) (by rw [← eq]; exact hn) (by rw [← eq]; exact hm)
      rw [← eq] at e4
      have h2 := least_T p r
      have h3 := greatest_T pre q
      rw [← eq] at h3
      rw [e1] at h2
      rw [e3] at h3
      have h6 : D.eqv (sD (p :: r)) (.tup []) = some false := by
        have := eqv_sD (p :: r) []
        rw [decide_eq_false (by simp)] at this
        exact this
      obtain ⟨x1, hx1⟩ : ∃ t, (exp (p :: r)).map D.int = .int l :: t := by
        cases hx : exp (p :: r) with
        | nil => rw [hx] at e2; cases e2
        | cons y t => rw [hx] at e2; cases e2; exact ⟨_, rfl⟩
      obtain ⟨x2, hx2⟩ : ∃ t, (exp (p :: r)).map D.int = t ++ [.int u] := by
        obtain ⟨t, ht⟩ := List.getLast?_eq_some_iff.mp e4
        rw [ht, List.map_append]
        exact ⟨_, rfl⟩
      have a0 : atI ((exp (p :: r)).map D.int) 0 = some (.int l) := by rw [hx1]; exact atI_zero _ _
      have a1 : atI ((exp (p :: r)).map D.int) (-1) = some (.int u) := by rw [hx2]; exact atI_last _ _
      have h7 : D.eqv (.tup [.int l, .int u]) (.tup [.int l, .int u]) = some true := by
        have := eqv_iD (some l, some u) (some l, some u)
        rw [decide_eq_true rfl] at this
        exact this
      simp [lw8, IS.runs, IS.run, IT.run, IE.run, IA.run, IL.run, seqOf, h1, oD, isNon, truD, cmpD, eqv_int, hk2, h6, h2, h3, a0, a1, h7, two_line]
theorem e_lw9 (hn : Nf one) (hb : bdB one = true) : lw9.run [.sh (.lst (ns.map .int)), .dr (.lst (ns.map .int)), s2, s3, s4, .sh (sD one), s6, s7, s8, s9, s10, s11, s12, s13] c = some (.nx [.sh (.lst (ns.map .int)), .dr (.lst (ns.map .int)), s2, s3, s4, .sh (sD one), s6, s7, s8, s9, s10, s11, s12, s13] c) := by
  have h6 := eqv_sD one []
  have h6' : D.eqv (sD one) (.tup []) = some (decide (one = [])) := h6
  by_cases h0 : one = []
  · rw [decide_eq_true h0] at h6'
    simp [lw9, IS.runs, IS.run, IT.run, IE.run, IA.run, cmpD, h6', truD]
  · rw [decide_eq_false h0] at h6'
    have h1 := some_T hb
    cases hm : mb [] one with
    | none =>
      obtain ⟨p, r, e⟩ := List.exists_cons_of_ne_nil h0
      subst e
      obtain ⟨n, hn'⟩ := hn.has
      have := mb_none hm hn'
      cases this
    | some n =>
      rw [hm] at h1
      have h2 := has_T one n
      rw [(mb_some hm).1] at h2
      simp [lw9, IS.runs, IS.run, IT.run, IE.run, IA.run, cmpD, h6', truD, h1, oD, h2]
theorem l_lw10 : ∀ (l : List D) (c : Int), ∃ (sn : List Int) (c1 : Int), lcGo (turnL [.sh (.lst (ns.map .int)), .dr (.lst (ns.map .int)), s2, s3, s4, s5, s6, s7, s8, s9, s10, s11, s12, s13] [13] (.nm 13) .yes (.bin .sub (.calld 1 f__law_take 1 (.cons (.con (.int 20)) .nil)) (.con (.int 6)))) l c = some (sn.map .int, c1) ∧ sn.length = l.length
  | [], c => ⟨[], c, rfl, rfl⟩
  | t :: l, c => by
    obtain ⟨sn, c1, h1, h2⟩ := l_lw10 l (c + 1)
    refine ⟨(lawNum ns (c + 1) % 20 - 6) :: sn, c1, ?_, by rw [List.length_cons, List.length_cons, h2]⟩
    unfold lcGo
    have e : turnL [.sh (.lst (ns.map .int)), .dr (.lst (ns.map .int)), s2, s3, s4, s5, s6, s7, s8, s9, s10, s11, s12, s13] [13] (.nm 13) .yes (.bin .sub (.calld 1 f__law_take 1 (.cons (.con (.int 20)) .nil)) (.con (.int 6))) t c = some (some (.int (lawNum ns (c + 1) % 20 - 6)), c + 1) := by
      simp [turnL, bindG, wipeS, putS, IT.run, IE.run, IA.run, take_D, binD]
    rw [e]
    dsimp only
    rw [h1]
    rfl
theorem e_lw10 : ∃ (sn : List Int) (c1 : Int), sn.length < 1000 ∧ lw10.run [.sh (.lst (ns.map .int)), .dr (.lst (ns.map .int)), s2, s3, s4, s5, s6, s7, s8, s9, s10, s11, s12, s13] c = some (.nx [.sh (.lst (ns.map .int)), .dr (.lst (ns.map .int)), s2, s3, s4, s5, s6, s7, s8, s9, s10, .sh (.lst (sn.map .int)), s12, s13] c1) := by
  have h1 := Int.emod_nonneg (lawNum ns (c + 1)) (show (9 : Int) ≠ 0 by decide)
  have h2 := Int.emod_lt_of_pos (lawNum ns (c + 1)) (show (0 : Int) < 9 by decide)
  have hi : (II.rng1 (.calld 1 f__law_take 1 (.cons (.con (.int 9)) .nil))).run [.sh (.lst (ns.map .int)), .dr (.lst (ns.map .int)), s2, s3, s4, s5, s6, s7, s8, s9, s10, s11, s12, s13] c = some (rng 0 (lawNum ns (c + 1) % 9).toNat, c + 1) := by
    have e2 : (IE.calld 1 f__law_take 1 (.cons (.con (.int 9)) .nil)).run [.sh (.lst (ns.map .int)), .dr (.lst (ns.map .int)), s2, s3, s4, s5, s6, s7, s8, s9, s10, s11, s12, s13] c = some (.int (lawNum ns (c + 1) % 9), c + 1) := by
      simp [IE.run, IA.run, take_D]
    unfold II.run
    rw [e2]
    exact if_pos ⟨by omega, by omega⟩
  have hlen : (rng 0 (lawNum ns (c + 1) % 9).toNat).length = (lawNum ns (c + 1) % 9).toNat := by
    unfold rng
    rw [List.length_map, List.length_range]
  obtain ⟨sn, c1, h3, h4⟩ := l_lw10 (ns := ns) (s2 := s2) (s3 := s3) (s4 := s4) (s5 := s5) (s6 := s6) (s7 := s7) (s8 := s8) (s9 := s9) (s10 := s10) (s11 := s11) (s12 := s12) (s13 := s13) (rng 0 (lawNum ns (c + 1) % 9).toNat) (c + 1)
  have hline : 1001 < line := by decide
  have h5 := lc_run hi h3 (by rw [hlen]; omega)
  refine ⟨sn, c1, by omega, ?_⟩
  unfold lw10 IS.run
  rw [h5]
  rfl
theorem e_lw11 {sn : List Int} (hb : bdB one = true) (hs : sn.length < 1000) : lw11.run [.sh (.lst (ns.map .int)), .dr (.lst (ns.map .int)), s2, s3, s4, .sh (sD one), s6, s7, s8, s9, s10, .sh (.lst (sn.map .int)), s12, s13] c = some (.nx [.sh (.lst (ns.map .int)), .dr (.lst (ns.map .int)), s2, s3, s4, .sh (sD one), s6, s7, s8, s9, s10, .sh (.lst (sn.map .int)), .sh (oD (mb (dedup sn) one)), s13] c) := by
  simp [lw11, IS.run, IE.run, IA.run, but_T hb hs, putS]
theorem l_lw12 {sn : List Int} : ∀ (ks : List Int) (c : Int), lcGo (turnL [.sh (.lst (ns.map .int)), .dr (.lst (ns.map .int)), s2, s3, s4, s5, s6, s7, s8, s9, s10, .sh (.lst (sn.map .int)), s12, s13] [7] (.nm 7) .yes (.cmp .notin (.var 7) (.var 11))) (ks.map .int) c = some ((ks.map fun k => !decide (k ∈ sn)).map .bl, c)
  | [], c => rfl
  | k :: ks, c => by
    rw [List.map_cons]
    unfold lcGo
    have e : turnL [.sh (.lst (ns.map .int)), .dr (.lst (ns.map .int)), s2, s3, s4, s5, s6, s7, s8, s9, s10, .sh (.lst (sn.map .int)), s12, s13] [7] (.nm 7) .yes (.cmp .notin (.var 7) (.var 11)) (.int k) c = some (some (.bl (!decide (k ∈ sn))), c) := by
      simp [turnL, bindG, wipeS, putS, IT.run, IE.run, cmp_notin]
    rw [e]
    dsimp only
    rw [l_lw12 ks c]
    rfl
theorem bls_D : ∀ bs : List Bool, D.bls (bs.map .bl) = some bs
  | [] => rfl
  | b :: bs => by
    show (D.bls (bs.map .bl)).map (b :: ·) = _
    rw [bls_D bs]
    rfl
theorem inside_len : (inside one).length ≤ 100 := by
  have := List.length_filter_le (mem one) (rngI (-40) 100)
  rw [rngI_len] at this
  exact this
theorem e_lw12 {sn : List Int} : lw12.run [.sh (.lst (ns.map .int)), .dr (.lst (ns.map .int)), s2, s3, s4, .sh (sD one), s6, s7, s8, s9, .sh (.lst ((inside one).map .int)), .sh (.lst (sn.map .int)), .sh (oD (mb (dedup sn) one)), s13] c = some (.nx [.sh (.lst (ns.map .int)), .dr (.lst (ns.map .int)), s2, s3, s4, .sh (sD one), s6, s7, s8, s9, .sh (.lst ((inside one).map .int)), .sh (.lst (sn.map .int)), .sh (oD (mb (dedup sn) one)), s13] c) := by
  cases hm : mb (dedup sn) one with
  | some n => simp [lw12, IS.runs, IS.run, IT.run, IE.run, oD, isNon, truD]
  | none =>
    have hline : 1001 < line := by decide
    have hil := inside_len (one := one)
    have h := lc_run (t := .yes) (e := .cmp .notin (.var 7) (.var 11)) (seq_run (e := .var 10) (ρ := [.sh (.lst (ns.map .int)), .dr (.lst (ns.map .int)), s2, s3, s4, .sh (sD one), s6, s7, s8, s9, .sh (.lst ((inside one).map .int)), .sh (.lst (sn.map .int)), .sh (oD none), s13]) (c := c) (c1 := c) (d := .lst ((inside one).map .int)) (k := true) rfl rfl) (l_lw12 (inside one) c) (by rw [List.length_map]; omega)
    have hany : ((inside one).map fun k => !decide (k ∈ sn)).any id = false := by
      rw [List.any_eq_false]
      intro x hx
      obtain ⟨k, hk, rfl⟩ := List.mem_map.mp hx
      have h1 := (List.mem_filter.mp hk).2
      have h2 := mb_none hm h1
      rw [dedup_mem] at h2
      simp [h2]
    have e1 : (IE.b1 .any (.lc [7] (.nm 7) (.seq (.var 10)) .yes (.cmp .notin (.var 7) (.var 11)))).run [.sh (.lst (ns.map .int)), .dr (.lst (ns.map .int)), s2, s3, s4, .sh (sD one), s6, s7, s8, s9, .sh (.lst ((inside one).map .int)), .sh (.lst (sn.map .int)), .sh (oD none), s13] c = some (.bl false, c) := by
      unfold IE.run
      rw [h]
      show (Option.map _ (D.bls (((inside one).map fun k => !decide (k ∈ sn)).map .bl))).map _ = _
      rw [bls_D]
      show some (D.bl (((inside one).map fun k => !decide (k ∈ sn)).any id), c) = _
      rw [hany]
    have e2 : IT.run [.sh (.lst (ns.map .int)), .dr (.lst (ns.map .int)), s2, s3, s4, .sh (sD one), s6, s7, s8, s9, .sh (.lst ((inside one).map .int)), .sh (.lst (sn.map .int)), .sh (oD none), s13] (.and (.val (.isN (.var 12))) (.val (.b1 .any (.lc [7] (.nm 7) (.seq (.var 10)) .yes (.cmp .notin (.var 7) (.var 11)))))) c = some (false, c) := by
      have e3 : IT.run [.sh (.lst (ns.map .int)), .dr (.lst (ns.map .int)), s2, s3, s4, .sh (sD one), s6, s7, s8, s9, .sh (.lst ((inside one).map .int)), .sh (.lst (sn.map .int)), .sh (oD none), s13] (.val (.b1 .any (.lc [7] (.nm 7) (.seq (.var 10)) .yes (.cmp .notin (.var 7) (.var 11))))) c = some (false, c) := by
        unfold IT.run
        rw [e1]
        rfl
      exact e3
    unfold lw12 IS.run
    rw [e2]
    rfl
theorem e_lw13 {sn : List Int} : lw13.run [.sh (.lst (ns.map .int)), .dr (.lst (ns.map .int)), s2, s3, s4, .sh (sD one), s6, s7, s8, s9, s10, .sh (.lst (sn.map .int)), .sh (oD (mb (dedup sn) one)), s13] c = some (.nx [.sh (.lst (ns.map .int)), .dr (.lst (ns.map .int)), s2, s3, s4, .sh (sD one), s6, s7, s8, s9, s10, .sh (.lst (sn.map .int)), .sh (oD (mb (dedup sn) one)), s13] c) := by
  cases hm : mb (dedup sn) one with
  | none => simp [lw13, IS.runs, IS.run, IT.run, IE.run, oD, isNon, truD]
  | some n =>
    obtain ⟨h1, h2⟩ := mb_some hm
    rw [dedup_mem] at h2
    have h3 := has_T one n
    rw [h1] at h3
    have h4 := cmp_in n sn
    rw [decide_eq_false h2] at h4
    simp [lw13, IS.runs, IS.run, IT.run, IE.run, IA.run, oD, isNon, truD, h3, h4]
end
end Rf

namespace Rf
open PySem PySem.Spec L2
noncomputable def b_law : List IS := [lw2, lw3, lw4, lw5, lw6, lw7, lw8, lw9, lw10, lw11, lw12, lw13]
theorem e_lw2 {ns : List Int} {a b : List Iv} {s2 s3 s4 s5 s6 s7 s8 s9 s10 s11 s12 s13 : Slot} {c c1 c2 : Int} (h1 : f__law_pairs (.lst (ns.map .int)) [] c = some (.lst (a.map iD), c1)) (h2 : f__law_pairs (.lst (ns.map .int)) [] c1 = some (.lst (b.map iD), c2)) :
    lw2.run [.sh (.lst (ns.map .int)), .dr (.lst (ns.map .int)), s2, s3, s4, s5, s6, s7, s8, s9, s10, s11, s12, s13] c = some (.nx [.sh (.lst (ns.map .int)), .dr (.lst (ns.map .int)), s2, .sh (.lst (a.map iD)), .sh (.lst (b.map iD)), s5, s6, s7, s8, s9, s10, s11, s12, s13] c2) := by
  simp [lw2, IS.run, IE.run, IA.run, h1, h2, putS]
theorem e_lw3 {ns : List Int} {a b : List Iv} {s2 s5 s6 s7 s8 s9 s10 s11 s12 s13 : Slot} {c : Int} (h1 : a.length ≤ 4) (h2 : b.length ≤ 4) :
    lw3.run [.sh (.lst (ns.map .int)), .dr (.lst (ns.map .int)), s2, .sh (.lst (a.map iD)), .sh (.lst (b.map iD)), s5, s6, s7, s8, s9, s10, s11, s12, s13] c = some (.nx [.sh (.lst (ns.map .int)), .dr (.lst (ns.map .int)), s2, .sh (.lst (a.map iD)), .sh (.lst (b.map iD)), .sh (sD (normal a)), .sh (sD (normal b)), s7, s8, s9, s10, s11, s12, s13] c) := by
  have h3 := normal_L a (by omega)
  have h4 := normal_L b (by omega)
  simp [lw3, IS.run, IE.run, IA.run, h3, h4, bindG, bindGs, putS, two_line]
theorem s_law (ns : List Int) (t : D) (s2 s3 s4 s5 s6 s7 s8 s9 s10 s11 s12 s13 : Slot) (c : Int) : ∃ y2 y3 y4 y5 y6 y7 y8 y9 y10 y11 y12 y13 c1, turnF (.nm 2) b_law t [.sh (.lst (ns.map .int)), .dr (.lst (ns.map .int)), s2, s3, s4, s5, s6, s7, s8, s9, s10, s11, s12, s13] c
    = some (.nx [.sh (.lst (ns.map .int)), .dr (.lst (ns.map .int)), y2, y3, y4, y5, y6, y7, y8, y9, y10, y11, y12, y13] c1) := by
  obtain ⟨a, c1, h1, la, ba⟩ := pairs_ok ns c
  obtain ⟨b, c2, h2, lb, bb⟩ := pairs_ok ns c1
  obtain ⟨na, ma⟩ := normal_ok a
  obtain ⟨nb, mb_⟩ := normal_ok b
  have lna : (normal a).length ≤ 4 := Nat.le_trans (normal_len a) la
  have lnb : (normal b).length ≤ 4 := Nat.le_trans (normal_len b) lb
  have bna := normal_bd _ ba
  have bda := bd_bdB bna
  have e0 : turnF (.nm 2) b_law t [.sh (.lst (ns.map .int)), .dr (.lst (ns.map .int)), s2, s3, s4, s5, s6, s7, s8, s9, s10, s11, s12, s13] c = IS.runs b_law [.sh (.lst (ns.map .int)), .dr (.lst (ns.map .int)), .sh t, s3, s4, s5, s6, s7, s8, s9, s10, s11, s12, s13] c := rfl
  obtain ⟨y7, y8, y9, e5⟩ := e_lw5 (ns := ns) (s2 := .sh t) (s7 := s7) (s8 := s8) (s9 := s9) (s10 := s10) (s11 := s11) (s12 := s12) (s13 := s13) (c := c2) na nb ma mb_ lna lnb
  obtain ⟨sn, c3, hs, e10⟩ := e_lw10 (ns := ns) (s2 := .sh t) (s3 := .sh (.lst (a.map iD))) (s4 := .sh (.lst (b.map iD))) (s5 := .sh (sD (normal a))) (s6 := .sh (sD (normal b))) (s7 := y7) (s8 := y8) (s9 := y9) (s10 := .sh (.lst ((inside (normal a)).map .int))) (s11 := s11) (s12 := s12) (s13 := s13) (c := c2)
  refine ⟨.sh t, .sh (.lst (a.map iD)), .sh (.lst (b.map iD)), .sh (sD (normal a)), .sh (sD (normal b)), y7, y8, y9, .sh (.lst ((inside (normal a)).map .int)), .sh (.lst (sn.map .int)), .sh (oD (mb (dedup sn) (normal a))), s13, c3, ?_⟩
  rw [e0]
  unfold b_law
  rw [runs_cons (e_lw2 h1 h2), runs_cons (e_lw3 la lb), runs_cons (e_lw4 na lna), runs_cons e5, runs_cons (e_lw6 na lna), runs_cons e_lw7, runs_cons (e_lw8 na bna), runs_cons (e_lw9 na bda), runs_cons e10, runs_cons (e_lw11 bda hs), runs_cons e_lw12, runs_cons e_lw13]
  rfl
theorem l_law (ns : List Int) : ∀ (l : List D) (s2 s3 s4 s5 s6 s7 s8 s9 s10 s11 s12 s13 : Slot) (c : Int), ∃ y2 y3 y4 y5 y6 y7 y8 y9 y10 y11 y12 y13 c1, forGo (turnF (.nm 2) b_law) l [.sh (.lst (ns.map .int)), .dr (.lst (ns.map .int)), s2, s3, s4, s5, s6, s7, s8, s9, s10, s11, s12, s13] c
    = some (.nx [.sh (.lst (ns.map .int)), .dr (.lst (ns.map .int)), y2, y3, y4, y5, y6, y7, y8, y9, y10, y11, y12, y13] c1)
  | [], s2, s3, s4, s5, s6, s7, s8, s9, s10, s11, s12, s13, c => ⟨s2, s3, s4, s5, s6, s7, s8, s9, s10, s11, s12, s13, c, rfl⟩
  | t :: l, s2, s3, s4, s5, s6, s7, s8, s9, s10, s11, s12, s13, c => by
    obtain ⟨y2, y3, y4, y5, y6, y7, y8, y9, y10, y11, y12, y13, c1, e⟩ := s_law ns t s2 s3 s4 s5 s6 s7 s8 s9 s10 s11 s12 s13 c
    unfold forGo
    rw [e]
    exact l_law ns l y2 y3 y4 y5 y6 y7 y8 y9 y10 y11 y12 y13 c1
theorem r_law (ns : List Int) (_ : ns.length ≤ 63) : ∃ c, IS.runs il_law (.sh (.lst (ns.map .int)) :: .dr (.lst (ns.map .int)) :: List.replicate (14 - 2) .no) 0 = some (.rt (.bl true) c) := by
  obtain ⟨y2, y3, y4, y5, y6, y7, y8, y9, y10, y11, y12, y13, c1, e⟩ := l_law ns (rng 0 6) .no .no .no .no .no .no .no .no .no .no .no .no 0
  refine ⟨c1, ?_⟩
  show IS.runs il_law [.sh (.lst (ns.map .int)), .dr (.lst (ns.map .int)), .no, .no, .no, .no, .no, .no, .no, .no, .no, .no, .no, .no] 0 = _
  unfold il_law
  rw [runs_for (ds := rng 0 6) (c1 := 0) rfl]
  show (match forGo (turnF (.nm 2) b_law) (rng 0 6) [.sh (.lst (ns.map .int)), .dr (.lst (ns.map .int)), .no, .no, .no, .no, .no, .no, .no, .no, .no, .no, .no, .no] 0 with
    | some (.nx ρ1 c1) => IS.runs [.ret (.con (.bl true))] ρ1 c1
    | o => o) = _
  rw [e]
  rfl
end Rf

namespace Rf
open PySem PySem.Spec L2
def top (i : Nat) : Stmt := PySem.Challenge.pw_streamsure_k55_whole_sets.main.body.getD i (.Pass ⟨0, 0, 0, 0⟩)
def dd (x : Str) (i : Nat) : He.DefD := ⟨(x, none), x, x, defArgs (top i), defBody (top i), defScope (top i), [], []⟩
def cs : List (Str × D) := [("EVERYTHING", .tup [.tup [.non, .non]])]
def tab0 : Tab := ⟨[], cs, [], [], [], []⟩

def fn : List He.DefD := [dd "_is_void" 4, dd "_begin" 5, dd "_reaches" 6, dd "_later_end" 7, dd "normal" 3, dd "union" 8, dd "others" 10, dd "meet" 9, dd "has" 11, dd "least" 12, dd "greatest" 13, dd "how_many" 14, dd "_finite_part" 17, dd "member_but" 16, dd "some_member" 15, dd "_law_number" 56, dd "_law_take" 57, dd "_law_pairs" 68, dd "_law_in" 69, dd "_law_is_normal" 70, dd "law" 71]
def fa : List He.Fa := [.glo "_is_void", .glo "_begin", .glo "_reaches", .glo "_later_end", .glo "normal", .glo "union", .glo "others", .glo "meet", .glo "has", .glo "least", .glo "greatest", .glo "how_many", .glo "_finite_part", .glo "member_but", .glo "some_member", .glo "_law_number", .glo "_law_take", .glo "_law_pairs", .glo "_law_in", .glo "_law_is_normal", .glo "law"] ++ blts.map .free
noncomputable def fs0 : Tab := { tab0 with fs := ("_is_void", .pure 1 f__is_void) :: tab0.fs }
noncomputable def fs1 : Tab := { fs0 with fs := ("_begin", .pure 1 f__begin) :: fs0.fs }
noncomputable def fs2 : Tab := { fs1 with fs := ("_reaches", .pure 2 f__reaches) :: fs1.fs }
noncomputable def fs3 : Tab := { fs2 with fs := ("_later_end", .pure 2 f__later_end) :: fs2.fs }
noncomputable def fs4 : Tab := { fs3 with fs := ("normal", .pure 1 f_normal) :: fs3.fs }
noncomputable def fs5 : Tab := { fs4 with fs := ("union", .pure 2 f_union) :: fs4.fs }
noncomputable def fs6 : Tab := { fs5 with fs := ("others", .pure 1 f_others) :: fs5.fs }
noncomputable def fs7 : Tab := { fs6 with fs := ("meet", .pure 2 f_meet) :: fs6.fs }
noncomputable def fs8 : Tab := { fs7 with fs := ("has", .pure 2 f_has) :: fs7.fs }
noncomputable def fs9 : Tab := { fs8 with fs := ("least", .pure 1 f_least) :: fs8.fs }
noncomputable def fs10 : Tab := { fs9 with fs := ("greatest", .pure 1 f_greatest) :: fs9.fs }
noncomputable def fs11 : Tab := { fs10 with fs := ("how_many", .pure 1 f_how_many) :: fs10.fs }
noncomputable def fs12 : Tab := { fs11 with fs := ("_finite_part", .pure 3 f__finite_part) :: fs11.fs }
noncomputable def fs13 : Tab := { fs12 with fs := ("member_but", .pure 2 f_member_but) :: fs12.fs }
noncomputable def fs14 : Tab := { fs13 with fs := ("some_member", .pure 1 f_some_member) :: fs13.fs }
noncomputable def fs15 : Tab := { fs14 with fs := ("_law_number", .pure 2 f__law_number) :: fs14.fs }
noncomputable def fs16 : Tab := { fs15 with fs := ("_law_take", .draw 1 f__law_take) :: fs15.fs }
noncomputable def fs17 : Tab := { fs16 with fs := ("_law_pairs", .draw 0 f__law_pairs) :: fs16.fs }
noncomputable def fs18 : Tab := { fs17 with fs := ("_law_in", .pure 2 f_has) :: fs17.fs }
noncomputable def fs19 : Tab := { fs18 with fs := ("_law_is_normal", .pure 1 f__law_is_normal) :: fs18.fs }
theorem sc0 : FnScope ["pair", "low", "high"] ["pair"] (defScope (top 4)) := ⟨rfl, rfl, rfl, by decide +kernel, rfl, by decide +kernel, by decide +kernel⟩
theorem rd0 : Reads ["pair", "low", "high"] (defScope (top 4)) tab0 [] [] [] none none (defBody (top 4)) il__is_void := by unfold Reads; kernel_rfl
theorem sc1 : FnScope ["pair", "low"] ["pair"] (defScope (top 5)) := ⟨rfl, rfl, rfl, by decide +kernel, rfl, by decide +kernel, by decide +kernel⟩
theorem rd1 : Reads ["pair", "low"] (defScope (top 5)) fs0 [] [] [] none none (defBody (top 5)) il__begin := by unfold Reads; kernel_rfl
theorem sc2 : FnScope ["pair", "low", "high"] ["pair", "low"] (defScope (top 6)) := ⟨rfl, rfl, rfl, by decide +kernel, rfl, by decide +kernel, by decide +kernel⟩
theorem rd2 : Reads ["pair", "low", "high"] (defScope (top 6)) fs1 [] [] [] none none (defBody (top 6)) il__reaches := by unfold Reads; kernel_rfl
theorem sc3 : FnScope ["one", "other"] ["one", "other"] (defScope (top 7)) := ⟨rfl, rfl, rfl, by decide +kernel, rfl, by decide +kernel, by decide +kernel⟩
theorem rd3 : Reads ["one", "other"] (defScope (top 7)) fs2 [] [] [] none none (defBody (top 7)) il__later_end := by unfold Reads; kernel_rfl
theorem sc4 : FnScope ["pairs", "found", "low", "high", "pair"] ["pairs"] (defScope (top 3)) := ⟨rfl, rfl, rfl, by decide +kernel, rfl, by decide +kernel, by decide +kernel⟩
theorem rd4 : Reads ["pairs", "found", "low", "high", "pair"] (defScope (top 3)) fs3 ["found"] [] [] none none (defBody (top 3)) il_normal := by unfold Reads; kernel_rfl
theorem sc5 : FnScope ["one", "other"] ["one", "other"] (defScope (top 8)) := ⟨rfl, rfl, rfl, by decide +kernel, rfl, by decide +kernel, by decide +kernel⟩
theorem rd5 : Reads ["one", "other"] (defScope (top 8)) fs4 [] [] [] none none (defBody (top 8)) il_union := by unfold Reads; kernel_rfl
theorem sc6 : FnScope ["one", "found", "begin", "low", "high"] ["one"] (defScope (top 10)) := ⟨rfl, rfl, rfl, by decide +kernel, rfl, by decide +kernel, by decide +kernel⟩
theorem rd6 : Reads ["one", "found", "begin", "low", "high"] (defScope (top 10)) fs5 ["found"] [] [] none none (defBody (top 10)) il_others := by unfold Reads; kernel_rfl
theorem sc7 : FnScope ["one", "other"] ["one", "other"] (defScope (top 9)) := ⟨rfl, rfl, rfl, by decide +kernel, rfl, by decide +kernel, by decide +kernel⟩
theorem rd7 : Reads ["one", "other"] (defScope (top 9)) fs6 [] [] [] none none (defBody (top 9)) il_meet := by unfold Reads; kernel_rfl
theorem sc8 : FnScope ["one", "number", "low", "high"] ["one", "number"] (defScope (top 11)) := ⟨rfl, rfl, rfl, by decide +kernel, rfl, by decide +kernel, by decide +kernel⟩
theorem rd8 : Reads ["one", "number", "low", "high"] (defScope (top 11)) fs7 [] [] [] none none (defBody (top 11)) il_has := by unfold Reads; kernel_rfl
theorem sc9 : FnScope ["one"] ["one"] (defScope (top 12)) := ⟨rfl, rfl, rfl, by decide +kernel, rfl, by decide +kernel, by decide +kernel⟩
theorem rd9 : Reads ["one"] (defScope (top 12)) fs8 [] [] [] none none (defBody (top 12)) il_least := by unfold Reads; kernel_rfl
theorem sc10 : FnScope ["one"] ["one"] (defScope (top 13)) := ⟨rfl, rfl, rfl, by decide +kernel, rfl, by decide +kernel, by decide +kernel⟩
theorem rd10 : Reads ["one"] (defScope (top 13)) fs9 [] [] [] none none (defBody (top 13)) il_greatest := by unfold Reads; kernel_rfl
theorem sc11 : FnScope ["one", "many", "low", "high"] ["one"] (defScope (top 14)) := ⟨rfl, rfl, rfl, by decide +kernel, rfl, by decide +kernel, by decide +kernel⟩
theorem rd11 : Reads ["one", "many", "low", "high"] (defScope (top 14)) fs10 [] [] [] none none (defBody (top 14)) il_how_many := by unfold Reads; kernel_rfl
theorem sc12 : FnScope ["low", "high", "many"] ["low", "high", "many"] (defScope (top 17)) := ⟨rfl, rfl, rfl, by decide +kernel, rfl, by decide +kernel, by decide +kernel⟩
theorem rd12 : Reads ["low", "high", "many"] (defScope (top 17)) fs11 [] [] [] none none (defBody (top 17)) il__finite_part := by unfold Reads; kernel_rfl
theorem sc13 : FnScope ["one", "seen", "barred", "low", "high", "begin", "last", "number"] ["one", "seen"] (defScope (top 16)) := ⟨rfl, rfl, rfl, by decide +kernel, rfl, by decide +kernel, by decide +kernel⟩
theorem rd13 : Reads ["one", "seen", "barred", "low", "high", "begin", "last", "number"] (defScope (top 16)) fs12 [] [] ["barred"] none none (defBody (top 16)) il_member_but := by unfold Reads; kernel_rfl
theorem sc14 : FnScope ["one"] ["one"] (defScope (top 15)) := ⟨rfl, rfl, rfl, by decide +kernel, rfl, by decide +kernel, by decide +kernel⟩
theorem rd14 : Reads ["one"] (defScope (top 15)) fs13 [] [] [] none none (defBody (top 15)) il_some_member := by unfold Reads; kernel_rfl
theorem sc15 : FnScope ["script", "index", "cell", "blend"] ["script", "index"] (defScope (top 56)) := ⟨rfl, rfl, rfl, by decide +kernel, rfl, by decide +kernel, by decide +kernel⟩
theorem rd15 : Reads ["script", "index", "cell", "blend"] (defScope (top 56)) fs14 [] [] [] none none (defBody (top 56)) il__law_number := by unfold Reads; kernel_rfl
theorem sc16 : FnScope ["draw", "many"] ["draw", "many"] (defScope (top 57)) := ⟨rfl, rfl, rfl, by decide +kernel, rfl, by decide +kernel, by decide +kernel⟩
theorem rd16 : Reads ["draw", "many"] (defScope (top 57)) fs15 [] [] [] (some "draw") none (defBody (top 57)) il__law_take := by unfold Reads; kernel_rfl
theorem sc17 : FnScope ["draw", "found", "turn", "low", "high", "kind"] ["draw"] (defScope (top 68)) := ⟨rfl, rfl, rfl, by decide +kernel, rfl, by decide +kernel, by decide +kernel⟩
theorem rd17 : Reads ["draw", "found", "turn", "low", "high", "kind"] (defScope (top 68)) fs16 ["found"] [] [] (some "draw") none (defBody (top 68)) il__law_pairs := by unfold Reads; kernel_rfl
theorem sc18 : FnScope ["pairs", "number", "low", "high"] ["pairs", "number"] (defScope (top 69)) := ⟨rfl, rfl, rfl, by decide +kernel, rfl, by decide +kernel, by decide +kernel⟩
theorem rd18 : Reads ["pairs", "number", "low", "high"] (defScope (top 69)) fs17 [] [] [] none none (defBody (top 69)) il_has := by unfold Reads; kernel_rfl
theorem sc19 : FnScope ["one", "low", "high", "start", "end"] ["one"] (defScope (top 70)) := ⟨rfl, rfl, rfl, by decide +kernel, rfl, by decide +kernel, by decide +kernel⟩
theorem rd19 : Reads ["one", "low", "high", "start", "end"] (defScope (top 70)) fs18 [] [] [] none none (defBody (top 70)) il__law_is_normal := by unfold Reads; kernel_rfl
theorem scL : FnScope ["script", "draw", "turn", "pairs", "more", "one", "other", "number", "mine", "theirs", "inside", "seen", "free", "again"] ["script"] (defScope (top 71)) := ⟨rfl, rfl, rfl, by decide +kernel, rfl, by decide +kernel, by decide +kernel⟩
theorem rdL : Reads ["script", "draw", "turn", "pairs", "more", "one", "other", "number", "mine", "theirs", "inside", "seen", "free", "again"] (defScope (top 71)) fs19 [] [] [] (some "draw") none ((defBody (top 71)).tail) il_law := by unfold Reads; kernel_rfl
theorem facts {P : Program} {w : World} {K : PySem.W.Frag} {h : Heap} {mg : Str → Option Value} {f : Addr} (X : K.In h) (G : h.Ns mainGlobals mg) (hfa : mg ("law" : Str) = some (.ref f)) (c : He.SaysD fa fn K) (cc : csB cs K = true) :
    ∃ fd : FuncData, (∀ (s : Shared) (v : Value), BindsTo s fd ⟨[v], []⟩ [("script", v)]) ∧ ∀ base : Heap, K.In base → base.Ns mainGlobals mg → FnOk P w K mg base CX0 43 f fd ["script"] (spLaw K) := by
  obtain ⟨fd0, F0⟩ := c.def_ 0 (d := dd "_is_void" 4) rfl
  obtain ⟨fd1, F1⟩ := c.def_ 1 (d := dd "_begin" 5) rfl
  obtain ⟨fd2, F2⟩ := c.def_ 2 (d := dd "_reaches" 6) rfl
  obtain ⟨fd3, F3⟩ := c.def_ 3 (d := dd "_later_end" 7) rfl
  obtain ⟨fd4, F4⟩ := c.def_ 4 (d := dd "normal" 3) rfl
  obtain ⟨fd5, F5⟩ := c.def_ 5 (d := dd "union" 8) rfl
  obtain ⟨fd6, F6⟩ := c.def_ 6 (d := dd "others" 10) rfl
  obtain ⟨fd7, F7⟩ := c.def_ 7 (d := dd "meet" 9) rfl
  obtain ⟨fd8, F8⟩ := c.def_ 8 (d := dd "has" 11) rfl
  obtain ⟨fd9, F9⟩ := c.def_ 9 (d := dd "least" 12) rfl
  obtain ⟨fd10, F10⟩ := c.def_ 10 (d := dd "greatest" 13) rfl
  obtain ⟨fd11, F11⟩ := c.def_ 11 (d := dd "how_many" 14) rfl
  obtain ⟨fd12, F12⟩ := c.def_ 12 (d := dd "_finite_part" 17) rfl
  obtain ⟨fd13, F13⟩ := c.def_ 13 (d := dd "member_but" 16) rfl
  obtain ⟨fd14, F14⟩ := c.def_ 14 (d := dd "some_member" 15) rfl
  obtain ⟨fd15, F15⟩ := c.def_ 15 (d := dd "_law_number" 56) rfl
  obtain ⟨fd16, F16⟩ := c.def_ 16 (d := dd "_law_take" 57) rfl
  obtain ⟨fd17, F17⟩ := c.def_ 17 (d := dd "_law_pairs" 68) rfl
  obtain ⟨fd18, F18⟩ := c.def_ 18 (d := dd "_law_in" 69) rfl
  obtain ⟨fd19, F19⟩ := c.def_ 19 (d := dd "_law_is_normal" 70) rfl
  obtain ⟨fd20, F20⟩ := c.def_ 20 (d := dd "law" 71) rfl
  have g0 := He.glo_ok X G (c.fact 0 (f := .glo "_is_void") rfl)
  have g1 := He.glo_ok X G (c.fact 1 (f := .glo "_begin") rfl)
  have g2 := He.glo_ok X G (c.fact 2 (f := .glo "_reaches") rfl)
  have g3 := He.glo_ok X G (c.fact 3 (f := .glo "_later_end") rfl)
  have g4 := He.glo_ok X G (c.fact 4 (f := .glo "normal") rfl)
  have g5 := He.glo_ok X G (c.fact 5 (f := .glo "union") rfl)
  have g6 := He.glo_ok X G (c.fact 6 (f := .glo "others") rfl)
  have g7 := He.glo_ok X G (c.fact 7 (f := .glo "meet") rfl)
  have g8 := He.glo_ok X G (c.fact 8 (f := .glo "has") rfl)
  have g9 := He.glo_ok X G (c.fact 9 (f := .glo "least") rfl)
  have g10 := He.glo_ok X G (c.fact 10 (f := .glo "greatest") rfl)
  have g11 := He.glo_ok X G (c.fact 11 (f := .glo "how_many") rfl)
  have g12 := He.glo_ok X G (c.fact 12 (f := .glo "_finite_part") rfl)
  have g13 := He.glo_ok X G (c.fact 13 (f := .glo "member_but") rfl)
  have g14 := He.glo_ok X G (c.fact 14 (f := .glo "some_member") rfl)
  have g15 := He.glo_ok X G (c.fact 15 (f := .glo "_law_number") rfl)
  have g16 := He.glo_ok X G (c.fact 16 (f := .glo "_law_take") rfl)
  have g17 := He.glo_ok X G (c.fact 17 (f := .glo "_law_pairs") rfl)
  have g18 := He.glo_ok X G (c.fact 18 (f := .glo "_law_in") rfl)
  have g19 := He.glo_ok X G (c.fact 19 (f := .glo "_law_is_normal") rfl)
  have g20 := He.glo_ok X G (c.fact 20 (f := .glo "law") rfl)
  have e := hfa.symm.trans g20
  cases e
  have b := FunD.bindsA (ps := ["script"]) F20 fun _ _ _ _ _ _ us hl => match us, hl with | [_], _ => rfl
  refine ⟨fd20, fun s v => b s [v] rfl, fun base _ _ => ?_⟩
  have M : MokT P w K mg base (ZK K) tab0 2 := mok_start X G c cc (fun x hx => List.mem_append_right _ (List.mem_map_of_mem hx)) fun f k hk => by cases hk
  have M0 : MokT P w K mg base (ZK K) fs0 4 := mok_pure (K := K) (N := ["pair", "low", "high"]) (ps := ["pair"]) (F := f__is_void) (il := il__is_void) M F0 g0 sc0 (fun _ _ _ _ _ _ us hl => match us, hl with | [_], _ => rfl) rd0 fun ds e h hl => r__is_void ds e h hl
  have M1 : MokT P w K mg base (ZK K) fs1 6 := mok_pure (K := K) (N := ["pair", "low"]) (ps := ["pair"]) (F := f__begin) (il := il__begin) M0 F1 g1 sc1 (fun _ _ _ _ _ _ us hl => match us, hl with | [_], _ => rfl) rd1 fun ds e h hl => r__begin ds e h hl
  have M2 : MokT P w K mg base (ZK K) fs2 8 := mok_pure (K := K) (N := ["pair", "low", "high"]) (ps := ["pair", "low"]) (F := f__reaches) (il := il__reaches) M1 F2 g2 sc2 (fun _ _ _ _ _ _ us hl => match us, hl with | [_, _], _ => rfl) rd2 fun ds e h hl => r__reaches ds e h hl
  have M3 : MokT P w K mg base (ZK K) fs3 10 := mok_pure (K := K) (N := ["one", "other"]) (ps := ["one", "other"]) (F := f__later_end) (il := il__later_end) M2 F3 g3 sc3 (fun _ _ _ _ _ _ us hl => match us, hl with | [_, _], _ => rfl) rd3 fun ds e h hl => r__later_end ds e h hl
  have M4 : MokT P w K mg base (ZK K) fs4 12 := mok_pure (K := K) (N := ["pairs", "found", "low", "high", "pair"]) (ps := ["pairs"]) (F := f_normal) (il := il_normal) M3 F4 g4 sc4 (fun _ _ _ _ _ _ us hl => match us, hl with | [_], _ => rfl) rd4 fun ds e h hl => r_normal ds e h hl
  have M5 : MokT P w K mg base (ZK K) fs5 14 := mok_pure (K := K) (N := ["one", "other"]) (ps := ["one", "other"]) (F := f_union) (il := il_union) M4 F5 g5 sc5 (fun _ _ _ _ _ _ us hl => match us, hl with | [_, _], _ => rfl) rd5 fun ds e h hl => r_union ds e h hl
  have M6 : MokT P w K mg base (ZK K) fs6 16 := mok_pure (K := K) (N := ["one", "found", "begin", "low", "high"]) (ps := ["one"]) (F := f_others) (il := il_others) M5 F6 g6 sc6 (fun _ _ _ _ _ _ us hl => match us, hl with | [_], _ => rfl) rd6 fun ds e h hl => r_others ds e h hl
  have M7 : MokT P w K mg base (ZK K) fs7 18 := mok_pure (K := K) (N := ["one", "other"]) (ps := ["one", "other"]) (F := f_meet) (il := il_meet) M6 F7 g7 sc7 (fun _ _ _ _ _ _ us hl => match us, hl with | [_, _], _ => rfl) rd7 fun ds e h hl => r_meet ds e h hl
  have M8 : MokT P w K mg base (ZK K) fs8 20 := mok_pure (K := K) (N := ["one", "number", "low", "high"]) (ps := ["one", "number"]) (F := f_has) (il := il_has) M7 F8 g8 sc8 (fun _ _ _ _ _ _ us hl => match us, hl with | [_, _], _ => rfl) rd8 fun ds e h hl => r_has ds e h hl
  have M9 : MokT P w K mg base (ZK K) fs9 22 := mok_pure (K := K) (N := ["one"]) (ps := ["one"]) (F := f_least) (il := il_least) M8 F9 g9 sc9 (fun _ _ _ _ _ _ us hl => match us, hl with | [_], _ => rfl) rd9 fun ds e h hl => r_least ds e h hl
  have M10 : MokT P w K mg base (ZK K) fs10 24 := mok_pure (K := K) (N := ["one"]) (ps := ["one"]) (F := f_greatest) (il := il_greatest) M9 F10 g10 sc10 (fun _ _ _ _ _ _ us hl => match us, hl with | [_], _ => rfl) rd10 fun ds e h hl => r_greatest ds e h hl
  have M11 : MokT P w K mg base (ZK K) fs11 26 := mok_pure (K := K) (N := ["one", "many", "low", "high"]) (ps := ["one"]) (F := f_how_many) (il := il_how_many) M10 F11 g11 sc11 (fun _ _ _ _ _ _ us hl => match us, hl with | [_], _ => rfl) rd11 fun ds e h hl => r_how_many ds e h hl
  have M12 : MokT P w K mg base (ZK K) fs12 28 := mok_pure (K := K) (N := ["low", "high", "many"]) (ps := ["low", "high", "many"]) (F := f__finite_part) (il := il__finite_part) M11 F12 g12 sc12 (fun _ _ _ _ _ _ us hl => match us, hl with | [_, _, _], _ => rfl) rd12 fun ds e h hl => r__finite_part ds e h hl
  have M13 : MokT P w K mg base (ZK K) fs13 30 := mok_pure (K := K) (N := ["one", "seen", "barred", "low", "high", "begin", "last", "number"]) (ps := ["one", "seen"]) (F := f_member_but) (il := il_member_but) M12 F13 g13 sc13 (fun _ _ _ _ _ _ us hl => match us, hl with | [_, _], _ => rfl) rd13 fun ds e h hl => r_member_but ds e h hl
  have M14 : MokT P w K mg base (ZK K) fs14 32 := mok_pure (K := K) (N := ["one"]) (ps := ["one"]) (F := f_some_member) (il := il_some_member) M13 F14 g14 sc14 (fun _ _ _ _ _ _ us hl => match us, hl with | [_], _ => rfl) rd14 fun ds e h hl => r_some_member ds e h hl
  have M15 : MokT P w K mg base (ZK K) fs15 34 := mok_pure (K := K) (N := ["script", "index", "cell", "blend"]) (ps := ["script", "index"]) (F := f__law_number) (il := il__law_number) M14 F15 g15 sc15 (fun _ _ _ _ _ _ us hl => match us, hl with | [_, _], _ => rfl) rd15 fun ds e h hl => r__law_number ds e h hl
  have M16 : MokT P w K mg base (ZK K) fs16 36 := mok_draw (K := K) (N := ["draw", "many"]) (ps := ["many"]) (F := f__law_take) (il := il__law_take) M15 F16 g16 sc16 (fun _ _ _ _ _ _ us hl => match us, hl with | [_, _], _ => rfl) rd16 fun scr ds c e c1 h hl => r__law_take scr ds c e c1 h hl
  have M17 : MokT P w K mg base (ZK K) fs17 38 := mok_draw (K := K) (N := ["draw", "found", "turn", "low", "high", "kind"]) (ps := []) (F := f__law_pairs) (il := il__law_pairs) M16 F17 g17 sc17 (fun _ _ _ _ _ _ us hl => match us, hl with | [_], _ => rfl) rd17 fun scr ds c e c1 h hl => r__law_pairs scr ds c e c1 h hl
  have M18 : MokT P w K mg base (ZK K) fs18 40 := mok_pure (K := K) (N := ["pairs", "number", "low", "high"]) (ps := ["pairs", "number"]) (F := f_has) (il := il_has) M17 F18 g18 sc18 (fun _ _ _ _ _ _ us hl => match us, hl with | [_, _], _ => rfl) rd18 fun ds e h hl => r_has ds e h hl
  have M19 : MokT P w K mg base (ZK K) fs19 42 := mok_pure (K := K) (N := ["one", "low", "high", "start", "end"]) (ps := ["one"]) (F := f__law_is_normal) (il := il__law_is_normal) M18 F19 g19 sc19 (fun _ _ _ _ _ _ us hl => match us, hl with | [_], _ => rfl) rd19 fun ds e h hl => r__law_is_normal ds e h hl
  exact fn_law (K := K) (Z := ZK K) rfl M19 F20 scL rfl rfl (by decide +kernel) (by decide +kernel) rdL r_law
abbrev R : PySem.W.OpenRow := PySem.W.OpenLaw.row PySem.Challenge.rw_streamsure_k55_whole_sets
abbrev hk : PySem.W.Hook := hookR 4 fa fn cs
def ob (s : PySem.W.SharedT) : He.AlD × Bool := obR 4 fa fn cs s
theorem ob_eq (s : PySem.W.SharedT) : ob s = hk.obs s.abs := obR_eq s
def loose0 : List Str := ["_wall", "__name__", "EVERYTHING", "normal", "_is_void", "_begin", "_reaches", "_later_end", "union", "meet", "others", "has", "least", "greatest", "how_many", "some_member", "member_but", "_finite_part", "StreamError", "BadQuery", "LETTERS", "LONGEST_NAME", "NO_FIELDS", "BARE_WORTHS", "FIELD_WORTHS", "is_integer", "is_row", "is_pair", "is_row_of_pairs", "is_row_of_intervals"]
def loose1 : List Str := ["_is_end", "is_name", "kind_row", "named_once", "known_names", "key_names", "key_pairs", "told_names", "number_from", "worth_row", "_worth", "_is_worth", "BARRED_IN_BLOCKS", "BARRED_IN_SESSIONS", "Kinds", "Side", "Each", "Windows", "Blocks", "Sessions", "Pairs", "Lonely", "_law_number", "_law_take", "_law_pick", "_law_set", "_law_where", "_law_worths", "_law_raw", "_law_built"]
def loose2 : List Str := ["_law_query", "_law_event", "_law_letters", "_law_kind", "_law_pairs", "_law_in", "_law_is_normal"]
def loose : List Str := loose0 ++ loose1 ++ loose2
end Rf

namespace Rf
open PySem PySem.Spec L2
theorem run (w : World) : HandSHeadRun.RunEq R (PySem.W.view R.prog [71]) hk ob 6000 loose w := by
  intro os
  kernel_rfl
end Rf

open PySem PySem.W PySem.Calls PyProof.Rows
theorem PySem.Challenge.cw_streamsure_k55_whole_sets_holds : PySem.Challenge.rw_streamsure_k55_whole_sets.Holds := by
  w_on; o_law
  refine HandSHeadRun.head_any (r := OpenLaw.row PySem.Challenge.rw_streamsure_k55_whole_sets) (q := view (OpenLaw.row PySem.Challenge.rw_streamsure_k55_whole_sets).prog [71]) (H := Rf.hk) (ob := Rf.ob) (M := 6000) (loose := Rf.loose) (d := HandSHeadRun.topDef (OpenLaw.row PySem.Challenge.rw_streamsure_k55_whole_sets).prog 71) (kwd := []) Rf.ob_eq
    (by kernel_rfl) (fun s => by kernel_rfl) Rf.run (by kernel_rfl) (by kernel_rfl) (by kernel_rfl) (by rfl) (by first | assumption | decide +kernel) (by decide +kernel) ⟨rfl, rfl, rfl, rfl, rfl, by decide +kernel⟩ ?hw ?hc
  case hw => w_witness2
  case hc =>
    refine L2.walk_ofE (l := PySem.Challenge.rw_streamsure_k55_whole_sets) (n := 63) (k := 43) (x := "script") (CX := L2.CX0) rfl (by decide) (by kernel_rfl) ⟨rfl, by decide, by decide⟩ ?F (fun _ _ _ _ z => z)
    intro w mg fa h Y G hmg0
    obtain ⟨K, KX, c, cc⟩ := Y
    have hmg : mg ("law" : PySem.Str) = some (.ref fa) := by
      have e : (HandSHeadRun.topDef (OpenLaw.row PySem.Challenge.rw_streamsure_k55_whole_sets).prog 71).name = ("law" : PySem.Str) := by kernel_rfl
      rw [← e]
      exact hmg0
    obtain ⟨fd, hb, hF⟩ := Rf.facts (P := (PySem.Challenge.rw_streamsure_k55_whole_sets).prog) (w := w) KX G hmg c cc
    exact ⟨K, fd, Rf.spLaw K, KX, hb, fun H a ns hl _ hS => ⟨a, ns, rfl, hS, hl, fun _ => rfl⟩, hF⟩

