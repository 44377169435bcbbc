import PyProof.Rows.All
import Wide.All
import OpenK.AllK
import Wide.FinOn
import HandS.ForMost
import HandS.Wide
import HandS.IsInst
import HandS.TupMul
import HandS.TupAny
import HandS.TupLe
import HandS.Deep
import HandS.Conv
import HandS.Sort
import HandS.Style
import HandS.AnyAll
import PyProof.ReprRoads
import PyProof.ListStr
import PyProof.StrOps2
import HandS.StrMore
import HandS.Zip
import HandS.NamedTupSort
import HandS.SortRule
import HandS.Lambda
import HandS.Walk
import HandS.Zip0
import HandS.Iter
import PyProof.EnumMake
import PyProof.Draws
import HandS.Nested
import HandS.EndBits
import PySem.Challenge.RW_seamlots_k07_places_of_cutting
section
set_option Elab.async false
set_option linter.all false
set_option maxRecDepth 100000
set_option maxHeartbeats 1000000
/-! DL, part a: plain data over the tracked heap. A value stands for a datum; what may still change is told apart by a set N of addresses. -/
namespace DL
open PySem PySem.Spec PyProof.Rows L2

abbrev D := PyData
abbrev AS := Addr → Prop
abbrev Fg := PySem.W.Frag

/-- a tuple of the written part -/
def KT (K : Fg) (a : Addr) (xs : List V) : Prop :=
  ∃ (o : Obj) (its : Array Value) (n : Nat), K.lookup a = some o ∧ o.cls = .type "tuple" ∧
    o.data = .seq its n ∧ its.size ≤ sizeLine ∧ Vals xs its.toList
/-- read at a, and a is not among N -/
def LsR (N : AS) (H : Hp) (a : Addr) (xs : List V) : Prop := ¬ N a ∧ H a = some (.lst xs)
def TpR (K : Fg) (N : AS) (H : Hp) (a : Addr) (xs : List V) : Prop := (¬ N a ∧ Rd H a (.tup xs)) ∨ KT K a xs
theorem LsR.sq {K : Fg} {N : AS} {H : Hp} {a : Addr} {xs : List V} (h : LsR N H a xs) : SqL K H a xs := .of h.2
theorem TpR.sq {K : Fg} {N : AS} {H : Hp} {a : Addr} {xs : List V} (h : TpR K N H a xs) : SqT K H a xs := h.imp (·.2) id

mutual
/-- the value v stands for the datum d, and no list or tuple of it stands at an address of N -/
inductive DR (K : Fg) (N : AS) (H : Hp) : V → D → Prop
  | non : DR K N H .non .none
  | bl (b : Bool) : DR K N H (.bl b) (.bool b)
  | int (i : Int) : DR K N H (.int i) (.int i)
  | str (x : Str) : DR K N H (.str x) (.str x)
  | lst {a : Addr} {xs : List V} {ds : List D} : LsR N H a xs → DRs K N H xs ds → DR K N H (.ref a) (.list ds)
  | tup {a : Addr} {xs : List V} {ds : List D} : TpR K N H a xs → DRs K N H xs ds → DR K N H (.ref a) (.tuple ds)
inductive DRs (K : Fg) (N : AS) (H : Hp) : List V → List D → Prop
  | nil : DRs K N H [] []
  | cons {v : V} {vs : List V} {d : D} {ds : List D} : DR K N H v d → DRs K N H vs ds → DRs K N H (v :: vs) (d :: ds)
end

/-- all but the addresses of m and the tables is kept; tables stay tables -/
structure Ext (m : AS) (H H' : Hp) : Prop where
  k : ∀ b o, H b = some o → ¬ m b → (∀ ps, o ≠ .tbl ps) → H' b = some o
  t : ∀ b, GxR.TabG H b → GxR.TabG H' b
  d : ∀ b, H' b = none → H b = none
theorem Ext.refl (m : AS) (H : Hp) : Ext m H H := ⟨fun _ _ h _ _ => h, fun _ h => h, fun _ h => h⟩
theorem Ext.trans {m : AS} {H H1 H2 : Hp} (a : Ext m H H1) (b : Ext m H1 H2) : Ext m H H2 :=
  ⟨fun c o h n t => b.k c o (a.k c o h n t) n t, fun c h => b.t c (a.t c h), fun c h => a.d c (b.d c h)⟩
theorem Ext.mono {m m' : AS} {H H1 : Hp} (a : Ext m H H1) (h : ∀ b, m b → m' b) : Ext m' H H1 :=
  ⟨fun c o q n t => a.k c o q (fun z => n (h c z)) t, a.t, a.d⟩
theorem tab_upd {H : Hp} {p : Addr} {o : HO} (h : ∀ ps, H p ≠ some (.tbl ps)) (b : Addr) (q : GxR.TabG H b) : GxR.TabG (upd H p o) b := by
  obtain ⟨ps, e, t⟩ := q
  exact ⟨ps, (upd_ne (fun z : b = p => h ps (z ▸ e))).trans e, t⟩
theorem upd_no {H : Hp} {p : Addr} {o : HO} (b : Addr) (h : upd H p o b = none) : H b = none := by
  unfold upd at h
  split at h
  · cases h
  · exact h
theorem Ext.new {m : AS} {H : Hp} {p : Addr} {o : HO} (h : H p = none) : Ext m H (upd H p o) :=
  ⟨fun b u e _ _ => (upd_ne (ne_of_none e h)).trans e, tab_upd (fun ps z => by rw [h] at z; cases z), upd_no⟩
theorem Ext.put {m : AS} {H : Hp} {p : Addr} {o : HO} {xs : List V} (h : m p) (e : H p = some (.lst xs)) : Ext m H (upd H p o) :=
  ⟨fun b u e n _ => (upd_ne (fun z : b = p => n (z ▸ h))).trans e, tab_upd (fun ps z => by rw [e] at z; cases z), upd_no⟩
theorem Ext.rd {m : AS} {H H' : Hp} {a : Addr} {u : HO} (e : Ext m H H') (n : ¬ m a) (t : ∀ ps, u ≠ .tbl ps) (r : Rd H a u) : Rd H' a u := by
  rcases r with r | ⟨o, r⟩
  · exact .inl (e.k a u r n t)
  · exact .inr ⟨o, e.k a _ r n (fun ps z => nomatch z)⟩

section
variable {K : Fg} {N N' m : AS} {H H' : Hp}
mutual
theorem DR.trans (hl : ∀ a xs, LsR N H a xs → LsR N' H' a xs) (ht : ∀ a xs, TpR K N H a xs → TpR K N' H' a xs) : ∀ {d : D} {v : V}, DR K N H v d → DR K N' H' v d
  | .none, _, .non => .non
  | .bool _, _, .bl b => .bl b
  | .int _, _, .int i => .int i
  | .str _, _, .str x => .str x
  | .list _, _, .lst a b => .lst (hl _ _ a) (DRs.trans hl ht b)
  | .tuple _, _, .tup a b => .tup (ht _ _ a) (DRs.trans hl ht b)
theorem DRs.trans (hl : ∀ a xs, LsR N H a xs → LsR N' H' a xs) (ht : ∀ a xs, TpR K N H a xs → TpR K N' H' a xs) : ∀ {ds : List D} {vs : List V}, DRs K N H vs ds → DRs K N' H' vs ds
  | [], _, .nil => .nil
  | _ :: _, _, .cons a b => .cons (DR.trans hl ht a) (DRs.trans hl ht b)
end
theorem LsR.mono (h : ∀ a, N' a → N a) (a : Addr) (xs : List V) (q : LsR N H a xs) : LsR N' H a xs := ⟨fun y => q.1 (h a y), q.2⟩
theorem TpR.mono (h : ∀ a, N' a → N a) (a : Addr) (xs : List V) (q : TpR K N H a xs) : TpR K N' H a xs := q.imp (fun z => ⟨fun y => z.1 (h a y), z.2⟩) id
theorem DR.mono (h : ∀ a, N' a → N a) {v : V} {d : D} (q : DR K N H v d) : DR K N' H v d := q.trans (LsR.mono h) (TpR.mono h)
theorem DRs.mono (h : ∀ a, N' a → N a) {v : List V} {d : List D} (q : DRs K N H v d) : DRs K N' H v d := q.trans (LsR.mono h) (TpR.mono h)
theorem LsR.ext (e : Ext m H H') (h : ∀ a, m a → N a) (a : Addr) (xs : List V) (q : LsR N H a xs) : LsR N H' a xs :=
  ⟨q.1, e.k _ _ q.2 (fun y => q.1 (h a y)) (fun _ => nofun)⟩
theorem TpR.ext (e : Ext m H H') (h : ∀ a, m a → N a) (a : Addr) (xs : List V) (q : TpR K N H a xs) : TpR K N H' a xs :=
  q.imp (fun z => ⟨z.1, e.rd (fun y => z.1 (h a y)) (fun _ => nofun) z.2⟩) id
theorem DR.ext (e : Ext m H H') (h : ∀ a, m a → N a) {v : V} {d : D} (q : DR K N H v d) : DR K N H' v d := q.trans (LsR.ext e h) (TpR.ext e h)
theorem DRs.ext (e : Ext m H H') (h : ∀ a, m a → N a) {v : List V} {d : List D} (q : DRs K N H v d) : DRs K N H' v d := q.trans (LsR.ext e h) (TpR.ext e h)
theorem Rd.there {a : Addr} {u : HO} (r : Rd H a u) : ∃ o, H a = some o := by
  rcases r with r | ⟨o, r⟩ <;> exact ⟨_, r⟩
theorem rd_ne {p a : Addr} {u : HO} (hp : H p = none) (r : Rd H a u) : a ≠ p := fun e => by
  obtain ⟨o, q⟩ := Rd.there r
  rw [e, hp] at q
  cases q
theorem LsR.grow {p : Addr} (hp : H p = none) (a : Addr) (xs : List V) (q : LsR N H a xs) : LsR (fun a => N a ∨ a = p) H a xs :=
  ⟨fun w => w.elim q.1 (ne_of_none q.2 hp), q.2⟩
theorem TpR.grow {p : Addr} (hp : H p = none) (a : Addr) (xs : List V) (q : TpR K N H a xs) : TpR K (fun a => N a ∨ a = p) H a xs :=
  q.imp (fun y => ⟨fun w => w.elim y.1 (rd_ne hp y.2), y.2⟩) id
theorem DR.grow {p : Addr} (hp : H p = none) {v : V} {d : D} (q : DR K N H v d) : DR K (fun a => N a ∨ a = p) H v d := q.trans (LsR.grow hp) (TpR.grow hp)
theorem DRs.grow {p : Addr} (hp : H p = none) {v : List V} {d : List D} (q : DRs K N H v d) : DRs K (fun a => N a ∨ a = p) H v d := q.trans (LsR.grow hp) (TpR.grow hp)
mutual
theorem DR.dp : ∀ {d : D} {v : V}, DR K N H v d → Dp K H v d
  | .none, _, .non => .non
  | .bool _, _, .bl b => .bl b
  | .int _, _, .int i => .int i
  | .str _, _, .str x => .str x
  | .list _, _, .lst a b => .lst a.sq (DRs.dp b)
  | .tuple _, _, .tup a b => .tup a.sq (DRs.dp b)
theorem DRs.dp : ∀ {ds : List D} {vs : List V}, DRs K N H vs ds → DpAll K H vs ds
  | [], _, .nil => .nil
  | _ :: _, _, .cons a b => .cons (DR.dp a) (DRs.dp b)
end
theorem DRs.length : ∀ {ds : List D} {vs : List V}, DRs K N H vs ds → vs.length = ds.length
  | [], _, .nil => rfl
  | _ :: _, _, .cons _ b => by rw [List.length_cons, List.length_cons, DRs.length b]
theorem DRs.get : ∀ {ds : List D} {vs : List V} {i : Nat} {d : D}, DRs K N H vs ds → ds[i]? = some d → ∃ v, vs[i]? = some v ∧ DR K N H v d
  | _ :: _, _, 0, _, .cons a _, e => by simp at e; subst e; exact ⟨_, rfl, a⟩
  | _ :: _, _, i + 1, _, .cons _ b, e => by
    obtain ⟨v, h1, h2⟩ := DRs.get (i := i) b (by simpa using e)
    exact ⟨v, by simpa using h1, h2⟩
theorem DRs.get' {ds : List D} {vs : List V} {i : Nat} {v : V} (q : DRs K N H vs ds) (e : vs[i]? = some v) : ∃ d, ds[i]? = some d ∧ DR K N H v d := by
  obtain ⟨h, _⟩ := List.getElem?_eq_some_iff.mp e
  have h2 : i < ds.length := by rw [← q.length]; exact h
  obtain ⟨w, h3, h4⟩ := q.get (List.getElem?_eq_getElem h2)
  rw [e] at h3
  cases h3
  exact ⟨_, List.getElem?_eq_getElem h2, h4⟩
theorem DRs.append : ∀ {ds es : List D} {vs ws : List V}, DRs K N H vs ds → DRs K N H ws es → DRs K N H (vs ++ ws) (ds ++ es)
  | [], _, _, _, .nil, q => q
  | _ :: _, _, _, _, .cons a b, q => .cons a (DRs.append b q)
theorem DRs.take : ∀ {ds : List D} {vs : List V} (n : Nat), DRs K N H vs ds → DRs K N H (vs.take n) (ds.take n)
  | _, _, 0, _ => .nil
  | [], _, _ + 1, .nil => .nil
  | _ :: _, _, n + 1, .cons a b => .cons a (DRs.take n b)
theorem DRs.drop : ∀ {ds : List D} {vs : List V} (n : Nat), DRs K N H vs ds → DRs K N H (vs.drop n) (ds.drop n)
  | _, _, 0, q => q
  | [], _, _ + 1, .nil => .nil
  | _ :: _, _, n + 1, .cons _ b => DRs.drop n b
theorem DRs.reverse : ∀ {ds : List D} {vs : List V}, DRs K N H vs ds → DRs K N H vs.reverse ds.reverse
  | [], _, .nil => .nil
  | _ :: _, _, .cons a b => by
    rw [List.reverse_cons, List.reverse_cons]
    exact DRs.append (DRs.reverse b) (.cons a .nil)
theorem DRs.set : ∀ {ds : List D} {vs : List V} {v : V} {d : D} (n : Nat), DRs K N H vs ds → DR K N H v d → DRs K N H (vs.set n v) (ds.set n d)
  | [], _, _, _, _, .nil, _ => .nil
  | _ :: _, _, _, _, 0, .cons _ b, q => .cons q b
  | _ :: _, _, _, _, n + 1, .cons a b, q => .cons a (DRs.set n b q)
theorem DRs.rep : ∀ {ds : List D} {vs : List V} (k : Nat), DRs K N H vs ds → DRs K N H (List.replicate k vs).flatten (List.replicate k ds).flatten
  | _, _, 0, _ => .nil
  | _, _, k + 1, q => by
    rw [List.replicate_succ, List.replicate_succ, List.flatten_cons, List.flatten_cons]
    exact q.append (DRs.rep k q)
theorem DR.none_inv {v : V} (q : DR K N H v .none) : v = .non := by cases q; rfl
theorem DR.bool_inv {v : V} {b : Bool} (q : DR K N H v (.bool b)) : v = .bl b := by cases q; rfl
theorem DR.int_inv {v : V} {i : Int} (q : DR K N H v (.int i)) : v = .int i := by cases q; rfl
theorem DR.str_inv {v : V} {x : Str} (q : DR K N H v (.str x)) : v = .str x := by cases q; rfl
theorem DR.list_inv {v : V} {ds : List D} (q : DR K N H v (.list ds)) : ∃ a xs, v = .ref a ∧ LsR N H a xs ∧ DRs K N H xs ds := by cases q; exact ⟨_, _, rfl, ‹_›, ‹_›⟩
theorem DR.tuple_inv {v : V} {ds : List D} (q : DR K N H v (.tuple ds)) : ∃ a xs, v = .ref a ∧ TpR K N H a xs ∧ DRs K N H xs ds := by cases q; exact ⟨_, _, rfl, ‹_›, ‹_›⟩
theorem DR.dict_inv {v : V} {ds} (q : DR K N H v (.dict ds)) : False := by cases q
end

/-- v is read as d; a list at the top may be one that still changes -/
inductive TR (K : Fg) (N : AS) (H : Hp) : V → D → Prop
  | d {v : V} {d : D} : DR K N H v d → TR K N H v d
  | l {a : Addr} {xs : List V} {ds : List D} : H a = some (.lst xs) → DRs K N H xs ds → TR K N H (.ref a) (.list ds)
section
variable {K : Fg} {N N' m : AS} {H H' : Hp}
theorem TR.list {v : V} {ds : List D} (q : TR K N H v (.list ds)) : ∃ a xs, v = .ref a ∧ H a = some (.lst xs) ∧ DRs K N H xs ds := by
  cases q with
  | d q => obtain ⟨a, xs, e, h1, h2⟩ := q.list_inv; exact ⟨a, xs, e, h1.2, h2⟩
  | l h1 h2 => exact ⟨_, _, rfl, h1, h2⟩
theorem TR.tuple {v : V} {ds : List D} (q : TR K N H v (.tuple ds)) : ∃ a xs, v = .ref a ∧ SqT K H a xs ∧ DRs K N H xs ds := by
  cases q with
  | d q => obtain ⟨a, xs, e, h1, h2⟩ := q.tuple_inv; exact ⟨a, xs, e, h1.sq, h2⟩
theorem TR.tupD {v : V} {ds : List D} (q : TR K N H v (.tuple ds)) : DR K N H v (.tuple ds) := by cases q; assumption
theorem TR.int {v : V} {i : Int} (q : TR K N H v (.int i)) : v = .int i := by cases q with | d q => exact q.int_inv
theorem TR.bool {v : V} {i : Bool} (q : TR K N H v (.bool i)) : v = .bl i := by cases q with | d q => exact q.bool_inv
theorem TR.str {v : V} {i : Str} (q : TR K N H v (.str i)) : v = .str i := by cases q with | d q => exact q.str_inv
theorem TR.none {v : V} (q : TR K N H v .none) : v = .non := by cases q with | d q => exact q.none_inv
theorem TR.dict {v : V} {ds} (q : TR K N H v (.dict ds)) : False := by cases q with | d q => exact q.dict_inv
theorem TR.dp {v : V} {d : D} (q : TR K N H v d) : Dp K H v d := by
  cases q with
  | d q => exact q.dp
  | l h1 h2 => exact .lst (.of h1) h2.dp
theorem TR.mono (h : ∀ a, N' a → N a) {v : V} {d : D} (q : TR K N H v d) : TR K N' H v d := by
  cases q with
  | d q => exact .d (q.mono h)
  | l h1 h2 => exact .l h1 (h2.mono h)
theorem TR.ext (e : Ext m H H') (h : ∀ a, m a → N a) {v : V} {d : D} (ht : ∀ a xs, v = .ref a → H a = some (.lst xs) → ¬ m a ∨ DR K N H v d) (q : TR K N H v d) : TR K N H' v d := by
  cases q with
  | d q => exact .d (q.ext e h)
  | l h1 h2 =>
    rcases ht _ _ rfl h1 with z | z
    · exact .l (e.k _ _ h1 z fun _ => nofun) (h2.ext e h)
    · exact .d (z.ext e h)
end
end DL
end
section
set_option Elab.async false
set_option linter.all false
set_option maxRecDepth 100000
set_option autoImplicit false
set_option maxHeartbeats 1000000
/-! DL, part b: the state of a frame: names hold data, or lists of their own that still change; one list (the pen) is shared by all frames. -/
namespace DL
open PySem PySem.Spec PyProof.Rows L2

/-- the script: a list of ints that is never written -/
def ScR (K : Fg) (m : AS) (H : Hp) (a : Addr) (ns : List Int) : Prop :=
  (¬ m a ∧ ∃ ob, H a = some (.frz ob (.lst (ns.map V.int)))) ∨
  ∃ (o : Obj) (its : Array Value) (n : Nat), K.lookup a = some o ∧ o.cls = .type "list" ∧ o.dict = none ∧
    o.data = .seq its n ∧ its.size ≤ sizeLine ∧ Vals (ns.map V.int) its.toList
theorem ScR.ext {K : Fg} {m : AS} {H H' : Hp} {a : Addr} {ns : List Int} (e : Ext m H H') (q : ScR K m H a ns) : ScR K m H' a ns :=
  q.imp (fun ⟨h1, ob, h2⟩ => ⟨h1, ob, e.k _ _ h2 h1 fun _ => nofun⟩) id
theorem ScR.sq {K : Fg} {m : AS} {H : Hp} {a : Addr} {ns : List Int} (q : ScR K m H a ns) : SqL K H a (ns.map V.int) :=
  q.imp (fun ⟨_, ob, h2⟩ => .inr ⟨ob, h2⟩) id
/-- the code objects whose tables may grow, and their tables -/
class Tabs where
  l : List (Addr × Addr)
def TabsIn [Tabs] (H : Hp) : Prop := ∀ q, q ∈ Tabs.l → GxR.TabG H q.2
variable [Tabs]
/-- what a name holds -/
inductive Sv where
  | d (x : D)
  | own (xs : List D)
  | scr (ns : List Int)
  | pen
/-- what an expression gives: a datum; a new list that nobody else holds; the own list of the i-th name; the pen -/
inductive R where
  | d (x : D)
  | fr (xs : List D)
  | bo (i : Nat) (xs : List D)
  | scr (ns : List Int)
  | pen
structure G where
  env : List (Option Sv)
  pen : Option (List D)

def pm (pa : Addr) (p : Option (List D)) : AS := fun a => p.isSome = true ∧ a = pa
def Own (σ : L2.St) (g : G) (i : Nat) (a : Addr) : Prop := ∃ xs, g.env[i]? = some (some (.own xs)) ∧ σ[i]? = some (some (V.ref a))
/-- the addresses that may still change: those that are told (T), the pen, the names' own lists -/
def Nv (pa : Addr) (T : AS) (σ : L2.St) (g : G) : AS := fun a => T a ∨ pm pa g.pen a ∨ ∃ i, Own σ g i a

def SvR (K : Fg) (pa : Addr) (T N : AS) (H0 H : Hp) (pen : Option (List D)) (v : V) : Sv → Prop
  | .d x => DR K N H v x
  | .own xs => ∃ a vs, v = .ref a ∧ H a = some (.lst vs) ∧ DRs K N H vs xs ∧ H0 a = none ∧ ¬ T a ∧ ¬ pm pa pen a
  | .scr ns => ∃ a, v = .ref a ∧ ScR K (pm pa pen) H a ns
  | .pen => v = .ref pa ∧ pen.isSome = true

structure Rel (K : Fg) (pa : Addr) (T : AS) (H0 : Hp) (σ : L2.St) (H : Hp) (g : G) : Prop where
  len : σ.length = g.env.length
  sl : ∀ (i : Nat) (sv : Sv), g.env[i]? = some (some sv) → ∃ v, σ[i]? = some (some v) ∧ SvR K pa T (Nv pa T σ g) H0 H g.pen v sv
  ap : ∀ (i j : Nat) (a : Addr), Own σ g i a → Own σ g j a → i = j
  pn : ∀ xs, g.pen = some xs → ¬ T pa ∧ ∃ vs, H pa = some (.lst vs) ∧ DRs K (Nv pa T σ g) H vs xs
  td : ∀ a, T a → ∃ o, H a = some o ∧ ∀ ps, o ≠ .tbl ps
  x0 : Ext (pm pa g.pen) H0 H
  tb : TabsIn H0
theorem Rel.tab {K : Fg} {pa : Addr} {T : AS} {H0 : Hp} {σ : L2.St} {H : Hp} {g : G} (r : Rel K pa T H0 σ H g) : TabsIn H := fun q h => r.x0.t _ (r.tb q h)

section
variable {K : Fg} {pa : Addr} {T T' : AS} {H0 σH H H' : Hp} {σ : L2.St} {g g' : G}
theorem Rel.mono (r : Rel K pa T H0 σ H g) (h : ∀ a, T' a → T a) : Rel K pa T' H0 σ H g := by
  have hn : ∀ a, Nv pa T' σ g a → Nv pa T σ g a := fun a z => z.imp (h a) id
  refine ⟨r.len, fun i sv e => ?_, r.ap, fun xs e => ?_, fun a q => r.td a (h a q), r.x0, r.tb⟩
  · obtain ⟨v, e1, q⟩ := r.sl i sv e
    refine ⟨v, e1, ?_⟩
    cases sv with
    | d x => exact DR.mono hn q
    | own xs => obtain ⟨a, vs, e2, e3, e4, e5, e6, e7⟩ := q; exact ⟨a, vs, e2, e3, e4.mono hn, e5, fun z => e6 (h a z), e7⟩
    | scr ns => exact q
    | pen => exact q
  · obtain ⟨a, vs, b, c⟩ := r.pn xs e
    exact ⟨fun z => a (h pa z), vs, b, c.mono hn⟩
/-- every address that may still change holds something -/
theorem Rel.nv (r : Rel K pa T H0 σ H g) (a : Addr) (h : Nv pa T σ g a) : ∃ o, H a = some o ∧ ∀ ps, o ≠ .tbl ps := by
  rcases h with h | ⟨h, e⟩ | ⟨i, xs, e1, e2⟩
  · exact r.td a h
  · obtain ⟨xs, e'⟩ := Option.isSome_iff_exists.mp h
    obtain ⟨_, vs, b, _⟩ := r.pn xs e'
    rw [e]
    exact ⟨_, b, fun _ => nofun⟩
  · obtain ⟨v, e3, b, vs, e4, e5, _⟩ := r.sl i _ e1
    rw [e2] at e3
    cases e3
    cases e4
    exact ⟨_, e5, fun _ => nofun⟩
theorem Rel.fresh (r : Rel K pa T H0 σ H g) {p : Addr} (h : H p = none) : ¬ Nv pa T σ g p := fun z => by
  obtain ⟨o, e, _⟩ := r.nv p z
  rw [h] at e
  cases e
/-- the tracked heap has changed at nothing but the pen's own address, and that is told -/
theorem Rel.ext (r : Rel K pa T H0 σ H g) (e : Ext (pm pa g.pen) H H') (hp : ∀ xs, g.pen = some xs → ∃ vs, H' pa = some (.lst vs) ∧ DRs K (Nv pa T σ g) H' vs xs) : Rel K pa T H0 σ H' g := by
  have hm : ∀ a, pm pa g.pen a → Nv pa T σ g a := fun a z => .inr (.inl z)
  refine ⟨r.len, fun i sv q => ?_, r.ap, fun xs q => ⟨(r.pn xs q).1, hp xs q⟩, fun a q => ?_, r.x0.trans e, r.tb⟩
  · obtain ⟨v, e1, z⟩ := r.sl i sv q
    refine ⟨v, e1, ?_⟩
    cases sv with
    | d x => exact DR.ext e hm z
    | own xs => obtain ⟨a, vs, e2, e3, e4, e5, e6, e7⟩ := z; exact ⟨a, vs, e2, e.k _ _ e3 e7 (fun _ => nofun), e4.ext e hm, e5, e6, e7⟩
    | scr ns => obtain ⟨a, h1, h2⟩ := z; exact ⟨a, h1, h2.ext e⟩
    | pen => exact z
  · obtain ⟨o, z, nt⟩ := r.td a q
    refine ⟨o, e.k a o z (fun hpm => ?_) nt, nt⟩
    obtain ⟨xs, e'⟩ := Option.isSome_iff_exists.mp hpm.1
    exact (r.pn xs e').1 (hpm.2 ▸ q)
end

/-! ### what an expression leaves -/
def ownT (T : AS) (v : V) : R → AS
  | .fr _ => fun a => T a ∨ v = .ref a
  | _ => T
def VR (K : Fg) (pa : Addr) (T : AS) (σ : L2.St) (H H' : Hp) (g' : G) (v : V) : R → Prop
  | .d x => DR K (Nv pa T σ g') H' v x
  | .fr xs => ∃ p vs, v = .ref p ∧ H p = none ∧ H' p = some (.lst vs) ∧ DRs K (fun a => Nv pa T σ g' a ∨ a = p) H' vs xs ∧ ¬ T p
  | .bo i xs => ∃ a, v = .ref a ∧ σ[i]? = some (some (.ref a)) ∧ g'.env[i]? = some (some (.own xs))
  | .scr ns => ∃ a, v = .ref a ∧ ScR K (pm pa g'.pen) H' a ns
  | .pen => v = .ref pa ∧ g'.pen.isSome = true
structure PostE (K : Fg) (pa : Addr) (T : AS) (H0 : Hp) (σ : L2.St) (H : Hp) (g : G) (v : V) (H' : Hp) (r : R) (g' : G) : Prop where
  ext : Ext (pm pa g.pen) H H'
  rel : Rel K pa (ownT T v r) H0 σ H' g'
  vr : VR K pa T σ H H' g' v r
  pen : g'.pen.isSome = g.pen.isSome
  sub : ∀ a, Nv pa T σ g' a → Nv pa T σ g a
/-- .. after the result is kept as a datum -/
structure PostK (K : Fg) (pa : Addr) (T : AS) (H0 : Hp) (σ : L2.St) (H : Hp) (g : G) (v : V) (H' : Hp) (x : D) (g' : G) : Prop where
  ext : Ext (pm pa g.pen) H H'
  rel : Rel K pa T H0 σ H' g'
  dr : DR K (Nv pa T σ g') H' v x
  pen : g'.pen.isSome = g.pen.isSome
  sub : ∀ a, Nv pa T σ g' a → Nv pa T σ g a

def keepR : R → G → Option (D × G)
  | .d x, g => some (x, g)
  | .fr xs, g => some (.list xs, g)
  | .bo i xs, g => some (.list xs, { g with env := g.env.set i (some (.d (.list xs))) })
  | _, _ => none
def rdR : R → Option D
  | .d x => some x
  | .fr xs => some (.list xs)
  | .bo _ xs => some (.list xs)
  | _ => none
theorem pm_eq {pa : Addr} {p q : Option (List D)} (h : p.isSome = q.isSome) : pm pa p = pm pa q := by
  unfold pm
  rw [h]
section
variable {K : Fg} {pa : Addr} {T T' : AS} {H0 H H' H'' : Hp} {σ : L2.St} {g g' g'' : G} {v : V} {r : R} {x : D}
theorem ownT_of (T : AS) (v : V) (r : R) (a : Addr) (h : T a) : ownT T v r a := by
  cases r <;> first | exact .inl h | exact h
theorem Rel.own (r : Rel K pa T H0 σ H g) {i : Nat} {xs : List D} (e : g.env[i]? = some (some (.own xs))) :
    ∃ a vs, σ[i]? = some (some (.ref a)) ∧ H a = some (.lst vs) ∧ DRs K (Nv pa T σ g) H vs xs ∧ H0 a = none ∧ ¬ T a ∧ ¬ pm pa g.pen a := by
  obtain ⟨v, e1, a, vs, rfl, h⟩ := r.sl i _ e
  exact ⟨a, vs, e1, h⟩
/-- a name's own list is frozen -/
theorem Rel.freeze (r : Rel K pa T H0 σ H g) {i : Nat} {xs : List D} (e : g.env[i]? = some (some (.own xs))) {a : Addr} (ea : σ[i]? = some (some (.ref a))) :
    Rel K pa T H0 σ H { g with env := g.env.set i (some (.d (.list xs))) } ∧
    DR K (Nv pa T σ { g with env := g.env.set i (some (.d (.list xs))) }) H (.ref a) (.list xs) ∧
    (∀ b, Nv pa T σ { g with env := g.env.set i (some (.d (.list xs))) } b → Nv pa T σ g b) := by
  have hi : i < g.env.length := (List.getElem?_eq_some_iff.mp e).1
  have back : ∀ j b, Own σ { g with env := g.env.set i (some (.d (.list xs))) } j b → j ≠ i ∧ Own σ g j b := by
    rintro j b ⟨ys, h1, h2⟩
    have h1' : (g.env.set i (some (.d (.list xs))))[j]? = some (some (.own ys)) := h1
    by_cases hj : i = j
    · subst hj
      rw [List.getElem?_set_self hi] at h1'
      cases h1'
    · rw [List.getElem?_set_ne hj] at h1'
      exact ⟨fun z => hj z.symm, ys, h1', h2⟩
  have sub : ∀ b, Nv pa T σ { g with env := g.env.set i (some (.d (.list xs))) } b → Nv pa T σ g b := fun b h =>
    h.imp id fun h => h.imp id fun ⟨j, h⟩ => ⟨j, (back j b h).2⟩
  obtain ⟨a', vs, e1, e2, e3, e4, e5, e6⟩ := r.own e
  rw [ea] at e1
  cases e1
  have dr : DR K (Nv pa T σ { g with env := g.env.set i (some (.d (.list xs))) }) H (.ref a) (.list xs) := by
    refine .lst ⟨fun z => ?_, e2⟩ (e3.mono sub)
    rcases z with z | z | ⟨j, z⟩
    · exact e5 z
    · exact e6 z
    · obtain ⟨h1, h2⟩ := back j a z
      exact h1 (r.ap j i a h2 ⟨xs, e, ea⟩)
  refine ⟨⟨by simpa using r.len, fun j sv h => ?_, fun j k b h1 h2 => r.ap j k b (back j b h1).2 (back k b h2).2, fun ys h => ?_, r.td, r.x0, r.tb⟩, dr, sub⟩
  · have h' : (g.env.set i (some (.d (.list xs))))[j]? = some (some sv) := h
    by_cases hj : i = j
    · subst hj
      rw [List.getElem?_set_self hi] at h'
      cases h'
      exact ⟨_, ea, dr⟩
    · rw [List.getElem?_set_ne hj] at h'
      obtain ⟨v, h1, h2⟩ := r.sl j sv h'
      refine ⟨v, h1, ?_⟩
      cases sv with
      | d y => exact DR.mono sub h2
      | own ys => obtain ⟨b, ws, q1, q2, q3, q4⟩ := h2; exact ⟨b, ws, q1, q2, q3.mono sub, q4⟩
      | scr ns => exact h2
      | pen => exact h2
  · obtain ⟨q1, vs, q2, q3⟩ := r.pn ys h
    exact ⟨q1, vs, q2, q3.mono sub⟩
theorem Rel.not_nv (h : Rel K pa (fun a => T a ∨ v = .ref a) H0 σ H' g') {p : Addr} (e : v = .ref p) (nt : ¬ T p) : ¬ Nv pa T σ g' p := by
  subst e
  rintro (z | z | ⟨j, ys, z1, z2⟩)
  · exact nt z
  · obtain ⟨xs, e'⟩ := Option.isSome_iff_exists.mp z.1
    exact (h.pn xs e').1 (.inr (by rw [z.2]))
  · obtain ⟨a, ws, q1, _, _, _, q5, _⟩ := h.own z1
    rw [z2] at q1
    cases q1
    exact q5 (.inr rfl)
theorem PostE.keep (p : PostE K pa T H0 σ H g v H' r g') (h : keepR r g' = some (x, g'')) : PostK K pa T H0 σ H g v H' x g'' := by
  cases r with
  | d y =>
    cases h
    exact ⟨p.ext, p.rel, p.vr, p.pen, p.sub⟩
  | fr xs =>
    cases h
    obtain ⟨q, vs, e1, e2, e3, e4, e5⟩ := p.vr
    refine ⟨p.ext, p.rel.mono fun a h => .inl h, ?_, p.pen, p.sub⟩
    have nn := Rel.not_nv p.rel e1 e5
    subst e1
    exact .lst ⟨nn, e3⟩ (e4.mono fun a z => .inl z)
  | bo i xs =>
    cases h
    obtain ⟨a, e1, e2, e3⟩ := p.vr
    obtain ⟨f1, f2, f3⟩ := p.rel.freeze e3 e2
    subst e1
    exact ⟨p.ext, f1, f2, p.pen, fun b z => p.sub b (f3 b z)⟩
  | scr ns => cases h
  | pen => cases h
/-- what was read stays readable while nothing but the pen changes -/
theorem PostE.read (p : PostE K pa T H0 σ H g v H' r g') (h : rdR r = some x) (e : Ext (pm pa g'.pen) H' H'') {N : AS} (hN : ∀ a, N a → Nv pa T σ g' a) : TR K N H'' v x := by
  have hm : ∀ a, pm pa g'.pen a → Nv pa T σ g' a := fun a z => .inr (.inl z)
  cases r with
  | d y =>
    cases h
    exact .d ((DR.ext e hm p.vr).mono hN)
  | fr xs =>
    cases h
    obtain ⟨q, vs, e1, e2, e3, e4, e5⟩ := p.vr
    have nn := Rel.not_nv p.rel e1 e5
    subst e1
    exact .l (e.k _ _ e3 (fun z => nn (hm _ z)) fun _ => nofun) ((DRs.ext e (fun a z => .inl (hm a z)) e4).mono fun a z => .inl (hN a z))
  | bo i xs =>
    cases h
    obtain ⟨a, e1, e2, e3⟩ := p.vr
    subst e1
    obtain ⟨a', vs, q1, q2, q3, q4, q5, q6⟩ := p.rel.own e3
    rw [e2] at q1
    cases q1
    exact .l (e.k _ _ q2 q6 fun _ => nofun) ((DRs.ext e hm q3).mono hN)
  | scr ns => cases h
  | pen => cases h
theorem Nv.mono (h : ∀ a, T a → T' a) (a : Addr) (q : Nv pa T σ g a) : Nv pa T' σ g a := q.imp (h a) id
/-- a datum that is laid anew, the rest as it was -/
theorem Rel.lay (r : Rel K pa T H0 σ H g) {p : Addr} {o : HO} (h : H p = none) : Rel K pa T H0 σ (upd H p o) g :=
  r.ext (.new h) fun xs e => by
    obtain ⟨_, vs, q2, q3⟩ := r.pn xs e
    exact ⟨vs, (upd_ne (ne_of_none q2 h)).trans q2, DRs.ext (m := pm pa g.pen) (.new h) (fun a z => .inr (.inl z)) q3⟩
/-- .. and watched from now on -/
theorem Rel.watch (r : Rel K pa T H0 σ H g) {p : Addr} {o : HO} (h : H p = none) (ho : ∀ ps, o ≠ .tbl ps) : Rel K pa (fun a => T a ∨ a = p) H0 σ (upd H p o) g := by
  have e : Ext (pm pa g.pen) H (upd H p o) := .new h
  have hm : ∀ a, pm pa g.pen a → Nv pa T σ g a := fun a z => .inr (.inl z)
  have hn : ∀ a, Nv pa (fun a => T a ∨ a = p) σ g a → Nv pa T σ g a ∨ a = p := by
    rintro a ((z | z) | z)
    · exact .inl (.inl z)
    · exact .inr z
    · exact .inl (.inr z)
  have up : ∀ {v d}, DR K (Nv pa T σ g) H v d → DR K (Nv pa (fun a => T a ∨ a = p) σ g) (upd H p o) v d := fun {v d} q =>
    (DR.ext (N := fun a => Nv pa T σ g a ∨ a = p) e (fun a z => .inl (hm a z)) (q.grow h)).mono hn
  have ups : ∀ {v d}, DRs K (Nv pa T σ g) H v d → DRs K (Nv pa (fun a => T a ∨ a = p) σ g) (upd H p o) v d := fun {v d} q =>
    (DRs.ext (N := fun a => Nv pa T σ g a ∨ a = p) e (fun a z => .inl (hm a z)) (q.grow h)).mono hn
  refine ⟨r.len, fun i sv q => ?_, r.ap, fun xs q => ?_, fun a q => ?_, r.x0.trans e, r.tb⟩
  · obtain ⟨v, e1, z⟩ := r.sl i sv q
    refine ⟨v, e1, ?_⟩
    cases sv with
    | d x => exact up z
    | own xs =>
      obtain ⟨a, vs, e2, e3, e4, e5, e6, e7⟩ := z
      exact ⟨a, vs, e2, (upd_ne (ne_of_none e3 h)).trans e3, ups e4, e5, fun w => w.elim e6 (ne_of_none e3 h), e7⟩
    | scr ns => obtain ⟨a, h1, h2⟩ := z; exact ⟨a, h1, h2.ext e⟩
    | pen => exact z
  · obtain ⟨q1, vs, q2, q3⟩ := r.pn xs q
    exact ⟨fun w => w.elim q1 (ne_of_none q2 h), vs, (upd_ne (ne_of_none q2 h)).trans q2, ups q3⟩
  · rcases q with q | q
    · obtain ⟨u, z, nt⟩ := r.td a q
      exact ⟨u, (upd_ne (ne_of_none z h)).trans z, nt⟩
    · subst q
      exact ⟨o, upd_same, ho⟩
end
/-- a list made anew is the result -/
theorem PostE.newL {K : Fg} {pa : Addr} {T : AS} {H0 H H1 : Hp} {σ : L2.St} {g g1 : G} {vs : List V} {ds : List D} {p : Addr}
    (ext : Ext (pm pa g.pen) H H1) (rel : Rel K pa T H0 σ H1 g1) (pen : g1.pen.isSome = g.pen.isSome) (sub : ∀ a, Nv pa T σ g1 a → Nv pa T σ g a)
    (hp : H1 p = none) (dr : DRs K (Nv pa T σ g1) H1 vs ds) : PostE K pa T H0 σ H g (.ref p) (upd H1 p (.lst vs)) (.fr ds) g1 := by
  refine ⟨ext.trans (.new hp), (rel.watch (o := .lst vs) hp fun _ => nofun).mono fun a z => z.imp id fun z => (V.ref.inj z).symm, ⟨p, vs, rfl, ext.d p hp, upd_same, DRs.ext (m := pm pa g1.pen) (.new hp) (fun a z => .inl (.inr (.inl z))) (dr.grow hp), fun z => rel.fresh hp (.inl z)⟩, pen, sub⟩
/-- a tuple made anew -/
theorem PostE.newT {K : Fg} {pa : Addr} {T : AS} {H0 H H1 : Hp} {σ : L2.St} {g g1 : G} {vs : List V} {ds : List D} {p : Addr}
    (ext : Ext (pm pa g.pen) H H1) (rel : Rel K pa T H0 σ H1 g1) (pen : g1.pen.isSome = g.pen.isSome) (sub : ∀ a, Nv pa T σ g1 a → Nv pa T σ g a)
    (hp : H1 p = none) (dr : DRs K (Nv pa T σ g1) H1 vs ds) : PostE K pa T H0 σ H g (.ref p) (upd H1 p (.tup vs)) (.d (.tuple ds)) g1 :=
  ⟨ext.trans (.new hp), rel.lay hp, .tup (.inl ⟨rel.fresh hp, .of upd_same⟩) (DRs.ext (m := pm pa g1.pen) (.new hp) (fun a z => .inr (.inl z)) dr), pen, sub⟩
end DL
end
section
set_option Elab.async false
set_option linter.all false
set_option maxRecDepth 100000
set_option autoImplicit false
set_option maxHeartbeats 4000000
/-! DL, part c0: rules that were still to be written: a tuple turned round, a tuple taken any number of times. -/
namespace DL
open PySem PySem.Spec PyProof.Rows L2 HT
section
variable {prog : Program} {w : World} {A : Around} {E : Value → Shared → Prop} {s : Shared}
theorem places_back (n : Nat) : Builtin.Slice.slicePlaces ((n : Int) - 1) (-1) (-1) = n := by
  unfold Builtin.Slice.slicePlaces
  rw [if_neg (by omega)]
  by_cases h : (n : Int) - 1 > -1
  · rw [if_pos h]
    have e : ((n : Int) - 1 - -1 - 1) / (- -1) = (n : Int) - 1 := by
      have : (- -1 : Int) = 1 := by decide
      rw [this, Int.ediv_one]
      omega
    rw [e]
    omega
  · rw [if_neg h]
    have : n = 0 := by omega
    subst this
    rfl
theorem applied_back {sl : Addr} {vl vu vs : Value} {n : Nat} {Q : Int × Int × Nat → Shared → Prop} (hs : s.heap.IsSliceOf sl vl vu vs) (pl : IsPart vl none) (pu : IsPart vu none) (ps : IsPart vs (some (-1))) (h : Q ((n : Int) - 1, -1, n) s) :
    wpAny (model prog w) A (Builtin.Slice.sliceApplied (.ref sl) (pure (n : Int))) Q E s := by
  obtain ⟨rec, at_, _, flds⟩ := hs
  unfold Builtin.Slice.sliceApplied Builtin.Slice.sliceFields
  have f0 : ∀ {Q' : Value × Value × Value → Shared → Prop}, Q' (vl, vu, vs) s → wpAny (model prog w) A (do return (← field (.ref sl) 0, ← field (.ref sl) 1, ← field (.ref sl) 2)) Q' E s := fun {Q'} q =>
    wpAny_bind (wpAny_field at_ flds (x := vl) rfl (wpAny_bind (wpAny_field at_ flds (x := vu) rfl (wpAny_bind (wpAny_field at_ flds (x := vs) rfl (wpAny_pure q))))))
  refine wpAny_bind (f0 ?_)
  refine wpAny_bind (slicePart_ ps ?_)
  show wpAny _ _ (if ((-1 : Int) == 0) = true then _ else _) _ _ s
  rw [if_neg (by decide)]
  refine wpAny_bind (slicePart_ pl (wpAny_bind (slicePart_ pu (wpAny_bind (wpAny_pure ?_)))))
  show wpAny _ _ (pure (((n : Int) - 1), (-1 : Int), Builtin.Slice.slicePlaces ((n : Int) - 1) (-1) (-1))) _ _ s
  rw [places_back]
  exact wpAny_pure h
theorem back_pick (xs : List Value) : ((List.range xs.length).filterMap fun (k : Nat) => xs.toArray[(((xs.length : Nat) : Int) - 1 + (k : Int) * (-1)).toNat]?) = xs.reverse := by
  have e : ∀ k, k < xs.length → xs.toArray[(((xs.length : Nat) : Int) - 1 + (k : Int) * (-1)).toNat]? = xs.reverse[k]? := fun k hk => by
    rw [List.getElem?_toArray, List.getElem?_reverse hk]
    congr 1
    omega
  have g : ∀ (ys : List Value) (f : Nat → Option Value) (m : Nat), m ≤ ys.length → (∀ k, k < m → f k = ys[k]?) → (List.range m).filterMap f = ys.take m := by
    intro ys f m
    induction m with
    | zero => intro _ _; simp
    | succ m ih =>
      intro h1 h2
      rw [List.range_succ, List.filterMap_append, ih (by omega) fun k hk => h2 k (by omega)]
      have : f m = some ys[m] := by rw [h2 m (by omega)]; exact List.getElem?_eq_getElem (by omega)
      rw [List.filterMap_cons, this, List.take_add_one, List.getElem?_eq_getElem (show m < ys.length by omega)]
      rfl
  have q := g xs.reverse _ xs.length (by rw [List.length_reverse]; exact Nat.le_refl _) e
  rw [q, ← List.length_reverse (as := xs), List.take_length]
theorem getItem_tuple_back {t sl : Addr} {xs : List Value} {vl vu vs : Value} {Q : Value → Shared → Prop} (ht : IsTup s.heap t xs.toArray) (hs : s.heap.IsSliceOf sl vl vu vs) (pl : IsPart vl none) (pu : IsPart vu none) (ps : IsPart vs (some (-1)))
    (h : Q (.ref s.heap.objs.size) { s with heap := s.heap.push { cls := .type "tuple", data := .seq xs.reverse.toArray } }) (hsz : xs.length ≤ sizeLine) : wpAny (model prog w) A (getItem (.ref t) (.ref sl)) Q E s := by
  have isS : s.TypeIs (.ref sl) "slice" := let ⟨os, hos, hcs, _⟩ := hs; ⟨os, hos, hcs⟩
  have fits : sizeOk (.seq xs.reverse.toArray) := by
    show xs.reverse.toArray.size ≤ sizeLine
    rw [List.size_toArray, List.length_reverse]
    exact hsz
  unfold getItem
  refine wpAny_holding (wpAny_bind (wpAny_sequenceKey ht.typeIs (by decide) ?_))
  refine wpAny_bind (wpAny_callSpecial?_slot (name := Str.ofString "__getitem__") ht.typeIs PyProof.Rows.slot_tuple_getitem (wpAny_call_entry PyProof.Rows.slot_tuple_getitem ht.typeIs entry_tuple_getitem ?_ (args_tuple_getitem _ _)))
  show wpAny _ _ (Builtin.Tuple.tupleItemsOf (.ref t) >>= _) _ _ s
  refine wpAny_bind (tupleItemsOf_ ht (wpAny_bind (wpAny_typeOf isS ?_)))
  rw [if_pos (by decide), List.size_toArray]
  refine wpAny_bind (applied_back hs pl pu ps ?_)
  show wpAny _ _ (if ((((xs.length : Nat) : Int) - 1 == 0 && (-1 : Int) == 1 && xs.length == xs.length) = true) then _ else _) _ _ s
  have no : ¬ ((((xs.length : Nat) : Int) - 1 == 0 && (-1 : Int) == 1 && xs.length == xs.length) = true) := fun q => by
    rw [Bool.and_eq_true, Bool.and_eq_true] at q
    exact absurd q.1.2 (by decide)
  rw [if_neg no, back_pick]
  first
    | exact wpAny_bind (m := Builtin.Tuple.tupleExact _) (wpAny_newObj_type (wpAny_pure ⟨_, rfl, wpAny_pure h⟩) fits)
    | exact wpAny_bind (m := Builtin.Tuple.tupleExact _) (wpAny_newObj_type (wpAny_bind (wpAny_pure (wpAny_pure ⟨_, rfl, wpAny_pure h⟩))) fits)
    | exact wpAny_bind (wpAny_bind (m := Builtin.Tuple.tupleExact _) (wpAny_newObj_type (wpAny_pure (wpAny_pure ⟨_, rfl, wpAny_pure h⟩)) fits))
    | exact wpAny_bind (wpAny_bind (m := Builtin.Tuple.tupleExact _) (wpAny_newObj_type (wpAny_pure ⟨_, rfl, wpAny_pure h⟩) fits))
end
section
variable {X : Cx}
/-- e[::-1] of a tuple -/
theorem pe_revT {e : Expr} {te : TE} {k : Nat} {p1 p2 p3 pos : Pos} (he : PE X e te) : PE X (.Subscript e (.Slice none none (some (.UnaryOp .USub (.Constant (.int 1) k p1) p2)) p3) pos)
    (fun σ H Q => te σ H fun x H1 => ∃ a xs, x = .ref a ∧ SqT X.K H1 a xs ∧ ∀ p, H1 p = none → Q (.ref p) (upd H1 p (.tup xs.reverse))) := by
  refine ⟨fun pins s σ H Q I h => ?_⟩
  refine Subscript_ (thn (he.run pins s σ H _ I h) fun v s1 ⟨x, H1, I1, r1, a, xs, ex, hx, q⟩ => ?_)
  subst ex
  cases r1
  have minus : PO X (some (.UnaryOp .USub (.Constant (.int 1) k p1) p2)) (tPart (tUn (rU fun i => .int (-i)) (tC (.int 1)))) := po_some (pe_un un_neg pe_int)
  refine wpAny_Slice (thn (po_none.run pins s1 σ H1 (fun o H2 => o = none ∧ H2 = H1) I1 ⟨rfl, rfl⟩) fun vl s2 ⟨_, _, I2, pl, z1, z2⟩ => ?_)
  subst z1 z2
  refine thn (po_none.run pins s2 σ _ (fun o H3 => o = none ∧ H3 = _) I2 ⟨rfl, rfl⟩) fun vu s3 ⟨_, _, I3, pu, z1, z2⟩ => ?_
  subst z1 z2
  refine thn (minus.run pins s3 σ _ (fun o H4 => o = some (-1) ∧ H4 = _) I3 ⟨1, rfl, -1, rfl, rfl, rfl⟩) fun vs s4 ⟨_, H4, I4, ps, z1, z2⟩ => ?_
  subst z1 z2
  have I5 : Inv X pins σ H4 { s4 with heap := s4.heap.push { cls := .type "slice", data := .fields #[vl, vu, vs] } } := I4.kept (t' := s4.toks) fun b ob q => Heap.get?_push_of_some _ q
  obtain ⟨its, r, ht, hz⟩ := I5.tuple hx
  show wpAny (model X.prog X.w) X.A (subscriptTail e (.Slice none none (some (.UnaryOp .USub (.Constant (.int 1) k p1) p2)) p3) (.ref a) (.ref s4.heap.objs.size)) (EP X pins σ Q) X.xe { s4 with heap := s4.heap.push { cls := .type "slice", data := .fields #[vl, vu, vs] } }
  refine tail_any (ops := [.ref a, .ref s4.heap.objs.size]) ht.typeIs PyProof.Rows.slot_tuple_getitem.lookup ?_ (by with_unfolding_all rfl)
  refine getItem_tuple_back ht (Heap.IsSliceOf.new _ vl vu vs) pl pu ps ?_ (by rw [← r.length]; exact hz)
  refine ⟨.ref _, _, I5.laid (t' := s4.toks) (o := .tup xs.reverse) (fun b ob q => Heap.get?_push_of_some _ q) (Nat.le_refl _) ?_, rfl, q _ (I5.hok.fresh (Nat.le_refl _))⟩
  exact ⟨by rw [List.length_reverse]; exact hz, _, r.reverse, IsTup.new _ _⟩

/-! ### tuple * int where the tuple itself, or the empty one, comes out -/
theorem tuple_mul_same (l : Addr) (items : Array Value) (n : Nat) (dd : Option Addr) (sl : Array (Option Value)) (u : Tok) :
    Meets (Builtin.«tuple.__mul__» ⟨[.ref l, .int 1 u], []⟩) (fun _ R s => s.heap.get? l = some { cls := .type "tuple", dict := dd, data := .seq items n, slots := sl } ∧ R (.ok (.ret (Value.ref l))) { s with toks := s.toks }) :=
  .of_wp fun prog w A R s h => by
    obtain ⟨hp, g, d, tk, os⟩ := s
    obtain ⟨hl, h⟩ := h
    have f1 := AutoSeq1.idx_int
    have c1 : (items.isEmpty || (1 : Int) == 1) = true := by rw [show ((1 : Int) == 1) = true from rfl, Bool.or_true]
    wp_walk using wpAny_loadPart' hl
    exact ⟨_, rfl, h⟩
theorem tuple_mul_none (l : Addr) (items : Array Value) (n : Nat) (dd : Option Addr) (sl : Array (Option Value)) (x : Int) (u : Tok) (c0 : (decide (x < -(2 ^ 63)) || decide (x ≥ 2 ^ 63)) = false) (c1 : (items.isEmpty || x == 1) = false) (c2 : (decide (x ≤ 0) || items.isEmpty) = true) :
    Meets (Builtin.«tuple.__mul__» ⟨[.ref l, .int x u], []⟩) (fun _ R s => s.heap.get? l = some { cls := .type "tuple", dict := dd, data := .seq items n, slots := sl } ∧
      R (.ok (.ret (Value.ref s.heap.objs.size))) { s with heap := s.heap.push { cls := Value.type "tuple", data := Data.seq #[] }, toks := s.toks }) :=
  .of_wp fun prog w A R s h => by
    obtain ⟨hp, g, d, tk, os⟩ := s
    obtain ⟨hl, h⟩ := h
    have f1 := AutoSeq1.idx_int
    have hz : (#[] : Array Value).size ≤ sizeLine := Nat.zero_le _
    wp_walk using wpAny_loadPart' hl
    repeat (first
      | (refine wpAny_ite_false (by rw [c0]; exact Bool.false_ne_true) ?_ <;> wp_walk using wpAny_loadPart' hl)
      | (refine wpAny_ite_false (decide_eq_false (by rw [c0]; exact Bool.false_ne_true)) ?_; wp_walk using wpAny_loadPart' hl)
      | (refine wpAny_ite_false (decide_eq_false (by rw [c1]; exact Bool.false_ne_true)) ?_; wp_walk using wpAny_loadPart' hl)
      | (refine wpAny_ite_true (decide_eq_true c2) ?_; wp_walk using wpAny_loadPart' hl)
      | (refine wpAny_ite_false (decide_eq_false (Nat.not_lt.mpr hz)) ?_; wp_walk using wpAny_loadPart' hl))
    exact ⟨_, rfl, h⟩
def rRepA (K : PySem.W.Frag) : R2 := fun x y H Q => ∃ l k xs, x = .ref l ∧ y = .int k ∧ SqT K H l xs ∧ xs ≠ [] ∧ -(2 ^ 60) ≤ k ∧ k ≤ 1000 ∧ xs.length ≤ 1000 ∧ (k = 1 → Q (.ref l) H) ∧ (k ≠ 1 → ∀ p, H p = none → Q (.ref p) (upd H p (.tup (List.replicate k.toNat xs).flatten)))
theorem op_repA : OpR X (binaryOp .Mult) (rRepA X.K) := by
  intro pins s σ H x y v u Q I rx ry h
  obtain ⟨l, k, xs, rfl, rfl, hT, hne, h0, h1, hz, q1, q2⟩ := h
  by_cases hk2 : 2 ≤ k
  · exact op_repT pins s σ H _ _ v u Q I rx ry ⟨l, k, xs, rfl, rfl, hT, hne, hk2, h1, hz, q2 (by omega)⟩
  cases rx
  obtain ⟨t, rfl⟩ := ry
  obtain ⟨its, r, ⟨⟨cls, dd, data, sl⟩, ho, hc, n, hd⟩, hs⟩ := I.tuple hT
  simp only at hc hd
  subst hc hd
  have nE : its.toArray.isEmpty = false := by
    cases its with
    | nil => cases r; exact absurd rfl hne
    | cons a b => rfl
  have road : ∀ {Q' : Value → Shared → Prop}, (wpAny (model X.prog X.w) X.A (call (.builtin "tuple.__mul__") [.ref l, .int k t]) Q' X.xe s) → wpAny (model X.prog X.w) X.A (binaryOp .Mult (.ref l) (.int k t)) Q' X.xe s := fun {Q'} q =>
    wpAny_binaryOp_repeat_ref (T := "tuple") (U := "int") (by decide) ⟨_, ho, rfl⟩ (fun s' => typeIs_int s' k t) noFill_tuple_mul F.fills_int_mul F.slot_int_rmul repeat_tuple F.slot_int_index.lookup
      (call_meets F.slot_int_rmul (typeIs_int s k t) F.entry_int_rmul (F.args_int_rmul_2 _ _) (int_rmul_tuple k t l its.toArray n dd sl) ⟨ho, rfl, ⟨_, ho, rfl⟩, q⟩)
  refine road ?_
  by_cases e1 : k = 1
  · subst e1
    exact call_meets F.slot_tuple_mul ⟨_, ho, rfl⟩ F.entry_tuple_mul (F.args_tuple_mul_2 _ _) (tuple_mul_same l its.toArray n dd sl t) ⟨ho, .ref l, H, I, rfl, q1 rfl⟩
  · have k0 : k ≤ 0 := by omega
    have c0 : (decide (k < -(2 ^ 63)) || decide (k ≥ 2 ^ 63)) = false := by
      rw [decide_eq_false (by omega), decide_eq_false (by omega)]; rfl
    have c1 : (its.toArray.isEmpty || k == 1) = false := by
      rw [nE, Bool.false_or]
      exact beq_eq_false_iff_ne.mpr e1
    have c2 : (decide (k ≤ 0) || its.toArray.isEmpty) = true := by rw [decide_eq_true k0]; rfl
    have ek : k.toNat = 0 := by omega
    refine call_meets F.slot_tuple_mul ⟨_, ho, rfl⟩ F.entry_tuple_mul (F.args_tuple_mul_2 _ _) (tuple_mul_none l its.toArray n dd sl k t c0 c1 c2) ⟨ho, ?_⟩
    refine ⟨.ref s.heap.objs.size, upd H s.heap.objs.size (.tup (List.replicate k.toNat xs).flatten), I.laid (t' := s.toks) (fun b ob q => Heap.get?_push_of_some _ q) (Nat.le_refl _) ?_, rfl, q2 e1 _ (I.hok.fresh (Nat.le_refl _))⟩
    rw [ek]
    exact ⟨Nat.zero_le _, [], .nil, IsTup.new _ _⟩
end
section
variable {X : Cx}
/-- a text of one sign or more, twice or more -/
def repS (z : Str) (k : Nat) : Str := ⟨(List.replicate k z.cps).foldl (· ++ ·) #[]⟩
theorem fold_size (c : Array Nat) : ∀ (k : Nat) (a : Array Nat), ((List.replicate k c).foldl (· ++ ·) a).size = a.size + k * c.size
  | 0, a => by simp
  | k + 1, a => by
    rw [List.replicate_succ, List.foldl_cons, fold_size c k, Array.size_append, Nat.succ_mul]
    omega
theorem op_mulS : OpR X (binaryOp .Mult) (fun x y H Q => ∃ (z : Str) (k : Int), x = .str z ∧ y = .int k ∧ 2 ≤ k ∧ k ≤ 1000 ∧ 1 ≤ z.length ∧ z.length ≤ 1000 ∧ Q (.str (repS z k.toNat)) H) := by
  intro pins s σ H x y v u Q I rx ry h
  obtain ⟨z, k, rfl, rfl, k1, k2, z1, z2, q⟩ := h
  obtain ⟨t, rfl⟩ := rx
  obtain ⟨t', rfl⟩ := ry
  have nz : (k == 1 || z.length == 0) = false := by
    have a1 : ¬ k = 1 := by omega
    have a2 : ¬ z.length = 0 := by omega
    rw [beq_false_of_ne a1, beq_false_of_ne a2]
    rfl
  have big : z.length * k.toNat ≤ 1000000 := Nat.le_trans (Nat.mul_le_mul z2 (show k.toNat ≤ 1000 by omega)) (by decide)
  refine PySem.P.mul_str ?_ (fun _ _ => ?_) (fun _ _ => ?_) ?_
  · rw [decide_eq_false (show ¬ k < -(2 ^ 63 : Int) by omega), decide_eq_false (show ¬ k ≥ 2 ^ 63 by omega)]
    rfl
  · have : (1000 : Int) ≤ (2 ^ 63 - 1) / k := (Int.le_ediv_iff_mul_le (by omega)).mpr (by omega)
    omega
  · have e : PySem.Builtin.Str.tooLong (z.length * k.toNat) = decide (z.length * k.toNat > sizeLine) := rfl
    rw [e, decide_eq_false]
    rw [sizeLine_eq]
    omega
  · rw [if_neg (show ¬ k < 1 by omega), if_neg (by rw [nz]; exact Bool.false_ne_true)]
    refine ⟨?_, ⟨.str (repS z k.toNat), H, I.tok _, ⟨_, rfl⟩, q⟩⟩
    show (repS z k.toNat).cps.size ≤ sizeLine
    unfold repS
    rw [fold_size, sizeLine_eq]
    have : z.cps.size = z.length := rfl
    rw [this, Nat.mul_comm]
    simp only [Array.size_empty]
    omega
theorem vals_signs : ∀ (l : List Nat) (us : List Value), us.length = l.length → (∀ (j : Nat) (u : Value), us[j]? = some u → ∃ c : Nat, l[j]? = some c ∧ RelV (V.str ⟨#[c]⟩) u) → Vals (l.map fun c => V.str ⟨#[c]⟩) us
  | [], [], _, _ => .nil
  | c :: l, u :: us, hl, h => by
    obtain ⟨c', e, r⟩ := h 0 u rfl
    cases e
    exact .cons r (vals_signs l us (by simpa using hl) fun j v hv => h (j + 1) v hv)
  | [], _ :: _, hl, _ => by cases hl
  | _ :: _, [], hl, _ => by cases hl
/-- the signs of a text, laid in a list -/
theorem call_list_txt (hc : X.calm = true) : CallR X (.type "list") (fun xs H Q => ∃ z : Str, xs = [.str z] ∧ z.length ≤ sizeLine ∧ ∀ l, H l = none → Q (.ref l) (upd H l (.lst (z.cps.toList.map fun c => V.str ⟨#[c]⟩)))) := by
  intro pins s σ H xs us Q I r h
  obtain ⟨z, rfl, hz, q⟩ := h
  obtain ⟨u, rfl, rx⟩ := vals1 r
  obtain ⟨t, rfl⟩ := rx
  refine call_list_str (I.ok.hd hc) z t (hn := hz) fun h' tk acc' c' kp e items => ?_
  refine ⟨.ref s.heap.objs.size, _, I.laid (t' := tk) kp (Nat.le_refl _) (show ObjOk X.prog X.w _ h' _ (.lst (z.cps.toList.map fun c => V.str ⟨#[c]⟩)) from ⟨?_, acc'.toList, c', ?_, by simpa using e⟩), rfl, q _ (I.hok.fresh (Nat.le_refl _))⟩
  · rw [List.length_map]
    simpa using (show z.cps.size ≤ sizeLine from hz)
  · refine vals_signs z.cps.toList acc'.toList (by simpa using items.1) fun j v hv => ?_
    obtain ⟨c, u, e1, rfl⟩ := items.2 j v (by simpa using hv)
    exact ⟨c, by simpa using e1, ⟨_, rfl⟩⟩
end
end DL
end
section
set_option Elab.async false
set_option linter.all false
set_option maxRecDepth 100000
set_option autoImplicit false
set_option maxHeartbeats 4000000
/-! DL, part c1: sorted of a list of tuples of ints, of which the first one is empty. -/
namespace DL
open PySem PySem.Spec PyProof.Rows L2 PySem.W
/-- v is a tuple that holds these numbers -/
def TupV (h : Heap) (v : Value) (ns : List Int) : Prop :=
  ∃ (a : Addr) (dd : Option Addr) (items : Array Value) (n : Nat) (sl : Array (Option Value)), v = .ref a ∧ h.get? a = some { cls := .type "tuple", dict := dd, data := .seq items n, slots := sl } ∧ IntsAre items.toList ns
theorem TupV.keeps {h h' : Heap} {v : Value} {ns : List Int} (x : TupV h v ns) (k : ∀ b o, v = .ref b → h.get? b = some o → h'.get? b = some o) : TupV h' v ns := by
  obtain ⟨a, dd, items, n, sl, e, g, i⟩ := x
  exact ⟨a, dd, items, n, sl, e, k _ _ e g, i⟩
theorem TupV.type {M : Model} {h : Heap} {v : Value} {ns : List Int} (x : TupV h v ns) : Looks M h (typeOf v) (.type "tuple") := by
  obtain ⟨a, dd, items, n, sl, rfl, g, i⟩ := x
  exact (Looks.ld g).andThen .now
section
variable {prog : Program} {w : World} {A : Around} {E : Value → Shared → Prop} {s : Shared}
theorem looks_eq {M : Model} {h : Heap} {α : Type} {m : Sem α} {a : α} (e : m = pure a) : Looks M h m a := by rw [e]; exact .now
theorem ask_less {a b : Addr} {dd dd2 : Option Addr} {xs ys : Array Value} {n n2 : Nat} {sl sl2 : Array (Option Value)} {ns ms : List Int} {Q : Value → Shared → Prop}
    (ga : s.heap.get? a = some { cls := .type "tuple", dict := dd, data := .seq xs n, slots := sl }) (gb : s.heap.get? b = some { cls := .type "tuple", dict := dd2, data := .seq ys n2, slots := sl2 })
    (ia : IntsAre xs.toList ns) (ib : IntsAre ys.toList ms) (iv : Looks (model prog w) s.heap (isInstance (.ref a) (.type "tuple")) true) (iu : ∀ M : Model, Looks M s.heap (isInstance (.ref b) (.type "tuple")) true)
    (h : Q (.bool (HT.lexLt ns ms)) s) : wpAny (model prog w) A (call (.builtin "tuple.__lt__") [.ref a, .ref b]) Q E s := by
  have step := NtL.nt_lt_ints a b (.type "tuple") (.type "tuple") xs ys n n2 dd dd2 sl sl2 ns ms ia ib prog w
  refine wpAny_call (codeAny_call_builtin PySem.F.slot_tuple_lt.plain PySem.F.entry_tuple_lt (@check_slot (model prog w) _ _ _ "tuple.__lt__" "tuple" "__lt__" (.ref a) [.ref b] [] _ (by decide +kernel) (by decide +kernel) iv (PySem.F.args_tuple_lt_2 _ _) ?_))
  refine wpAny_mono (step _ (wants Q E) s ⟨ga, gb, iu, h⟩) (fun fin s' q => ?_) fun _ _ z => z
  cases fin with
  | done f => exact q
  | again c => exact q
theorem less_tup {v u : Value} {ns ms : List Int} {Q : Bool → Shared → Prop} (hu : A.units < cLine) (hv : TupV s.heap v ns) (hw : TupV s.heap u ms) (h : Q (HT.lexLt ns ms) s) : wpAny (model prog w) A (keyLt' oneType' v u) Q E s := by
  have tv : Looks (model prog w) s.heap (typeOf v) (.type "tuple") := hv.type
  have sp : Looks (model prog w) s.heap (specialOf v "__lt__") (some (.builtin "tuple.__lt__")) := tv.andThen (looks_eq PySem.F.slot_tuple_lt.lookup)
  have sub : isSubtype (.type "tuple") (.type "tuple") = pure true := by rw [isSubtype_type]; kernel_rfl
  have iv : Looks (model prog w) s.heap (isInstance v (.type "tuple")) true := tv.andThen (looks_eq sub)
  have iu : ∀ M : Model, Looks M s.heap (isInstance u (.type "tuple")) true := fun M => (hw.type (M := M)).andThen (looks_eq sub)
  obtain ⟨a, dd, items, n, sl, rfl, ga, ia⟩ := hv
  obtain ⟨b, dd2, items2, n2, sl2, rfl, gb, ib⟩ := hw
  rw [keyLt'_oneType, oneLt'_eq]
  simp only [if_true]
  refine wpAny_bind (wpAny_cRoomFor hu ?_)
  refine wpAny_bind (NtL.csib (E := E) sp (PySem.F.slot_tuple_lt.bind _) (ask_less ga gb ia ib iv iu ?_))
  exact wpAny_truthy_bool h
end
section
variable {prog : Program} {w : World} {A : Around} {s : Shared} {E : Value → Shared → Prop}
theorem firsts_tup : ∀ (vs : List Value) {k : Value → List Int} {Q : List (Option Value) → Shared → Prop}, (∀ v ∈ vs, TupV s.heap v (k v)) → (∀ fs : List (Option Value), fs.length = vs.length → (∀ v r, vs = v :: r → k v = [] → ∃ fr, fs = none :: fr) → Q fs s) → wpAny (model prog w) A (vs.mapM firstOfTuple') Q E s
  | [], k, Q, _, h => by
    rw [List.mapM_nil]
    exact wpAny_pure (h [] rfl fun v r e => by cases e)
  | v :: vs, k, Q, hv, h => by
    rw [List.mapM_cons]
    have h0 := hv v List.mem_cons_self
    have t0 := h0.type (M := model prog w)
    obtain ⟨a, dd, items, n, sl, rfl, g, i⟩ := h0
    refine wpAny_bind ?_
    rw [kas_first_eq]
    refine wpAny_bind (t0.here ?_)
    rw [if_neg (by decide +kernel)]
    refine wpAny_bind (wpAny_listItems g rfl ?_)
    refine wpAny_pure ?_
    refine wpAny_bind (firsts_tup vs (k := k) (fun u hu => hv u (List.mem_cons_of_mem _ hu)) fun fs hl _ => wpAny_pure ?_)
    refine h _ (by rw [List.length_cons, List.length_cons, hl]) fun v' r e ek => ?_
    cases e
    rw [ek] at i
    have : items = #[] := by
      cases items with
      | mk l => cases l with
        | nil => rfl
        | cons _ _ => cases i
    subst this
    exact ⟨fs, rfl⟩
theorem kind_tup {vs : List Value} {k : Value → List Int} {v0 : Value} {rest : List Value} {Q : SortKind → Shared → Prop} (e : vs = v0 :: rest) (hk : k v0 = []) (hv : ∀ v ∈ vs, TupV s.heap v (k v)) (h : Q oneType' s) : wpAny (model prog w) A (keyKind' vs.toArray) Q E s := by
  rw [keyKind'_eq, List.mapM_toArray, map_eq_pure_bind]
  refine wpAny_bind (wpAny_bind (firsts_tup vs hv fun fs hl hf => wpAny_pure ?_))
  obtain ⟨fr, rfl⟩ := hf v0 rest e hk
  rw [if_neg (by simp), if_neg (by simp)]
  rw [oneTypeOnly'_eq, List.mapM_toArray, map_eq_pure_bind]
  refine wpAny_bind (wpAny_bind (wpAny_bind (kas_mapM (r := Value.type "tuple") _ (fun v hm Q' hq => ((hv v hm).type).here hq) (wpAny_pure ?_))))
  subst e
  have hall : ((List.map (fun _ => Value.type "tuple") (v0 :: rest)).toArray.all fun x => x == Value.type "tuple") = true := by
    simp only [List.all_toArray, List.all_map, List.all_eq_true]
    intro _ _
    show (Value.type "tuple" == Value.type "tuple") = true
    decide +kernel
  have h0 : (List.map (fun _ => Value.type "tuple") (v0 :: rest)).toArray[0]? = some (Value.type "tuple") := by simp
  rw [h0]
  simp only [hall, if_true]
  exact wpAny_pure (wpAny_pure h)
end
theorem ints_vals : ∀ {ns : List Int} {us : List Value}, Vals (ns.map V.int) us → IntsAre us ns
  | [], us, r => by
    rw [List.map_nil] at r
    cases r
    exact .nil
  | n :: ns, us, r => by
    rw [List.map_cons] at r
    cases r with
    | cons h q =>
      obtain ⟨t, rfl⟩ := h
      exact .cons n t (ints_vals q)
/-- sorted(xs), xs tuples of ints, the first of them empty: a new list, in order -/
theorem cr_sortedTup {X : Cx} (hu : X.A.units + 65 < cLine) : CallR X (.builtin "sorted") (fun vs H Q => ∃ (a : Addr) (xs : List V) (k : V → List Int), vs = [V.ref a] ∧ SqL X.K H a xs ∧ (∀ x ∈ xs, ∃ t, x = V.ref t ∧ SqT X.K H t ((k x).map V.int)) ∧
    (∃ x0 rest, xs = x0 :: rest ∧ k x0 = []) ∧ ∀ ys p, SrtO.Srtd (fun x y => HT.lexLt (k x) (k y)) ys → ys.Perm xs → H p = none → Q (.ref p) (upd H p (.lst ys))) := by
  intro pins s σ H vs us Q I r h
  obtain ⟨a, xs, k, rfl, hs, hx, ⟨x0, rest, e0, k0⟩, q⟩ := h
  obtain ⟨its, rv, hl, hz⟩ := I.list hs
  obtain ⟨u, rfl, ru⟩ := vals1 r
  obtain rfl : u = Value.ref a := ru
  obtain ⟨e1, e2⟩ := refs_back rv fun x m => by
    obtain ⟨t, e, _⟩ := hx x m
    exact ⟨t, e⟩
  have tups : ∀ v ∈ its, TupV s.heap v (k (backV v)) := fun v hv => by
    obtain ⟨t, rfl⟩ := e2 v hv
    have hm : V.ref t ∈ xs := by rw [e1]; exact List.mem_map.mpr ⟨_, hv, rfl⟩
    obtain ⟨t', e, ht⟩ := hx _ hm
    cases e
    obtain ⟨its2, r2, ⟨⟨cls, dd, data, sl⟩, ho, hc, n, hd⟩, _⟩ := I.tuple ht
    simp only at hc hd
    subst hc hd
    exact ⟨t, dd, its2.toArray, n, sl, rfl, ho, by
      have z := ints_vals r2
      simpa using (show IntsAre its2 (k (backV (Value.ref t))) from z)⟩
  have front : ∃ v0 r0, its = v0 :: r0 ∧ k (backV v0) = [] := by
    cases its with
    | nil => rw [e1] at e0; cases e0
    | cons v0 r0 =>
      rw [e1, List.map_cons] at e0
      cases e0
      exact ⟨v0, r0, rfl, k0⟩
  obtain ⟨v0, r0, ef, kf⟩ := front
  refine SrtO.sorted_ord (ltv := fun v u => HT.lexLt (k (backV v)) (k (backV u))) (NtL.swo_lexL fun u => k (backV u)) hl.isList (by rw [← rv.length]; exact hz) (fun h2 h1 a1 ha kk => ?_) fun out ord stb => ?_
  · intro h' keep
    have here : ∀ v ∈ its, TupV h' v (k (backV v)) := fun v hm => (tups v hm).keeps fun b o _ g => keep b o (kk b o g).1 (kk b o g).2
    refine ⟨oneType', fun Qk Ek hq => ?_, fun p q hp hq => ?_⟩
    · exact kind_tup (s := { s with heap := h' }) (k := fun v => k (backV v)) ef kf here hq
    · exact less_tup (s := { s with heap := h' }) (Q := fun r s' => s' = { s with heap := h' } ∧ r = HT.lexLt (k (backV p.1)) (k (backV q.1))) (E := fun _ _ => False) (by have e1 : X.A.in1.in1.units = X.A.units + 1 + 1 := rfl; omega) (here p.1 hp) (here q.1 hq) ⟨rfl, rfl⟩
  · have h3 : ∀ u ∈ out, ∃ a, u = Value.ref a := fun u hm => e2 u (stb.perm.mem_iff.mp hm)
    have hp : (out.map backV).Perm xs := by rw [e1]; exact stb.perm.map backV
    obtain ⟨n, hn⟩ := sortedAll_at s.heap its out.toArray
    refine ⟨.ref (s.heap.objs.size + 1), upd H (s.heap.objs.size + 1) (.lst (out.map backV)), I.laid (t' := s.toks) (fun b o e => sortedAll_old e) (Nat.le_succ _) ⟨?_, out, n, vals_back h3, hn⟩, rfl, q _ _ (SrtO.srtd_map ord) hp (I.hok.fresh (Nat.le_succ _))⟩
    rw [hp.length_eq]
    exact hz
end DL
end
section
set_option Elab.async false
set_option linter.all false
set_option maxRecDepth 100000
set_option autoImplicit false
set_option maxHeartbeats 4000000
/-! DL, part c2: that list by data. -/
namespace DL
open PySem PySem.Spec PyProof.Rows L2
def tupD (ns : List Int) : D := .tuple (ns.map .int)
def leT (a b : List Int) : Bool := !HT.lexLt b a
def sortL (L : List (List Int)) : List (List Int) := L.mergeSort leT
theorem lex_anti : ∀ {a b : List Int}, HT.lexLt a b = false → HT.lexLt b a = false → a = b
  | [], [], _, _ => rfl
  | [], _ :: _, h, _ => by cases h
  | _ :: _, [], _, h => by cases h
  | x :: xs, y :: ys, h1, h2 => by
    rw [HT.lexLt_cons] at h1 h2
    by_cases e : x = y
    · subst e
      rw [if_pos rfl] at h1 h2
      rw [lex_anti h1 h2]
    · rw [if_neg e] at h1
      rw [if_neg (fun z => e z.symm)] at h2
      have a1 := of_decide_eq_false h1
      have a2 := of_decide_eq_false h2
      omega
theorem swo_T : SrtO.Swo HT.lexLt := NtL.swo_lexL (fun v : List Int => v)
theorem sorted_uniq : ∀ {l m : List (List Int)}, l.Pairwise (fun a b => HT.lexLt b a = false) → m.Pairwise (fun a b => HT.lexLt b a = false) → l.Perm m → l = m
  | [], m, _, _, h => (List.Perm.eq_nil h.symm).symm
  | x :: l, [], _, _, h => absurd h.length_eq (by simp)
  | x :: l, y :: m, hl, hm, h => by
    obtain ⟨l1, l2⟩ := List.pairwise_cons.mp hl
    obtain ⟨m1, m2⟩ := List.pairwise_cons.mp hm
    have e : x = y := by
      rcases List.mem_cons.mp (h.mem_iff.mp (List.mem_cons_self (a := x) (l := l))) with e | hx
      · exact e
      · rcases List.mem_cons.mp (h.mem_iff.mpr (List.mem_cons_self (a := y) (l := m))) with e | hy
        · exact e.symm
        · exact lex_anti (m1 x hx) (l1 y hy)
    subst e
    rw [sorted_uniq l2 m2 h.cons_inv]
theorem sortL_perm (L : List (List Int)) : (sortL L).Perm L := List.mergeSort_perm L leT
theorem sortL_asc (L : List (List Int)) : (sortL L).Pairwise (fun a b => HT.lexLt b a = false) := by
  have h := List.pairwise_mergeSort (le := leT) (fun a b c h1 h2 => by
    unfold leT at *
    have a1 : HT.lexLt b a = false := by simpa using h1
    have a2 : HT.lexLt c b = false := by simpa using h2
    have := swo_T.tr _ _ _ a1 a2
    simpa using this) (fun a b => by
    unfold leT
    cases q : HT.lexLt b a with
    | false => rfl
    | true =>
      rw [swo_T.asym _ _ q]
      rfl) L
  exact h.imp fun {a b} z => by
    unfold leT at z
    simpa using z
theorem ints_DRs {K : Fg} {N : AS} {H : Hp} : ∀ {ns : List Int} {xs : List V}, DRs K N H xs (ns.map .int) → xs = ns.map V.int
  | [], _, .nil => rfl
  | n :: ns, _, .cons a b => by rw [a.int_inv, ints_DRs b]; rfl
theorem ints_fun : ∀ {us : List Value} {ns ms : List Int}, IntsAre us ns → IntsAre us ms → ns = ms
  | [], [], [], _, _ => rfl
  | _ :: us, n :: ns, m :: ms, a, b => by
    cases a with
    | cons _ t h => cases b with
      | cons _ _ h' => rw [ints_fun h h']
  | [], _ :: _, _, a, _ => by cases a
  | [], [], _ :: _, _, b => by cases b
  | _ :: _, [], _, a, _ => by cases a
  | _ :: _, _ :: _, [], _, b => by cases b
theorem tup_uniq {X : Cx} {pins : List (Addr × Obj)} {σ : L2.St} {H : Hp} {s : Shared} (I : Inv X pins σ H s) {N N' : AS} {v : V} {ns ms : List Int} (h1 : DR X.K N H v (tupD ns)) (h2 : DR X.K N' H v (tupD ms)) : ns = ms := by
  obtain ⟨a, xs, rfl, t1, d1⟩ := h1.tuple_inv
  obtain ⟨a', ys, e, t2, d2⟩ := h2.tuple_inv
  cases e
  have q1 := t1.sq
  have q2 := t2.sq
  rw [ints_DRs d1] at q1
  rw [ints_DRs d2] at q2
  obtain ⟨i1, r1, ⟨o1, g1, _, n1, f1⟩, _⟩ := I.tuple q1
  obtain ⟨i2, r2, ⟨o2, g2, _, n2, f2⟩, _⟩ := I.tuple q2
  rw [g1] at g2
  cases g2
  rw [f1] at f2
  have e : i1 = i2 := by
    have := (Data.seq.inj f2).1
    simpa using congrArg Array.toList this
  subst e
  exact ints_fun (ints_vals r1) (ints_vals r2)
theorem drs_map {K : Fg} {N : AS} {H : Hp} {k : V → List Int} : ∀ {ys : List V}, (∀ y ∈ ys, DR K N H y (tupD (k y))) → DRs K N H ys ((ys.map k).map tupD)
  | [], _ => .nil
  | y :: ys, h => .cons (h y List.mem_cons_self) (drs_map fun z hz => h z (List.mem_cons_of_mem _ hz))
theorem drs_keys {K : Fg} {N : AS} {H : Hp} {k : V → List Int} (hk : ∀ v ns, DR K N H v (tupD ns) → k v = ns) : ∀ {L : List (List Int)} {xs : List V}, DRs K N H xs (L.map tupD) → xs.map k = L ∧ ∀ x ∈ xs, DR K N H x (tupD (k x))
  | [], _, .nil => ⟨rfl, fun x h => nomatch h⟩
  | l :: L, _, .cons a b => by
    obtain ⟨h1, h2⟩ := drs_keys hk b
    have e := hk _ _ a
    refine ⟨by rw [List.map_cons, e, h1], fun x hx => ?_⟩
    rcases List.mem_cons.mp hx with rfl | hx
    · rw [e]; exact a
    · exact h2 x hx
/-- sorted of a list of tuples of ints of which the first is empty, by data -/
theorem cr_sortD {X : Cx} (hu : X.A.units + 65 < cLine) : CallR X (.builtin "sorted") (fun vs H Q => ∃ (a : Addr) (N : AS) (xs : List V) (L : List (List Int)), vs = [V.ref a] ∧ SqL X.K H a xs ∧ DRs X.K N H xs (([] :: L).map tupD) ∧
    ∀ ys p, DRs X.K N H ys ((sortL ([] :: L)).map tupD) → H p = none → Q (.ref p) (upd H p (.lst ys))) := by
  classical
  intro pins s σ H vs us Q I r h
  obtain ⟨a, N, xs, L, rfl, hs, hd, q⟩ := h
  have hk : ∃ k : V → List Int, ∀ v ns, DR X.K N H v (tupD ns) → k v = ns := by
    refine ⟨fun v => if h : ∃ ns, DR X.K N H v (tupD ns) then h.choose else [], fun v ns hv => ?_⟩
    have ex : ∃ ns, DR X.K N H v (tupD ns) := ⟨ns, hv⟩
    show (if h : ∃ ns, DR X.K N H v (tupD ns) then h.choose else []) = ns
    rw [dif_pos ex]
    exact tup_uniq I ex.choose_spec hv
  obtain ⟨k, hk⟩ := hk
  obtain ⟨e1, e2⟩ := drs_keys hk hd
  refine cr_sortedTup hu pins s σ H [V.ref a] us Q I r ⟨a, xs, k, rfl, hs, fun x hx => ?_, ?_, fun ys p ord perm hp => q ys p ?_ hp⟩
  · obtain ⟨t, zs, rfl, t1, d1⟩ := (e2 x hx).tuple_inv
    refine ⟨t, rfl, ?_⟩
    have := t1.sq
    rw [ints_DRs d1] at this
    exact this
  · cases xs with
    | nil => cases e1
    | cons x0 rest =>
      rw [List.map_cons] at e1
      exact ⟨x0, rest, rfl, (List.cons.inj e1).1⟩
  · have m1 : (ys.map k).Perm (sortL ([] :: L)) := by
      have := perm.map k
      rw [e1] at this
      exact this.trans (sortL_perm _).symm
    have m2 : (ys.map k).Pairwise (fun a b => HT.lexLt b a = false) := List.pairwise_map.mpr ord
    have m3 : ys.map k = sortL ([] :: L) := sorted_uniq m2 (sortL_asc _) m1
    rw [← m3]
    exact drs_map fun y hy => e2 y (perm.mem_iff.mp hy)
end DL
end
section
set_option Elab.async false
set_option linter.all false
set_option maxRecDepth 100000
set_option autoImplicit false
set_option maxHeartbeats 1000000
/-! DL, part c: a small language over data, and what its words mean. -/
namespace DL
open PySem PySem.Spec PyProof.Rows L2

inductive Bi where
  | len | int | repr | list | tuple | all | any | min | max | sorted | isin (t : String)
  deriving DecidableEq
inductive Ik where
  | seq | rng | enu | zip
  deriving DecidableEq
inductive Tg where
  | one (i : Nat)
  | many (is : List Nat)
  deriving DecidableEq
inductive IE where
  | slot (i : Nat)
  | cst (d : D)
  | tup (es : List IE)
  | lst (es : List IE)
  | bin (op : Operator) (a b : IE)
  | neg (a : IE)
  | notE (a : IE)
  | bop (isAnd : Bool) (a b : IE)
  | cmp (op : CmpOp) (a b : IE)
  | chn (op op' : CmpOp) (a b c : IE)
  | ife (t a b : IE)
  | call (f : Nat) (es : List IE)
  | bi1 (b : Bi) (a : IE)
  | bi2 (b : Bi) (a c : IE)
  | rngL (isTup : Bool) (es : List IE)
  | idx (a i : IE)
  | slc (a : IE) (lo hi : Option IE)
  | rev (a : IE)
  | idxS (a b : IE)
  | join (a b : IE)
  | lc (elt : IE) (tg : Tg) (ik : Ik) (its : List IE) (cond : Option IE) (own : List Nat)
  | allG (elt : IE) (i : Nat) (it : IE)
inductive IS where
  | set (i : Nat) (e : IE)
  | own (i : Nat) (e : IE)
  | pen (i : Nat) (e : IE)
  | unp (is : List Nat) (e : IE)
  | par (i j : Nat) (oi oj : Bool) (a b : IE)
  | app (i : Nat) (e : IE)
  | sto (i : Nat) (k e : IE)
  | exp (e : IE)
  | iff (t : IE) (a b : List IS)
  | for_ (tg : Tg) (ik : Ik) (its : List IE) (body : List IS)
  | ret (e : IE)
  | nev
inductive Fl where
  | nx
  | ret (r : R)

def szL : Nat := 16777216
theorem szL_eq : szL = sizeLine := by rw [sizeLine_eq]; rfl

/-! ### what the words do with data -/
def truD : D → Option Bool
  | .none => some false
  | .bool b => some b
  | .int i => some (i != 0)
  | .str x => if x.length ≤ szL then some ((x.length : Int) != 0) else none
  | .list xs => some (!xs.isEmpty)
  | .tuple xs => some (!xs.isEmpty)
  | .dict _ => none
def binD (op : Operator) (x y : D) : Option R :=
  match op, x, y with
  | .Add, .int i, .int j => some (.d (.int (i + j)))
  | .Add, .str a, .str b => if a.length + b.length ≤ szL then some (.d (.str (a ++ b))) else none
  | .Add, .list xs, .list ys => if xs.length + ys.length ≤ szL then some (.fr (xs ++ ys)) else none
  | .Add, .tuple xs, .tuple ys => if xs.length + ys.length ≤ szL then some (.d (.tuple (xs ++ ys))) else none
  | .Sub, .int i, .int j => some (.d (.int (i - j)))
  | .Mult, .int i, .int j => if i.natAbs.log2 + j.natAbs.log2 < 1000000 then some (.d (.int (i * j))) else none
  | .Mult, .list xs, .int k => if -(2 ^ 63) ≤ k ∧ k < 2 ^ 63 ∧ xs.length * k.toNat ≤ szL then some (.fr (List.replicate k.toNat xs).flatten) else none
  | .Mult, .tuple xs, .int k => if xs ≠ [] ∧ -(2 ^ 60) ≤ k ∧ k ≤ 1000 ∧ xs.length ≤ 1000 then some (.d (.tuple (List.replicate k.toNat xs).flatten)) else none
  | .Mult, .str z, .int k => if 2 ≤ k ∧ k ≤ 1000 ∧ 1 ≤ z.length ∧ z.length ≤ 1000 then some (.d (.str (repS z k.toNat))) else none
  | .Mod, .int i, .int j => if 0 < j then some (.d (.int (i % j))) else none
  | .FloorDiv, .int i, .int j => if 0 < j ∧ j.natAbs.log2 < 9000 then some (.d (.int (i / j))) else none
  | .Pow, .int i, .int j => if 0 ≤ j ∧ j ≤ 1000000 ∧ i.natAbs < 2 ^ 64 then some (.d (.int (i ^ j.toNat))) else none
  | _, _, _ => none
def flatD : D → Bool
  | .none | .bool _ | .int _ | .str _ => true
  | _ => false
def eqD (x y : D) : Option Bool :=
  match x, y with
  | .int i, .int j => some (decide (i = j))
  | .bool i, .bool j => some (decide (i = j))
  | .str i, .str j => some (decide (i = j))
  | .none, .none => some true
  | .none, .int _ | .none, .bool _ | .none, .str _ | .int _, .none | .bool _, .none | .str _, .none => some false
  | .int _, .str _ | .str _, .int _ | .bool _, .str _ | .str _, .bool _ => some false
  | x, y => if SeqAt.shaped x = true ∧ SeqAt.shaped y = true then some (PyData.eqv x y) else none
/-- a text of one sign -/
def sgn (x : Str) : Option Nat :=
  match x.cps.toList with
  | [c] => some c
  | _ => none
theorem sgn_eq {x : Str} {c : Nat} (h : sgn x = some c) : x = ⟨#[c]⟩ := by
  obtain ⟨cps⟩ := x
  unfold sgn at h
  split at h
  · rename_i c' e
    cases h
    congr 1
    exact Array.toList_inj.mp (by rw [e])
  · cases h
def isNone : D → Bool
  | .none => true
  | _ => false
def inD (x y : D) : Option Bool :=
  match y with
  | .str z => (match x with
    | .str a => (sgn a).map fun c => decide (c ∈ z.cps.toList)
    | _ => none)
  | .list ds => if flatD x && ds.all flatD then some (ds.any fun z => PyData.eqv z x)
      else if SeqAt.shaped x = true ∧ SeqAt.shaped (.list ds) = true then some (ds.any fun z => PyData.eqv z x) else none
  | .tuple ds => if flatD x && ds.all flatD then some (ds.any fun z => PyData.eqv z x) else none
  | _ => none
def cmpD (op : CmpOp) (x y : D) : Option Bool :=
  match op with
  | .Eq => eqD x y
  | .NotEq => (eqD x y).map (!·)
  | .In => inD x y
  | .NotIn => (inD x y).map (!·)
  | .Is => match y with
    | .none => some (isNone x)
    | .bool b => (match x with | .bool a => some (decide (a = b)) | _ => none)
    | _ => none
  | .IsNot => match y with
    | .none => some (!isNone x)
    | .bool b => (match x with | .bool a => some (!decide (a = b)) | _ => none)
    | _ => none
  | .Lt => match x, y with | .int i, .int j => some (decide (i < j)) | _, _ => none
  | .LtE => match x, y with | .int i, .int j => some (decide (i ≤ j)) | _, _ => none
  | .Gt => match x, y with | .int i, .int j => some (decide (j < i)) | _, _ => none
  | .GtE => match x, y with | .int i, .int j => some (decide (j ≤ i)) | _, _ => none
def isinD (t : String) : D → Option Bool
  | .none => if t = "int" ∨ t = "bool" ∨ t = "str" ∨ t = "list" ∨ t = "tuple" then some false else none
  | .bool _ => if t = "int" ∨ t = "bool" then some true else if t = "str" ∨ t = "list" ∨ t = "tuple" then some false else none
  | .int _ => if t = "int" then some true else if t = "bool" ∨ t = "str" ∨ t = "list" ∨ t = "tuple" then some false else none
  | .str _ => if t = "str" then some true else if t = "bool" ∨ t = "int" ∨ t = "list" ∨ t = "tuple" then some false else none
  | .list _ => if t = "list" then some true else if t = "bool" ∨ t = "str" ∨ t = "int" ∨ t = "tuple" then some false else none
  | .tuple _ => if t = "tuple" then some true else if t = "bool" ∨ t = "str" ∨ t = "list" ∨ t = "int" then some false else none
  | .dict _ => none
/-- all of them bools -/
def boolsD : List D → Option (List Bool)
  | [] => some []
  | .bool b :: ds => (boolsD ds).map (b :: ·)
  | _ :: _ => none
def strsD : List D → Option (List Str)
  | [] => some []
  | .str b :: ds => (strsD ds).map (b :: ·)
  | _ :: _ => none
def signs (z : Str) : List D := z.cps.toList.map fun c => .str ⟨#[c]⟩
def intsD : List D → Option (List Int)
  | [] => some []
  | .int i :: r => (intsD r).map (i :: ·)
  | _ :: _ => none
def tupsD : List D → Option (List (List Int))
  | [] => some []
  | .tuple ds :: r => (match intsD ds, tupsD r with
    | some ns, some L => some (ns :: L)
    | _, _ => none)
  | _ :: _ => none
def bi1D (b : Bi) (x : D) : Option R :=
  match b, x with
  | .len, .list ds => some (.d (.int ds.length))
  | .len, .tuple ds => some (.d (.int ds.length))
  | .len, .str z => if z.length ≤ szL then some (.d (.int z.length)) else none
  | .int, .int i => some (.d (.int i))
  | .int, .bool k => some (.d (.int (if k then 1 else 0)))
  | .repr, d => if d.showable = true ∧ d.hasDict = false ∧ d.depth ≤ 60 ∧ d.shown.length ≤ szL then some (.d (.str d.shown)) else none
  | .list, .list ds => some (.fr ds)
  | .list, .tuple ds => some (.fr ds)
  | .list, .str z => if z.length ≤ szL then some (.fr (signs z)) else none
  | .tuple, .list ds => some (.d (.tuple ds))
  | .tuple, .tuple ds => some (.d (.tuple ds))
  | .all, .list ds => (boolsD ds).map fun bs => .d (.bool (bs.all id))
  | .any, .list ds => (boolsD ds).map fun bs => .d (.bool (bs.any id))
  | .sorted, .list ds => (match tupsD ds with
    | some ([] :: L) => some (.fr ((sortL ([] :: L)).map tupD))
    | _ => none)
  | .isin t, d => (isinD t d).map fun b => .d (.bool b)
  | _, _ => none
def bi2D (b : Bi) (x y : D) : Option R :=
  match b, x, y with
  | .min, .int i, .int j => some (.d (.int (if j < i then j else i)))
  | .max, .int i, .int j => some (.d (.int (if j > i then j else i)))
  | _, _, _ => none
def idxD (x y : D) : Option D :=
  match x, y with
  | .list ds, .int i => atI ds i
  | .tuple ds, .int i => atI ds i
  | .str z, .int i => if z.length ≤ szL then (atI z.cps.toList i).map fun c => .str ⟨#[c]⟩ else none
  | _, _ => none
def cutD (xs : List D) (lo hi : Option Int) : List D := (xs.drop (HT.sIx xs.length 0 lo)).take (HT.sIx xs.length xs.length hi - HT.sIx xs.length 0 lo)
def slcD (x : D) (lo hi : Option Int) : Option R :=
  match x with
  | .list ds => some (.fr (cutD ds lo hi))
  | .tuple ds => some (.d (.tuple (cutD ds lo hi)))
  | .str z => if z.length ≤ szL then some (.d (.str (cutS z lo hi))) else none
  | _ => none
def partD : Option D → Option (Option Int)
  | none => some none
  | some (.int i) => some (some i)
  | _ => none
/-- what a walk meets -/
def seqD : D → Option (List D)
  | .list ds => some ds
  | .tuple ds => some ds
  | .str z => some (signs z)
  | _ => none
def rngD : List D → Option (List D)
  | [.int j] => if -(2 ^ 62) ≤ j ∧ j < 2 ^ 62 then some ((List.range j.toNat).map fun (i : Nat) => .int (0 + (i : Int))) else none
  | [.int i, .int j] => if -(2 ^ 62) ≤ i ∧ i < 2 ^ 62 ∧ -(2 ^ 62) ≤ j ∧ j < 2 ^ 62 then some ((List.range (j - i).toNat).map fun (k : Nat) => .int (i + (k : Int))) else none
  | [.int a, .int b, .int (-1)] => if -(2 ^ 60) ≤ a ∧ a < 2 ^ 60 ∧ -(2 ^ 60) ≤ b ∧ b < 2 ^ 60 then some ((List.range (a - b).toNat).map fun (k : Nat) => .int (a + (k : Int) * (-1))) else none
  | _ => none
def enuD (ds : List D) : List D := ds.zipIdx.map fun p => .tuple [.int (p.2 : Int), p.1]
def zipD (xs ys : List D) : List D := (xs.zip ys).map fun p => .tuple [p.1, p.2]

/-! ### the run -/
structure FnD where
  name : Str
  ps : Nat
  n : Nat
  body : List IS
structure Ev where
  e : IE → G → Option (R × G)
  t : IE → G → Option (Bool × G)
  c : Nat → List Sv → Option (List D) → Option (R × Option (List D))
  ss : List IS → G → Option (Fl × G)
def evDs (ev : Ev) : List IE → G → Option (List D × G)
  | [], g => some ([], g)
  | e :: es, g => match ev.e e g with
    | none => none
    | some (r, g1) => match keepR r g1 with
      | none => none
      | some (d, g2) => match evDs ev es g2 with
        | none => none
        | some (ds, g3) => some (d :: ds, g3)
def keepS : R → G → Option (Sv × G)
  | .pen, g => some (.pen, g)
  | .scr ns, g => some (.scr ns, g)
  | r, g => (keepR r g).map fun (d, g1) => (.d d, g1)
def evAs (ev : Ev) : List IE → G → Option (List Sv × G)
  | [], g => some ([], g)
  | e :: es, g => match ev.e e g with
    | none => none
    | some (r, g1) => match keepS r g1 with
      | none => none
      | some (d, g2) => match evAs ev es g2 with
        | none => none
        | some (ds, g3) => some (d :: ds, g3)
def rd1 (ev : Ev) (a : IE) (g : G) : Option (D × G) :=
  match ev.e a g with
  | none => none
  | some (r, g1) => (rdR r).map fun x => (x, g1)
def rd2 (ev : Ev) (a b : IE) (g : G) : Option (D × D × G) :=
  match ev.e a g with
  | none => none
  | some (r1, g1) => match ev.e b g1 with
    | none => none
    | some (r2, g2) => match rdR r1, rdR r2 with
      | some x, some y => some (x, y, g2)
      | _, _ => none
def evP (ev : Ev) : Option IE → G → Option (Option D × G)
  | none, g => some (none, g)
  | some e, g => (rd1 ev e g).map fun (x, g1) => (some x, g1)
def wipeE (env : List (Option Sv)) : List Nat → List (Option Sv)
  | [] => env
  | v :: vs => (wipeE env vs).set v none
def setD (g : G) (i : Nat) (x : D) : G := { g with env := g.env.set i (some (.d x)) }
def setDs (g : G) : List Nat → List D → Option G
  | [], [] => some g
  | i :: is, d :: ds => setDs (setD g i d) is ds
  | _, _ => none
def asgT (tg : Tg) (x : D) (g : G) : Option G :=
  match tg, x with
  | .one i, x => some (setD g i x)
  | .many is, .tuple ds => setDs g is ds
  | _, _ => none
def kp1 (ev : Ev) (a : IE) (g : G) : Option (D × G) :=
  match ev.e a g with
  | none => none
  | some (r, g1) => keepR r g1
def itsD (ev : Ev) (ik : Ik) (its : List IE) (g : G) : Option (List D × G) :=
  match ik, its with
  | .seq, [e] => match kp1 ev e g with
    | none => none
    | some (x, g1) => (seqD x).map fun ds => (ds, g1)
  | .rng, es => match evDs ev es g with
    | none => none
    | some (ds, g1) => (rngD ds).map fun ds => (ds, g1)
  | .enu, [e] => match kp1 ev e g with
    | some (.list ds, g1) => some (enuD ds, g1)
    | some (.tuple ds, g1) => some (enuD ds, g1)
    | _ => none
  | .zip, [a, b] => match evDs ev [a, b] g with
    | some ([.list xs, .list ys], g1) => some (zipD xs ys, g1)
    | some ([.tuple xs, .tuple ys], g1) => some (zipD xs ys, g1)
    | _ => none
  | _, _ => none
def evLc (ev : Ev) (elt : IE) (tg : Tg) (cond : Option IE) (own : List Nat) : List D → List D → G → Option (List D × G)
  | [], acc, g => some (acc, { g with env := wipeE g.env own })
  | x :: xs, acc, g => match asgT tg x { g with env := wipeE g.env own } with
    | none => none
    | some g1 => match (match cond with | none => some (true, g1) | some c => ev.t c g1) with
      | none => none
      | some (true, g2) => match ev.e elt g2 with
        | none => none
        | some (r, g3) => match keepR r g3 with
          | none => none
          | some (d, g4) => if acc.length < szL then evLc ev elt tg cond own xs (acc ++ [d]) g4 else none
      | some (false, g2) => evLc ev elt tg cond own xs acc g2
def evFor (ev : Ev) (tg : Tg) (body : List IS) : List D → G → Option (Fl × G)
  | [], g => some (.nx, g)
  | x :: xs, g => match asgT tg x g with
    | none => none
    | some g1 => match ev.ss body g1 with
      | none => none
      | some (.nx, g2) => evFor ev tg body xs g2
      | some (.ret r, g2) => some (.ret r, g2)
def stE (ev : Ev) (ir : IE) (g : G) : Option (R × G) :=
  match ir with
  | .slot i => match g.env[i]? with
    | some (some (.d x)) => some (.d x, g)
    | some (some (.own xs)) => some (.bo i xs, g)
    | some (some (.scr xs)) => some (.scr xs, g)
    | some (some .pen) => if g.pen.isSome then some (.pen, g) else none
    | _ => none
  | .cst d => some (.d d, g)
  | .tup es => (evDs ev es g).map fun (ds, g1) => (.d (.tuple ds), g1)
  | .lst es => (evDs ev es g).map fun (ds, g1) => (.fr ds, g1)
  | .bin op a b => match rd2 ev a b g with
    | none => none
    | some (x, y, g1) => (binD op x y).map fun r => (r, g1)
  | .neg a => match rd1 ev a g with
    | some (.int i, g1) => some (.d (.int (-i)), g1)
    | _ => none
  | .notE a => match rd1 ev a g with
    | some (.bool b, g1) => some (.d (.bool (!b)), g1)
    | _ => none
  | .bop isAnd a b => match rd1 ev a g with
    | some (.bool c, g1) => if c = isAnd then ev.e b g1 else some (.d (.bool c), g1)
    | _ => none
  | .cmp op a b => match rd2 ev a b g with
    | none => none
    | some (x, y, g1) => (cmpD op x y).map fun r => (.d (.bool r), g1)
  | .chn op op' a b c => match rd2 ev a b g with
    | some (x, .int j, g1) => match cmpD op x (.int j) with
      | none => none
      | some false => some (.d (.bool false), g1)
      | some true => match rd1 ev c g1 with
        | none => none
        | some (z, g2) => (cmpD op' (.int j) z).map fun r => (.d (.bool r), g2)
    | _ => none
  | .ife t a b => match ev.t t g with
    | none => none
    | some (true, g1) => ev.e a g1
    | some (false, g1) => ev.e b g1
  | .call f es => match evAs ev es g with
    | none => none
    | some (as, g1) => (ev.c f as g1.pen).map fun (r, p) => (r, { g1 with pen := p })
  | .bi1 b a => match rd1 ev a g with
    | none => none
    | some (x, g1) => (bi1D b x).map fun r => (r, g1)
  | .bi2 b a c => match rd2 ev a c g with
    | none => none
    | some (x, y, g1) => (bi2D b x y).map fun r => (r, g1)
  | .rngL isTup es => match evDs ev es g with
    | none => none
    | some (ds, g1) => match rngD ds with
      | none => none
      | some xs => if xs.length ≤ szL then some (if isTup then .d (.tuple xs) else .fr xs, g1) else none
  | .idx a i => match ev.e a g with
    | none => none
    | some (r, g1) => match rd1 ev i g1 with
      | none => none
      | some (y, g2) => match r with
        | .pen => match g2.pen with
          | none => none
          | some xs => (idxD (.list xs) y).map fun d => (.d d, g2)
        | r => match rdR r with
          | none => none
          | some x => (idxD x y).map fun d => (.d d, g2)
  | .slc a lo hi => match ev.e a g with
    | none => none
    | some (r, g1) => match evP ev lo g1 with
      | none => none
      | some (l, g2) => match evP ev hi g2 with
        | none => none
        | some (h, g3) => match partD l, partD h with
          | some l, some h => match r with
            | .scr ns => some (.fr (cutD (ns.map PyData.int) l h), g3)
            | r => match rdR r with
              | none => none
              | some x => (slcD x l h).map fun r => (r, g3)
          | _, _ => none
  | .rev a => match rd1 ev a g with
    | some (.list xs, g1) => some (.fr xs.reverse, g1)
    | some (.tuple xs, g1) => some (.d (.tuple xs.reverse), g1)
    | _ => none
  | .idxS a b => match rd2 ev a b g with
    | some (.str x, .str y, g1) => (Txt.index0 x y).map fun i => (.d (.int (i : Int)), g1)
    | _ => none
  | .join a b => match rd2 ev a b g with
    | some (.str x, .list ds, g1) => match strsD ds with
      | none => none
      | some ys => if (ys.map (·.length)).sum + ys.length * x.length ≤ szL then some (.d (.str (Txt.join x ys)), g1) else none
    | _ => none
  | .lc elt tg ik its cond own => match itsD ev ik its g with
    | none => none
    | some (ds, g1) => (evLc ev elt tg cond own ds [] g1).map fun (acc, g2) => (.fr acc, g2)
  | .allG y i it => match y, rd1 ev it g with
    | .slot j, some (.str a, g1) => (match g1.env[j]? with
      | some (some (.d (.str z))) => some (.d (.bool (a.cps.toList.all fun ch => decide (ch ∈ z.cps.toList))), g1)
      | _ => none)
    | _, _ => none
def stT (ev : Ev) (ir : IE) (g : G) : Option (Bool × G) :=
  match ir with
  | .bop isAnd a b => match ev.t a g with
    | none => none
    | some (c, g1) => if c = isAnd then ev.t b g1 else some (c, g1)
  | .notE a => (ev.t a g).map fun (c, g1) => (!c, g1)
  | .cmp op a b => match stE ev (.cmp op a b) g with
    | some (.d (.bool r), g1) => some (r, g1)
    | _ => none
  | .chn op op' a b c => match stE ev (.chn op op' a b c) g with
    | some (.d (.bool r), g1) => some (r, g1)
    | _ => none
  | .ife _ _ _ => none
  | ir => match rd1 ev ir g with
    | none => none
    | some (x, g1) => (truD x).map fun b => (b, g1)
def setOwn (g : G) (i : Nat) (xs : List D) : G := { g with env := g.env.set i (some (.own xs)) }
/-- kept as an own list, or as a datum -/
def keepO (o : Bool) (r : R) (g : G) : Option (Sv × G) :=
  match o, r with
  | true, .fr xs => some (.own xs, g)
  | true, _ => none
  | false, r => (keepR r g).map fun (d, g1) => (.d d, g1)
def stS (ev : Ev) (s : IS) (g : G) : Option (Fl × G) :=
  match s with
  | .set i e => match stE ev e g with
    | none => none
    | some (r, g1) => (keepR r g1).map fun (d, g2) => (.nx, setD g2 i d)
  | .own i e => match stE ev e g with
    | some (.fr xs, g1) => some (.nx, setOwn g1 i xs)
    | _ => none
  | .pen i e => match stE ev e g with
    | some (.fr xs, g1) => if g1.pen.isSome then none else some (.nx, { env := g1.env.set i (some .pen), pen := some xs })
    | _ => none
  | .unp is e => match ev.e e g with
    | none => none
    | some (r, g1) => match keepR r g1 with
      | some (.tuple ds, g2) => (setDs g2 is ds).map fun g3 => (.nx, g3)
      | _ => none
  | .par i j oi oj a b => match ev.e a g with
    | none => none
    | some (r1, g0) => match keepO oi r1 g0 with
      | none => none
      | some (s1, g1) => match ev.e b g1 with
        | none => none
        | some (r2, g2) => match keepO oj r2 g2 with
          | none => none
          | some (s2, g3) => some (.nx, { g3 with env := (g3.env.set i (some s1)).set j (some s2) })
  | .app i e => match g.env[i]? with
    | some (some (.own _)) => match ev.e e g with
      | none => none
      | some (r, g1) => match keepR r g1 with
        | none => none
        | some (d, g2) => match g2.env[i]? with
          | some (some (.own xs)) => if xs.length < szL then some (.nx, setOwn g2 i (xs ++ [d])) else none
          | _ => none
    | _ => none
  | .sto i k e => match ev.e e g with
    | none => none
    | some (r, g1) => match keepR r g1 with
      | none => none
      | some (d, g2) => match g2.env[i]? with
        | some (some _) => match rd1 ev k g2 with
          | some (.int j, g3) => match g3.env[i]? with
            | some (some (.own xs)) => (ixN xs.length j).map fun n => (.nx, setOwn g3 i (xs.set n d))
            | some (some .pen) => match g3.pen with
              | none => none
              | some xs => (ixN xs.length j).map fun n => (.nx, { g3 with pen := some (xs.set n d) })
            | _ => none
          | _ => none
        | _ => none
  | .exp e => (ev.e e g).map fun (_, g1) => (.nx, g1)
  | .iff t a b => match ev.t t g with
    | none => none
    | some (true, g1) => ev.ss a g1
    | some (false, g1) => ev.ss b g1
  | .for_ tg ik its body => match itsD ev ik its g with
    | none => none
    | some (ds, g1) => evFor ev tg body ds g1
  | .ret e => (ev.e e g).map fun (r, g1) => (.ret r, g1)
  | .nev => none
def stSs (ev : Ev) : List IS → G → Option (Fl × G)
  | [], g => some (.nx, g)
  | s :: ss, g => match stS ev s g with
    | none => none
    | some (.nx, g1) => ev.ss ss g1
    | some (.ret r, g1) => some (.ret r, g1)
/-- what a call gives; the pen is not made within it -/
def retC (p : Option (List D)) (r : R) (g : G) : Option (R × Option (List D)) :=
  if g.pen.isSome = p.isSome then some (match r with | .bo _ xs => .fr xs | r => r, g.pen) else none
def stC (tb : List FnD) (ev : Ev) (f : Nat) (as : List Sv) (p : Option (List D)) : Option (R × Option (List D)) :=
  match tb[f]? with
  | none => none
  | some fd => if as.length = fd.ps then
      match ev.ss fd.body { env := as.map some ++ List.replicate (fd.n - fd.ps) none, pen := p } with
      | none => none
      | some (.nx, g) => retC p (.d .none) g
      | some (.ret r, g) => retC p r g
    else none
def ev (tb : List FnD) : Nat → Ev
  | 0 => ⟨fun _ _ => none, fun _ _ => none, fun _ _ _ => none, fun _ _ => none⟩
  | n + 1 => ⟨stE (ev tb n), stT (ev tb n), stC tb (ev tb n), stSs (ev tb n)⟩
end DL
end
section
set_option Elab.async false
set_option linter.all false
set_option maxRecDepth 100000
set_option autoImplicit false
set_option maxHeartbeats 1000000
/-! DL, part d: the operators by data. -/
namespace DL
open PySem PySem.Spec PyProof.Rows L2
variable [Tabs]

/-- an operator's outcome -/
inductive Res (K : Fg) (N : AS) (H : Hp) : V → Hp → R → Prop
  | same {v : V} {z : D} : DR K N H v z → Res K N H v H (.d z)
  | tup {p : Addr} {vs : List V} {ds : List D} : H p = none → DRs K N H vs ds → Res K N H (.ref p) (upd H p (.tup vs)) (.d (.tuple ds))
  | lst {p : Addr} {vs : List V} {ds : List D} : H p = none → DRs K N H vs ds → Res K N H (.ref p) (upd H p (.lst vs)) (.fr ds)

/-- after reading one -/
structure PostR (K : Fg) (pa : Addr) (T : AS) (H0 : Hp) (σ : L2.St) (H : Hp) (g : G) (v : V) (H' : Hp) (x : D) (g' : G) : Prop where
  ext : Ext (pm pa g.pen) H H'
  rel : Rel K pa T H0 σ H' g'
  tr : TR K (Nv pa T σ g') H' v x
  pen : g'.pen.isSome = g.pen.isSome
  sub : ∀ a, Nv pa T σ g' a → Nv pa T σ g a
structure Post2 (K : Fg) (pa : Addr) (T : AS) (H0 : Hp) (σ : L2.St) (H : Hp) (g : G) (v w : V) (H' : Hp) (x y : D) (g' : G) : Prop where
  ext : Ext (pm pa g.pen) H H'
  rel : Rel K pa T H0 σ H' g'
  tr : TR K (Nv pa T σ g') H' v x
  tr2 : TR K (Nv pa T σ g') H' w y
  pen : g'.pen.isSome = g.pen.isSome
  sub : ∀ a, Nv pa T σ g' a → Nv pa T σ g a
structure PostA (K : Fg) (pa : Addr) (T : AS) (H0 : Hp) (σ : L2.St) (H : Hp) (g : G) (vs : List V) (H' : Hp) (ds : List D) (g' : G) : Prop where
  ext : Ext (pm pa g.pen) H H'
  rel : Rel K pa T H0 σ H' g'
  dr : DRs K (Nv pa T σ g') H' vs ds
  pen : g'.pen.isSome = g.pen.isSome
  sub : ∀ a, Nv pa T σ g' a → Nv pa T σ g a
structure PostN (K : Fg) (pa : Addr) (T : AS) (H0 : Hp) (σ : L2.St) (H : Hp) (g : G) (H' : Hp) (g' : G) : Prop where
  ext : Ext (pm pa g.pen) H H'
  rel : Rel K pa T H0 σ H' g'
  pen : g'.pen.isSome = g.pen.isSome
  sub : ∀ a, Nv pa T σ g' a → Nv pa T σ g a
section
variable {K : Fg} {pa : Addr} {T : AS} {H0 H H1 H2 : Hp} {σ : L2.St} {g g1 g2 : G} {v w : V} {x y z : D} {r r2 : R} {vs : List V} {ds : List D}
theorem Res.post (h : Res K (Nv pa T σ g1) H1 v H2 r) (ext : Ext (pm pa g.pen) H H1) (rel : Rel K pa T H0 σ H1 g1) (pen : g1.pen.isSome = g.pen.isSome) (sub : ∀ a, Nv pa T σ g1 a → Nv pa T σ g a) :
    PostE K pa T H0 σ H g v H2 r g1 := by
  cases h with
  | same q => exact ⟨ext, rel, q, pen, sub⟩
  | tup h1 h2 => exact .newT ext rel pen sub h1 h2
  | lst h1 h2 => exact .newL ext rel pen sub h1 h2
theorem PostE.rd (p : PostE K pa T H0 σ H g v H1 r g1) (h : rdR r = some x) : PostR K pa T H0 σ H g v H1 x g1 :=
  ⟨p.ext, p.rel.mono (ownT_of T v r), p.read h (.refl _ _) fun _ z => z, p.pen, p.sub⟩
theorem PostE.two (p : PostE K pa T H0 σ H g v H1 r g1) (q : PostE K pa (ownT T v r) H0 σ H1 g1 w H2 r2 g2) (h : rdR r = some x) (h2 : rdR r2 = some y) :
    Post2 K pa T H0 σ H g v w H2 x y g2 := by
  have e : pm pa g1.pen = pm pa g.pen := pm_eq p.pen
  have mo := Nv.mono (pa := pa) (σ := σ) (g := g2) (ownT_of T v r)
  -- what may change behind both may change behind the first
  have sub : ∀ a, Nv pa T σ g2 a → Nv pa T σ g1 a := by
    rintro a (z | z | z)
    · exact .inl z
    · rcases q.sub a (.inr (.inl z)) with q1 | q1 | q1
      · exact .inr (.inl (by rw [← pm_eq q.pen]; exact z))
      · exact .inr (.inl q1)
      · exact .inr (.inl (by rw [← pm_eq q.pen]; exact z))
    · obtain ⟨i, xs, z1, z2⟩ := z
      rcases q.sub a (.inr (.inr ⟨i, xs, z1, z2⟩)) with q1 | q1 | q1
      · obtain ⟨a', vs, e1, _, _, _, e5, _⟩ := q.rel.own z1
        rw [z2] at e1
        cases e1
        exact absurd (ownT_of _ _ _ _ q1) e5
      · exact .inr (.inl q1)
      · exact .inr (.inr q1)
  exact ⟨p.ext.trans (q.ext.mono fun a z => by rw [← e]; exact z), q.rel.mono fun a z => ownT_of _ _ _ _ (ownT_of _ _ _ _ z), p.read h q.ext sub, TR.mono mo (q.read h2 (.refl _ _) fun _ z => z), q.pen.trans p.pen, fun a z => p.sub a (sub a z)⟩
theorem PostK.cons (p : PostK K pa T H0 σ H g v H1 x g1) (q : PostA K pa T H0 σ H1 g1 vs H2 ds g2) : PostA K pa T H0 σ H g (v :: vs) H2 (x :: ds) g2 := by
  have e : pm pa g1.pen = pm pa g.pen := pm_eq p.pen
  refine ⟨p.ext.trans (q.ext.mono fun a z => by rw [← e]; exact z), q.rel, .cons ?_ q.dr, q.pen.trans p.pen, fun a z => p.sub a (q.sub a z)⟩
  exact (DR.ext q.ext (fun a z => .inr (.inl z)) p.dr).mono q.sub
theorem PostN.then (p : PostN K pa T H0 σ H g H1 g1) (q : PostN K pa T H0 σ H1 g1 H2 g2) : PostN K pa T H0 σ H g H2 g2 := by
  have e : pm pa g1.pen = pm pa g.pen := pm_eq p.pen
  exact ⟨p.ext.trans (q.ext.mono fun a z => by rw [← e]; exact z), q.rel, q.pen.trans p.pen, fun a z => p.sub a (q.sub a z)⟩
theorem PostN.thenE (p : PostN K pa T H0 σ H g H1 g1) (q : PostE K pa T H0 σ H1 g1 v H2 r g2) : PostE K pa T H0 σ H g v H2 r g2 := by
  have e : pm pa g1.pen = pm pa g.pen := pm_eq p.pen
  refine ⟨p.ext.trans (q.ext.mono fun a z => by rw [← e]; exact z), q.rel, ?_, q.pen.trans p.pen, fun a z => p.sub a (q.sub a z)⟩
  have := q.vr
  cases r with
  | fr xs => obtain ⟨a, ws, e1, e2, e3⟩ := this; exact ⟨a, ws, e1, p.ext.d _ e2, e3⟩
  | d x => exact this
  | bo i xs => exact this
  | scr ns => exact this
  | pen => exact this
theorem PostR.n (p : PostR K pa T H0 σ H g v H1 x g1) : PostN K pa T H0 σ H g H1 g1 := ⟨p.ext, p.rel, p.pen, p.sub⟩
theorem Post2.n (p : Post2 K pa T H0 σ H g v w H1 x y g1) : PostN K pa T H0 σ H g H1 g1 := ⟨p.ext, p.rel, p.pen, p.sub⟩
theorem PostA.n (p : PostA K pa T H0 σ H g vs H1 ds g1) : PostN K pa T H0 σ H g H1 g1 := ⟨p.ext, p.rel, p.pen, p.sub⟩
theorem PostK.n (p : PostK K pa T H0 σ H g v H1 x g1) : PostN K pa T H0 σ H g H1 g1 := ⟨p.ext, p.rel, p.pen, p.sub⟩
theorem PostE.n (p : PostE K pa T H0 σ H g v H1 r g1) : PostN K pa T H0 σ H g H1 g1 := ⟨p.ext, p.rel.mono (ownT_of T v r), p.pen, p.sub⟩
theorem PostN.res (p : PostN K pa T H0 σ H g H1 g1) (h : Res K (Nv pa T σ g1) H1 v H2 r) : PostE K pa T H0 σ H g v H2 r g1 := h.post p.ext p.rel p.pen p.sub
end

/-! ### binary operators -/
section
variable {X : Cx} {N : AS} {H : Hp} {v w : V} {x y : D} {r : R}
theorem bin_ok {op : Operator} (h : binD op x y = some r) : ∃ t : R2, OpR X (binaryOp op) t ∧
    ∀ (N : AS) (H : Hp) (v w : V) (Q : VK), TR X.K N H v x → TR X.K N H w y → (∀ z H', Res X.K N H z H' r → Q z H') → t v w H Q := by
  unfold binD at h
  split at h
  · cases h
    refine ⟨_, op_add, fun N H v w Q hv hw q => ?_⟩
    rw [hv.int, hw.int]
    exact ⟨_, _, rfl, rfl, q _ _ (.same (.int _))⟩
  · split at h
    · rename_i a b hz
      cases h
      refine ⟨_, op_add_str, fun N H v w Q hv hw q => ?_⟩
      rw [hv.str, hw.str]
      exact ⟨_, _, rfl, rfl, by rw [szL_eq] at hz; exact hz, q _ _ (.same (.str _))⟩
    · cases h
  · split at h
    · rename_i a b hz
      cases h
      refine ⟨_, op_cat, fun N H v w Q hv hw q => ?_⟩
      obtain ⟨a, vs, rfl, h1, h2⟩ := hv.list
      obtain ⟨b, ws, rfl, h3, h4⟩ := hw.list
      exact ⟨_, _, _, _, rfl, rfl, h1, h3, by rw [h2.length, h4.length, ← szL_eq]; exact hz, fun p hp => q _ _ (.lst hp (h2.append h4))⟩
    · cases h
  · split at h
    · rename_i a b hz
      cases h
      refine ⟨_, op_catA, fun N H v w Q hv hw q => ?_⟩
      have hvD := hv.tupD
      have hwD := hw.tupD
      obtain ⟨a, vs, rfl, h1, h2⟩ := hv.tuple
      obtain ⟨b, ws, rfl, h3, h4⟩ := hw.tuple
      refine ⟨_, _, _, _, rfl, rfl, h1, h3, by rw [h2.length, h4.length, ← szL_eq]; exact hz, fun e => ?_, fun _ e => ?_, fun _ _ p hp => q _ _ (.tup hp (h2.append h4))⟩
      · subst e
        cases h2
        exact q _ _ (.same hwD)
      · subst e
        cases h4
        rw [List.append_nil] at q
        exact q _ _ (.same hvD)
    · cases h
  · cases h
    refine ⟨_, op_sub, fun N H v w Q hv hw q => ?_⟩
    rw [hv.int, hw.int]
    exact ⟨_, _, rfl, rfl, q _ _ (.same (.int _))⟩
  · split at h
    · rename_i a b hz
      cases h
      refine ⟨_, op_mulW, fun N H v w Q hv hw q => ?_⟩
      rw [hv.int, hw.int]
      exact ⟨_, _, rfl, rfl, hz, q _ _ (.same (.int _))⟩
    · cases h
  · split at h
    · rename_i a b hz
      cases h
      refine ⟨_, op_rep, fun N H v w Q hv hw q => ?_⟩
      obtain ⟨a, vs, rfl, h1, h2⟩ := hv.list
      rw [hw.int]
      exact ⟨_, _, _, rfl, rfl, h1, hz.1, hz.2.1, by rw [h2.length, ← szL_eq]; exact hz.2.2, fun p hp => q _ _ (.lst hp (h2.rep _))⟩
    · cases h
  · split at h
    · rename_i xs k hz
      cases h
      refine ⟨_, op_repA, fun N H v w Q hv hw q => ?_⟩
      have hd := hv.tupD
      obtain ⟨a, vs, rfl, h1, h2⟩ := hv.tuple
      rw [hw.int]
      refine ⟨_, _, _, rfl, rfl, h1, fun e => ?_, hz.2.1, hz.2.2.1, by rw [h2.length]; exact hz.2.2.2, fun e => ?_, fun _ p hp => q _ _ (.tup hp (h2.rep _))⟩
      · subst e
        cases h2
        exact hz.1 rfl
      · subst e
        refine q _ _ (.same ?_)
        have e1 : (List.replicate (1 : Int).toNat xs).flatten = xs := by
          show (List.replicate 1 xs).flatten = xs
          simp
        rw [e1]
        exact hd
    · cases h
  · split at h
    · rename_i z k hz
      cases h
      refine ⟨_, op_mulS, fun N H v w Q hv hw q => ?_⟩
      rw [hv.str, hw.int]
      exact ⟨_, _, rfl, rfl, hz.1, hz.2.1, hz.2.2.1, hz.2.2.2, q _ _ (.same (.str _))⟩
    · cases h
  · split at h
    · rename_i a b hz
      cases h
      refine ⟨_, op_mod, fun N H v w Q hv hw q => ?_⟩
      rw [hv.int, hw.int]
      exact ⟨_, _, rfl, rfl, hz, q _ _ (.same (.int _))⟩
    · cases h
  · split at h
    · rename_i a b hz
      cases h
      refine ⟨_, op_fdivW, fun N H v w Q hv hw q => ?_⟩
      rw [hv.int, hw.int]
      exact ⟨_, _, rfl, rfl, hz, q _ _ (.same (.int _))⟩
    · cases h
  · split at h
    · rename_i a b hz
      cases h
      refine ⟨_, op_pow, fun N H v w Q hv hw q => ?_⟩
      rw [hv.int, hw.int]
      exact ⟨_, _, rfl, rfl, hz, q _ _ (.same (.int _))⟩
    · cases h
  · cases h
end
end DL
end
section
set_option Elab.async false
set_option linter.all false
set_option maxRecDepth 100000
set_option autoImplicit false
set_option maxHeartbeats 2000000
/-! DL, part e: comparisons, truth, built-ins, places and cuts by data. -/
namespace DL
open PySem PySem.Spec PyProof.Rows L2

section
variable {X : Cx}
/-- flat data: the value's own words agree with the datum's -/
def dV : D → V
  | .bool b => .bl b
  | .int i => .int i
  | .str x => .str x
  | _ => .non
theorem flat_v {K : Fg} {N : AS} {H : Hp} {d : D} {v : V} (f : flatD d = true) (q : DR K N H v d) : v = dV d := by
  cases q <;> first | rfl | cases f
theorem flat_vs {K : Fg} {N : AS} {H : Hp} : ∀ {ds : List D} {vs : List V}, ds.all flatD = true → DRs K N H vs ds → vs = ds.map dV
  | [], _, _, .nil => rfl
  | d :: ds, _, f, .cons a b => by
    rw [List.all_cons, Bool.and_eq_true] at f
    rw [List.map_cons, flat_v f.1 a, flat_vs f.2 b]
theorem flatV_dV (d : D) (f : flatD d = true) : flatV (dV d) = true := by
  cases d <;> first | rfl | cases f
theorem eqV_dV {d e : D} (f : flatD d = true) (k : flatD e = true) : eqV (dV d) (dV e) = PyData.eqv d e := by
  cases d <;> first | (cases f; done) | (cases e <;> first | (cases k; done) | (simp only [dV, eqV, PyData.eqv]))
theorem flatV_map {ds : List D} (f : ds.all flatD = true) : (ds.map dV).all flatV = true := by
  rw [List.all_map]
  rw [List.all_eq_true] at f ⊢
  exact fun d hd => flatV_dV d (f d hd)
theorem inV_map {d : D} (f : flatD d = true) : ∀ {ds : List D}, ds.all flatD = true → inV (dV d) (ds.map dV) = ds.any fun z => PyData.eqv z d
  | [], _ => rfl
  | e :: ds, k => by
    rw [List.all_cons, Bool.and_eq_true] at k
    have ih := inV_map f k.2
    unfold inV at ih ⊢
    rw [List.map_cons, List.any_cons, List.any_cons, ih, eqV_dV k.1 f]

theorem eq_ok {x y : D} {b : Bool} (hu : X.A.units + 65 < cLine) (h : eqD x y = some b) : (∃ t : R2, OpR X (compareOp .Eq) t ∧
    ∀ (N : AS) (H : Hp) (v w : V) (Q : VK), TR X.K N H v x → TR X.K N H w y → Q (.bl b) H → t v w H Q) ∧
    (∃ t : R2, OpR X (compareOp .NotEq) t ∧
    ∀ (N : AS) (H : Hp) (v w : V) (Q : VK), TR X.K N H v x → TR X.K N H w y → Q (.bl (!b)) H → t v w H Q) := by
  have hu1 : X.A.units + 64 < cLine := by omega
  unfold eqD at h
  split at h
  all_goals first
    | (split at h
       · rename_i hs
         cases h
         exact ⟨⟨_, op_eqD hu1, fun N H v w Q hv hw q => ⟨_, _, hv.dp, hw.dp, hs.1, hs.2, q⟩⟩, ⟨_, op_neD hu1, fun N H v w Q hv hw q => ⟨_, _, hv.dp, hw.dp, hs.1, hs.2, q⟩⟩⟩
       · cases h)
    | (cases h
       refine ⟨⟨_, op_eq, fun N H v w Q hv hw q => ?_⟩, ⟨_, op_ne, fun N H v w Q hv hw q => ?_⟩⟩ <;>
       (first | rw [hv.int] | rw [hv.bool] | rw [hv.str] | rw [hv.none]) <;> (first | rw [hw.int] | rw [hw.bool] | rw [hw.str] | rw [hw.none]) <;>
       (refine ⟨rfl, ?_⟩; first | (simpa using q) | exact q))
theorem shaped_flat {x : D} : True := trivial
theorem in_ok {x y : D} {b : Bool} (hu : X.A.units + 65 < cLine) (h : inD x y = some b) : (∃ t : R2, OpR X (compareOp .In) t ∧
    ∀ (N : AS) (H : Hp) (v w : V) (Q : VK), TR X.K N H v x → TR X.K N H w y → Q (.bl b) H → t v w H Q) ∧
    (∃ t : R2, OpR X (compareOp .NotIn) t ∧
    ∀ (N : AS) (H : Hp) (v w : V) (Q : VK), TR X.K N H v x → TR X.K N H w y → Q (.bl (!b)) H → t v w H Q) := by
  unfold inD at h
  split at h
  · split at h
    case h_2 => cases h
    rename_i z _ a
    cases e : sgn a with
    | none => rw [e] at h; cases h
    | some c => ?_
    rw [e] at h
    cases h
    rw [sgn_eq e]
    refine ⟨⟨_, op_in_sign, fun N H v w Q hv hw q => ?_⟩, ⟨_, op_notIn_sign, fun N H v w Q hv hw q => ?_⟩⟩ <;>
    (rw [hv.str, hw.str]; exact ⟨_, _, rfl, rfl, q⟩)
  · split at h
    · rename_i hf
      rw [Bool.and_eq_true] at hf
      cases h
      have e : ∀ (N : AS) (H : Hp) (v w : V), TR X.K N H v x → TR X.K N H w (.list _) → ∃ a vs, w = .ref a ∧ SqL X.K H a vs ∧ v = dV x ∧ vs = List.map dV _ := fun N H v w hv hw => by
        obtain ⟨a, vs, e1, e2, e3⟩ := hw.list
        refine ⟨a, vs, e1, .of e2, ?_, flat_vs hf.2 e3⟩
        cases hv with
        | d q => exact flat_v hf.1 q
        | l _ _ => cases hf.1
      refine ⟨⟨_, op_in_seq, fun N H v w Q hv hw q => ?_⟩, ⟨_, op_notIn_seq, fun N H v w Q hv hw q => ?_⟩⟩ <;>
      (obtain ⟨a, vs, rfl, h1, rfl, rfl⟩ := e N H v w hv hw
       refine ⟨_, _, rfl, .inl h1, flatV_dV _ hf.1, flatV_map hf.2, ?_⟩
       rw [inV_map hf.1 hf.2]
       exact q)
    · split at h
      · rename_i hs
        cases h
        exact ⟨⟨_, op_inD hu, fun N H v w Q hv hw q => ⟨_, _, hv.dp, hw.dp, hs.1, hs.2, q⟩⟩, ⟨_, op_notInD hu, fun N H v w Q hv hw q => ⟨_, _, hv.dp, hw.dp, hs.1, hs.2, q⟩⟩⟩
      · cases h
  · split at h
    · rename_i hf
      rw [Bool.and_eq_true] at hf
      cases h
      have e : ∀ (N : AS) (H : Hp) (v w : V), TR X.K N H v x → TR X.K N H w (.tuple _) → ∃ a vs, w = .ref a ∧ SqT X.K H a vs ∧ v = dV x ∧ vs = List.map dV _ := fun N H v w hv hw => by
        obtain ⟨a, vs, e1, e2, e3⟩ := hw.tuple
        refine ⟨a, vs, e1, e2, ?_, flat_vs hf.2 e3⟩
        cases hv with
        | d q => exact flat_v hf.1 q
        | l _ _ => cases hf.1
      refine ⟨⟨_, op_in_seq, fun N H v w Q hv hw q => ?_⟩, ⟨_, op_notIn_seq, fun N H v w Q hv hw q => ?_⟩⟩ <;>
      (obtain ⟨a, vs, rfl, h1, rfl, rfl⟩ := e N H v w hv hw
       refine ⟨_, _, rfl, .inr h1, flatV_dV _ hf.1, flatV_map hf.2, ?_⟩
       rw [inV_map hf.1 hf.2]
       exact q)
    · cases h
  · cases h
theorem non_iff {K : Fg} {N : AS} {H : Hp} {x : D} {v : V} (q : TR K N H v x) : decide (v = .non) = isNone x := by
  cases q with
  | d q => cases q <;> rfl
  | l _ _ => rfl
theorem cmp_ok {op : CmpOp} {x y : D} {b : Bool} (hu : X.A.units + 65 < cLine) (h : cmpD op x y = some b) : ∃ t : R2, OpR X (compareOp op) t ∧
    ∀ (N : AS) (H : Hp) (v w : V) (Q : VK), TR X.K N H v x → TR X.K N H w y → Q (.bl b) H → t v w H Q := by
  cases op <;> simp only [cmpD] at h
  case Eq => exact (eq_ok hu h).1
  case NotEq =>
    cases e : eqD x y with
    | none => rw [e] at h; cases h
    | some c => rw [e] at h; cases h; exact (eq_ok hu e).2
  case In => exact (in_ok hu h).1
  case NotIn =>
    cases e : inD x y with
    | none => rw [e] at h; cases h
    | some c => rw [e] at h; cases h; exact (in_ok hu e).2
  case Lt | LtE | Gt | GtE =>
    split at h
    · cases h
      first
        | refine ⟨_, op_lt, fun N H v w Q hv hw q => ?_⟩
        | refine ⟨_, op_le, fun N H v w Q hv hw q => ?_⟩
        | refine ⟨_, op_gt, fun N H v w Q hv hw q => ?_⟩
        | refine ⟨_, op_ge, fun N H v w Q hv hw q => ?_⟩
      rw [hv.int, hw.int]
      exact ⟨_, _, rfl, rfl, q⟩
    · cases h
  case Is =>
    split at h
    · cases h
      refine ⟨_, op_isN, fun N H v w Q hv hw q => ⟨hw.none, ?_⟩⟩
      rw [non_iff hv]
      exact q
    · split at h
      case h_2 => cases h
      cases h
      refine ⟨_, op_is_bl, fun N H v w Q hv hw q => ?_⟩
      rw [hv.bool, hw.bool]
      exact ⟨_, _, rfl, rfl, q⟩
    · cases h
  case IsNot =>
    split at h
    · cases h
      refine ⟨_, op_notN, fun N H v w Q hv hw q => ⟨hw.none, ?_⟩⟩
      rw [non_iff hv]
      exact q
    · split at h
      case h_2 => cases h
      cases h
      refine ⟨_, op_isnot_bl, fun N H v w Q hv hw q => ?_⟩
      rw [hv.bool, hw.bool]
      exact ⟨_, _, rfl, rfl, q⟩
    · cases h
theorem tru_D {K : Fg} {N : AS} {H : Hp} {x : D} {v : V} {b : Bool} (q : TR K N H v x) (h : truD x = some b) : TruV K v H b := by
  unfold truD at h
  split at h
  · cases h; rw [q.none]; rfl
  · cases h; rw [q.bool]; rfl
  · cases h; rw [q.int]; rfl
  · split at h
    · rename_i hz
      cases h; rw [q.str]; exact ⟨by rw [← szL_eq]; exact hz, rfl⟩
    · cases h
  · cases h
    obtain ⟨a, vs, rfl, h1, h2⟩ := q.list
    refine .inl ⟨vs, .of h1, ?_⟩
    cases h2 <;> rfl
  · cases h
    obtain ⟨a, vs, rfl, h1, h2⟩ := q.tuple
    refine .inr (.inl ⟨vs, h1, ?_⟩)
    cases h2 <;> rfl
  · cases h
theorem bools_D {K : Fg} {N : AS} {H : Hp} : ∀ {ds : List D} {bs : List Bool} {vs : List V}, boolsD ds = some bs → DRs K N H vs ds → vs = bs.map V.bl
  | [], _, _, h, .nil => by cases h; rfl
  | d :: ds, bs, _, h, .cons a b => by
    cases d <;> simp only [boolsD] at h
    all_goals first
      | (cases h; done)
      | (cases e : boolsD ds with
         | none => rw [e] at h; cases h
         | some cs => rw [e] at h; cases h; rw [a.bool_inv, bools_D e b, List.map_cons])
theorem strs_D {K : Fg} {N : AS} {H : Hp} : ∀ {ds : List D} {bs : List Str} {vs : List V}, strsD ds = some bs → DRs K N H vs ds → vs = bs.map V.str
  | [], _, _, h, .nil => by cases h; rfl
  | d :: ds, bs, _, h, .cons a b => by
    cases d <;> simp only [strsD] at h
    all_goals first
      | (cases h; done)
      | (cases e : strsD ds with
         | none => rw [e] at h; cases h
         | some cs => rw [e] at h; cases h; rw [a.str_inv, strs_D e b, List.map_cons])
end
end DL
end
section
set_option Elab.async false
set_option linter.all false
set_option maxRecDepth 100000
set_option autoImplicit false
set_option maxHeartbeats 2000000
/-! DL, part f: built-ins, places, cuts by data. -/
namespace DL
open PySem PySem.Spec PyProof.Rows L2

section
variable {X : Cx}
/-- repr of data -/
theorem call_reprD (hg : X.A.guards = some []) (hu : X.A.units + 65 < cLine) : CallR X (.builtin "repr") (fun xs H Q => ∃ x d, xs = [x] ∧ Dp X.K H x d ∧ d.showable = true ∧ d.hasDict = false ∧ d.depth ≤ 60 ∧ d.shown.length ≤ sizeLine ∧ Q (.str d.shown) H) := by
  intro pins s σ H xs us Q I r h
  obtain ⟨x, d, rfl, dp, hs, hd, hz, hl, q⟩ := h
  obtain ⟨u, rfl, ru⟩ := vals1 r
  obtain ⟨as, rd⟩ := Dp.reads I d x u dp ru
  have fin : ∀ tk t', EP X pins σ Q (.str d.shown t') { s with toks := tk } := fun tk t' => ⟨.str d.shown, H, I.tok tk, ⟨_, rfl⟩, q⟩
  cases dp with
  | non => cases ru; exact PySem.P.repr_of_none (by simpa only [PyData.shown] using fin _ _)
  | bl b => cases ru; exact PySem.P.repr_of_bool (by simpa only [PyData.shown] using fin _ _)
  | int i =>
    obtain ⟨t, rfl⟩ := ru
    exact PySem.P.repr_of_int (by simpa [PyData.showable] using hs) (by simpa only [PyData.shown] using fin _ _)
  | str y =>
    obtain ⟨t, rfl⟩ := ru
    exact PySem.P.repr_of_str (by simpa only [PyData.shown] using fin _ _) (by simpa only [PyData.shown] using hl)
  | lst _ _ =>
    cases ru
    exact repr_of_reads' rd hs (by rw [hd]; exact fun z => by cases z) hg (by omega) (fun _ _ e => e) (fun h' u tk hk => ⟨.str _, H, I.kept hk, ⟨_, rfl⟩, q⟩) hl
  | tup _ _ =>
    cases ru
    exact repr_of_reads' rd hs (by rw [hd]; exact fun z => by cases z) hg (by omega) (fun _ _ e => e) (fun h' u tk hk => ⟨.str _, H, I.kept hk, ⟨_, rfl⟩, q⟩) hl

def biName : Bi → Str
  | .len => "len" | .int => "int" | .repr => "repr" | .list => "list" | .tuple => "tuple" | .all => "all" | .any => "any" | .min => "min" | .max => "max" | .sorted => "sorted" | .isin _ => "isinstance"
/-- the built-in called by the word -/
def biVal : Bi → Value
  | .len => .builtin "len" | .int => .type "int" | .repr => .builtin "repr" | .list => .type "list" | .tuple => .type "tuple" | .all => .builtin "all" | .any => .builtin "any" | .min => .builtin "min" | .max => .builtin "max" | .sorted => .builtin "sorted" | .isin _ => .builtin "isinstance"

theorem intsD_eq : ∀ {ds : List D} {ns : List Int}, intsD ds = some ns → ds = ns.map .int
  | [], ns, h => by cases h; rfl
  | .int i :: r, ns, h => by
    simp only [intsD] at h
    cases e : intsD r with
    | none => rw [e] at h; cases h
    | some ms => rw [e] at h; cases h; rw [intsD_eq e]; rfl
  | .none :: _, _, h => by cases h
  | .bool _ :: _, _, h => by cases h
  | .str _ :: _, _, h => by cases h
  | .list _ :: _, _, h => by cases h
  | .tuple _ :: _, _, h => by cases h
  | .dict _ :: _, _, h => by cases h
theorem tupsD_eq : ∀ {ds : List D} {L : List (List Int)}, tupsD ds = some L → ds = L.map tupD
  | [], L, h => by cases h; rfl
  | .tuple es :: r, L, h => by
    simp only [tupsD] at h
    cases e : intsD es with
    | none => rw [e] at h; cases h
    | some ns =>
      cases e2 : tupsD r with
      | none => rw [e, e2] at h; cases h
      | some M => rw [e, e2] at h; cases h; rw [intsD_eq e, tupsD_eq e2]; rfl
  | .int _ :: _, _, h => by cases h
  | .none :: _, _, h => by cases h
  | .bool _ :: _, _, h => by cases h
  | .str _ :: _, _, h => by cases h
  | .list _ :: _, _, h => by cases h
  | .dict _ :: _, _, h => by cases h
theorem signs_D {K : Fg} {N : AS} {H : Hp} : ∀ l : List Nat, DRs K N H (l.map fun c => V.str ⟨#[c]⟩) (l.map fun c => PyData.str ⟨#[c]⟩)
  | [] => .nil
  | _ :: l => .cons (.str _) (signs_D l)
theorem bi1_ok {b : Bi} {x : D} {r : R} (hb : ∀ t, b ≠ .isin t) (hc : X.calm = true) (hg : X.A.guards = some []) (hu : X.A.units + 65 < cLine) (h : bi1D b x = some r) :
    ∃ t : List V → Hp → VK → Prop, CallR X (biVal b) t ∧ ∀ (N : AS) (H : Hp) (v : V) (Q : VK), TR X.K N H v x → (∀ z H', Res X.K N H z H' r → Q z H') → t [v] H Q := by
  cases b
  case isin t => exact absurd rfl (hb t)
  case len =>
    cases x <;> simp only [bi1D] at h
    case str z =>
      split at h
      · rename_i hz
        cases h
        refine ⟨_, call_len_str, fun N H v Q hv q => ?_⟩
        rw [hv.str]
        exact ⟨_, rfl, by rw [← szL_eq]; exact hz, q _ _ (.same (.int _))⟩
      · cases h
    case list ds =>
      cases h
      refine ⟨_, call_len_seq, fun N H v Q hv q => ?_⟩
      obtain ⟨a, vs, rfl, h1, h2⟩ := hv.list
      exact ⟨_, _, rfl, .inl (.of h1), by rw [h2.length]; exact q _ _ (.same (.int _))⟩
    case tuple ds =>
      cases h
      refine ⟨_, call_len_seq, fun N H v Q hv q => ?_⟩
      obtain ⟨a, vs, rfl, h1, h2⟩ := hv.tuple
      exact ⟨_, _, rfl, .inr h1, by rw [h2.length]; exact q _ _ (.same (.int _))⟩
    all_goals cases h
  case int =>
    cases x <;> simp only [bi1D] at h
    case int i =>
      cases h
      exact ⟨_, call_int1, fun N H v Q hv q => by rw [hv.int]; exact .inl ⟨_, rfl, q _ _ (.same (.int _))⟩⟩
    case bool i =>
      cases h
      exact ⟨_, call_int1, fun N H v Q hv q => by rw [hv.bool]; exact .inr ⟨_, rfl, q _ _ (.same (.int _))⟩⟩
    all_goals cases h
  case repr =>
    have h' : (if x.showable = true ∧ x.hasDict = false ∧ x.depth ≤ 60 ∧ x.shown.length ≤ szL then some (R.d (.str x.shown)) else none) = some r := by
      cases x <;> exact h
    split at h'
    · rename_i hz
      cases h'
      exact ⟨_, call_reprD hg hu, fun N H v Q hv q => ⟨_, _, rfl, hv.dp, hz.1, hz.2.1, hz.2.2.1, by rw [← szL_eq]; exact hz.2.2.2, q _ _ (.same (.str _))⟩⟩
    · cases h'
  case list =>
    cases x <;> simp only [bi1D] at h
    case list ds =>
      cases h
      refine ⟨_, call_list_of, fun N H v Q hv q => ?_⟩
      obtain ⟨a, vs, rfl, h1, h2⟩ := hv.list
      exact ⟨_, _, rfl, .inl (.of h1), fun p hp => q _ _ (.lst hp h2)⟩
    case tuple ds =>
      cases h
      refine ⟨_, call_list_of, fun N H v Q hv q => ?_⟩
      obtain ⟨a, vs, rfl, h1, h2⟩ := hv.tuple
      exact ⟨_, _, rfl, .inr h1, fun p hp => q _ _ (.lst hp h2)⟩
    case str z =>
      split at h
      · rename_i hz
        cases h
        refine ⟨_, call_list_txt hc, fun N H v Q hv q => ?_⟩
        rw [hv.str]
        exact ⟨_, rfl, by rw [← szL_eq]; exact hz, fun p hp => q _ _ (.lst hp (signs_D z.cps.toList))⟩
      · cases h
    all_goals cases h
  case tuple =>
    cases x <;> simp only [bi1D] at h
    case list ds =>
      cases h
      refine ⟨_, call_tuple_of, fun N H v Q hv q => ?_⟩
      obtain ⟨a, vs, rfl, h1, h2⟩ := hv.list
      exact ⟨_, _, rfl, .inl ⟨.of h1, fun p hp => q _ _ (.tup hp h2)⟩⟩
    case tuple ds =>
      cases h
      refine ⟨_, call_tuple_of, fun N H v Q hv q => ?_⟩
      have hd := hv.tupD
      obtain ⟨a, vs, rfl, h1, h2⟩ := hv.tuple
      exact ⟨_, _, rfl, .inr ⟨h1, q _ _ (.same hd)⟩⟩
    all_goals cases h
  case all =>
    cases x <;> simp only [bi1D] at h
    case list ds =>
      cases e : boolsD ds with
      | none => rw [e] at h; cases h
      | some bs =>
        rw [e] at h
        cases h
        refine ⟨_, cr_all hc, fun N H v Q hv q => ?_⟩
        obtain ⟨a, vs, rfl, h1, h2⟩ := hv.list
        rw [bools_D e h2] at h1
        exact ⟨_, _, rfl, .of h1, q _ _ (.same (.bl _))⟩
    all_goals cases h
  case any =>
    cases x <;> simp only [bi1D] at h
    case list ds =>
      cases e : boolsD ds with
      | none => rw [e] at h; cases h
      | some bs =>
        rw [e] at h
        cases h
        refine ⟨_, cr_any hc, fun N H v Q hv q => ?_⟩
        obtain ⟨a, vs, rfl, h1, h2⟩ := hv.list
        rw [bools_D e h2] at h1
        exact ⟨_, _, rfl, .of h1, q _ _ (.same (.bl _))⟩
    all_goals cases h
  case sorted =>
    cases x <;> simp only [bi1D] at h
    case list ds =>
      cases e : tupsD ds with
      | none => rw [e] at h; cases h
      | some L =>
        cases L with
        | nil => rw [e] at h; cases h
        | cons l L =>
          cases l with
          | cons _ _ => rw [e] at h; cases h
          | nil =>
            rw [e] at h
            cases h
            refine ⟨_, cr_sortD hu, fun N H v Q hv q => ?_⟩
            obtain ⟨a, vs, rfl, h1, h2⟩ := hv.list
            rw [tupsD_eq e] at h2
            exact ⟨a, N, vs, L, rfl, .of h1, h2, fun ys p hd hp => q _ _ (.lst hp hd)⟩
    all_goals cases h
  case min => cases x <;> (simp only [bi1D] at h; cases h)
  case max => cases x <;> (simp only [bi1D] at h; cases h)
/-- isinstance -/
def tyD : D → String
  | .none => "NoneType" | .bool _ => "bool" | .int _ => "int" | .str _ => "str" | .list _ => "list" | .tuple _ => "tuple" | .dict _ => "dict"
theorem isin_kit {t : String} {x : D} {b : Bool} (h : isinD t x = some b) : kitB (tyD x) t = some b := by
  cases x <;> simp only [isinD] at h <;> simp only [tyD]
  all_goals first
    | (cases h; done)
    | (split at h
       · rename_i ht
         cases h
         first
           | (rcases ht with rfl | rfl | rfl | rfl | rfl <;> decide +kernel)
           | (rcases ht with rfl | rfl <;> decide +kernel)
           | (subst ht; decide +kernel)
       · first
         | (cases h; done)
         | (split at h
            · rename_i ht
              cases h
              first
                | (rcases ht with rfl | rfl | rfl | rfl <;> decide +kernel)
                | (rcases ht with rfl | rfl | rfl <;> decide +kernel)
            · cases h))
theorem TR.tyx {K : Fg} {N : AS} {H : Hp} {v : V} {x : D} (q : TR K N H v x) : TyX K H v (.type (tyD x)) := by
  cases x with
  | none => rw [q.none]; exact .base .non
  | bool b => rw [q.bool]; exact .base (.bl b)
  | int b => rw [q.int]; exact .base (.int b)
  | str b => rw [q.str]; exact .base (.str b)
  | list ds => obtain ⟨a, vs, rfl, h1, _⟩ := q.list; exact .base (.lst h1)
  | tuple ds =>
    obtain ⟨a, vs, rfl, h1, _⟩ := q.tuple
    rcases h1 with (h1 | ⟨o, h1⟩) | ⟨o, its, n, h1, h2, _⟩
    · exact .base (.tup h1)
    · exact .fTuple h1
    · exact .kTuple h1 h2
  | dict ds => exact q.dict.elim
theorem bi2_ok {b : Bi} {x y : D} {r : R} (hc : X.calm = true) (h : bi2D b x y = some r) :
    ∃ t : List V → Hp → VK → Prop, CallR X (biVal b) t ∧ ∀ (N : AS) (H : Hp) (v w : V) (Q : VK), TR X.K N H v x → TR X.K N H w y → (∀ z H', Res X.K N H z H' r → Q z H') → t [v, w] H Q := by
  unfold bi2D at h
  split at h
  · cases h
    exact ⟨_, call_min2 hc, fun N H v w Q hv hw q => by rw [hv.int, hw.int]; exact ⟨_, _, rfl, q _ _ (.same (.int _))⟩⟩
  · cases h
    exact ⟨_, call_max2 hc, fun N H v w Q hv hw q => by rw [hv.int, hw.int]; exact ⟨_, _, rfl, q _ _ (.same (.int _))⟩⟩
  · cases h
theorem atI_D {K : Fg} {N : AS} {H : Hp} {ds : List D} {vs : List V} {i : Int} {d : D} (q : DRs K N H vs ds) (h : atI ds i = some d) : ∃ v, atI vs i = some v ∧ DR K N H v d := by
  unfold atI at h ⊢
  rw [q.length]
  cases e : ixN ds.length i with
  | none => rw [e] at h; cases h
  | some j => rw [e] at h; exact q.get h
theorem idx_ok {x y d : D} (h : idxD x y = some d) : ∃ t : R2, IxR X t ∧
    ∀ (N : AS) (H : Hp) (v w : V) (Q : VK), TR X.K N H v x → TR X.K N H w y → (∀ z, DR X.K N H z d → Q z H) → t v w H Q := by
  unfold idxD at h
  split at h
  · refine ⟨_, ix_list, fun N H v w Q hv hw q => ?_⟩
    obtain ⟨a, vs, rfl, h1, h2⟩ := hv.list
    obtain ⟨z, h3, h4⟩ := atI_D h2 h
    rw [hw.int]
    exact ⟨_, _, _, _, rfl, rfl, .of h1, h3, q _ h4⟩
  · refine ⟨_, ix_tup, fun N H v w Q hv hw q => ?_⟩
    obtain ⟨a, vs, rfl, h1, h2⟩ := hv.tuple
    obtain ⟨z, h3, h4⟩ := atI_D h2 h
    rw [hw.int]
    exact ⟨_, _, _, _, rfl, rfl, h1, h3, q _ h4⟩
  · split at h
    · rename_i z i hz
      cases e : atI z.cps.toList i with
      | none => rw [e] at h; cases h
      | some c =>
        rw [e] at h
        cases h
        refine ⟨_, ix_str, fun N H v w Q hv hw q => ?_⟩
        rw [hv.str, hw.int]
        exact ⟨_, _, _, rfl, rfl, by rw [← szL_eq]; exact hz, e, q _ (.str _)⟩
    · cases h
  · cases h
theorem cutV_D {K : Fg} {N : AS} {H : Hp} {ds : List D} {vs : List V} {lo hi : Option Int} (q : DRs K N H vs ds) : DRs K N H (cutV vs lo hi) (cutD ds lo hi) := by
  unfold cutV cutD
  rw [q.length]
  exact (q.drop _).take _
theorem slc_ok {x : D} {lo hi : Option Int} {r : R} (h : slcD x lo hi = some r) : ∃ t, SlR X t ∧
    ∀ (N : AS) (H : Hp) (v : V) (Q : VK), TR X.K N H v x → (∀ z H', Res X.K N H z H' r → Q z H') → t v lo hi H Q := by
  unfold slcD at h
  split at h
  · cases h
    refine ⟨_, sl_list, fun N H v Q hv q => ?_⟩
    obtain ⟨a, vs, rfl, h1, h2⟩ := hv.list
    exact ⟨_, _, rfl, .of h1, fun p hp => q _ _ (.lst hp (cutV_D h2))⟩
  · rename_i ds
    cases h
    refine ⟨_, sl_tupA, fun N H v Q hv q => ?_⟩
    have hd := hv.tupD
    obtain ⟨a, vs, rfl, h1, h2⟩ := hv.tuple
    refine ⟨_, _, rfl, h1, fun e => ?_, fun _ p hp => q _ _ (.tup hp (cutV_D h2))⟩
    refine q _ _ (.same ?_)
    have e2 : cutD ds lo hi = ds := by
      unfold cutD
      rw [← h2.length, e.1, e.2, List.drop_zero, Nat.sub_zero, h2.length, List.take_length]
    rw [e2]
    exact hd
  · split at h
    · rename_i z hz
      cases h
      refine ⟨_, sl_str, fun N H v Q hv q => ?_⟩
      rw [hv.str]
      exact ⟨_, rfl, by rw [← szL_eq]; exact hz, q _ _ (.same (.str _))⟩
    · cases h
  · cases h
end
end DL
end
section
set_option Elab.async false
set_option linter.all false
set_option maxRecDepth 100000
set_option autoImplicit false
set_option maxHeartbeats 2000000
/-! DL, part g: which written text a word of the small language stands for. -/
namespace DL
open PySem PySem.Spec PyProof.Rows L2

structure Ct where
  N : List Str
  sc : Scope
structure Pgm where
  fns : List FnD
  cs : List (Str × D)
  tabs : List (List Str)

def visB (sc : Scope) (x : Str) : Bool := match sc.names.lookup x with
  | some .local => true | some .cell => true | some .free => true | _ => false
def locB (sc : Scope) (x : Str) : Bool := match sc.names.lookup x with
  | some .local => true | some .cell => true | _ => false
def lclB (sc : Scope) (x : Str) : Bool := match sc.names.lookup x with
  | some .local => true | _ => false
def glB (sc : Scope) (x : Str) : Bool := match sc.names.lookup x with
  | some .globalImplicit => true | _ => false
def okN (x : Str) : Bool := !(x == ("__debug__" : Str)) && !(x == ("__classdict__" : Str)) && !(x == ("__name__" : Str))
def notStar : Expr → Bool
  | .Starred .. => false
  | _ => true
def notSlice : Expr → Bool
  | .Slice .. => false
  | _ => true
def notSet : Expr → Bool
  | .Set .. => false
  | _ => true
def notGen : Expr → Bool
  | .GeneratorExp .. => false
  | .Starred .. => false
  | _ => true
def plainBase : Expr → Bool
  | .Call .. => false
  | _ => true
/-- a test that is its value's truth -/
def plainTest : Expr → Bool
  | .UnaryOp .Not _ _ => false
  | .BoolOp .. => false
  | .IfExp .. => false
  | .Compare .. => false
  | _ => true
def chkEs (f : Expr → IE → Bool) : List Expr → List IE → Bool
  | [], [] => true
  | e :: es, i :: is => notStar e && f e i && chkEs f es is
  | _, _ => false
def chkO (f : Expr → IE → Bool) : Option Expr → Option IE → Bool
  | none, none => true
  | some e, some i => f e i
  | _, _ => false
def isAndB : BoolOp → Bool
  | .And => true
  | .Or => false
def chkC : Const → D → Bool
  | .int i, .int j => i == j
  | .bool a, .bool b => a == b
  | .none, .none => true
  | .str x, .str y => x == y
  | _, _ => false
def scalD : D → Bool
  | .int _ | .str _ | .bool _ | .none => true
  | _ => false
def chkCs (cs : List (Str × D)) (x : Str) (d : D) : Bool := match cs.lookup x, d with
  | some (.int i), .int j => i == j
  | some (.str i), .str j => i == j
  | _, _ => false
/-- targets -/
def chkNm (c : Ct) : List Expr → List Nat → Bool
  | [], [] => true
  | .Name x _ :: es, i :: is => decide (c.N[i]? = some x) && locB c.sc x && chkNm c es is
  | _, _ => false
def chkTg (c : Ct) (e : Expr) (t : Tg) : Bool := match t with
  | .one i => (match e with | .Name x _ => decide (c.N[i]? = some x) && locB c.sc x | _ => false)
  | .many is => (match e with | .Tuple es _ _ => chkNm c es is | _ => false)
def isTup : Expr → Bool
  | .Tuple .. => true
  | _ => false
/-- what is walked -/
def chkIt (f : Expr → IE → Bool) (c : Ct) (tg : Expr) (ik : Ik) (its : List IE) (e : Expr) : Bool :=
  notSet e && (match ik with
  | .seq => (match its with | [i] => f e i | _ => false)
  | .rng => (match e with | .Call (.Name x _) args [] _ => x == ("range" : Str) && glB c.sc x && chkEs f args its | _ => false)
  | .enu => isTup tg && (match e with | .Call (.Name x _) args [] _ => x == ("enumerate" : Str) && glB c.sc x && its.length == 1 && chkEs f args its | _ => false)
  | .zip => isTup tg && (match e with | .Call (.Name x _) args [] _ => x == ("zip" : Str) && glB c.sc x && its.length == 2 && chkEs f args its | _ => false))
def nmOf (N : List Str) (own : List Nat) : List (Str × Nat) := own.map fun i => ((N[i]?).getD "", i)
/-- the block of a generator expression over one name, with free names that the def holds in cells -/
def genB (sc scope : Scope) (x y : Str) : Bool :=
  scope.kind == .function && !scope.isCoroutine && scope.names.all (fun n => !(n.2 == .cell)) && scope.names.lookup (".0" : Str) == some .local && scope.names.lookup x == some .local &&
  scope.names.all (fun n => !(n.2 == .free) || sc.names.lookup n.1 == some .cell) && scope.names.lookup y == some .free && sc.names.lookup y == some .cell
def isNm : Expr → Bool
  | .Name .. => true
  | _ => false
def chkE (p : Pgm) : Nat → Ct → Expr → IE → Bool
  | 0, _, _, _ => false
  | n + 1, c, e, ir =>
    match e with
    | .BoolOp op vs pos => match vs with
      | [y] => chkE p n c y ir
      | x :: y :: rest => (match ir with
        | .bop isAnd a b => isAndB op == isAnd && chkE p n c x a && chkE p n c (.BoolOp op (y :: rest) pos) b
        | _ => false)
      | _ => false
    | .Name x _ => (match ir with
      | .slot i => decide (c.N[i]? = some x) && visB c.sc x && okN x
      | .cst d => chkCs p.cs x d && glB c.sc x && okN x
      | _ => false)
    | .Constant k _ _ => (match ir with | .cst d => chkC k d | _ => false)
    | .Tuple xs _ _ => (match ir with | .tup es => decide (es.length ≤ 1000) && chkEs (chkE p n c) xs es | _ => false)
    | .List xs _ => (match ir with | .lst es => decide (es.length ≤ 1000) && chkEs (chkE p n c) xs es | _ => false)
    | .BinOp x op y _ => (match ir with | .bin op' a b => decide (op = op') && chkE p n c x a && chkE p n c y b | _ => false)
    | .UnaryOp op x _ => (match ir with
      | .neg a => (match op with | .USub => chkE p n c x a | _ => false)
      | .notE a => (match op with | .Not => chkE p n c x a | _ => false)
      | _ => false)
    | .Compare x ops ys _ => (match ir with
      | .cmp op a b => (match ops, ys with
        | [o], [y] => decide (o = op) && notSet y && chkE p n c x a && chkE p n c y b
        | _, _ => false)
      | .chn op op' a b d => (match ops, ys with
        | [o, o'], [y, z] => decide (o = op) && decide (o' = op') && notSet y && notSet z && chkE p n c x a && chkE p n c y b && chkE p n c z d
        | _, _ => false)
      | _ => false)
    | .IfExp t x y _ => (match ir with | .ife it a b => chkE p n c t it && chkE p n c x a && chkE p n c y b | _ => false)
    | .Subscript x y _ => (match ir with
      | .idx a i => notSlice y && chkE p n c x a && chkE p n c y i
      | .slc a lo hi => (match y with
        | .Slice l h st _ => (match st with | none => chkE p n c x a && chkO (chkE p n c) l lo && chkO (chkE p n c) h hi | some _ => false)
        | _ => false)
      | .rev a => (match y with
        | .Slice none none (some (.UnaryOp .USub (.Constant (.int j) _ _) _)) _ => decide (j = 1) && chkE p n c x a
        | _ => false)
      | _ => false)
    | .Call f args kws pos => (match kws with
      | _ :: _ => false
      | [] => (match f with
        | .Name x _ => glB c.sc x && okN x && (match ir with
          | .call k es => (match p.fns[k]? with | some fd => fd.name == x && !args.isEmpty && chkEs (chkE p n c) args es | none => false)
          | .bi1 b a => x == biName b && (match b with
            | .isin t => (match args with
              | [y, .Name z _] => z == Str.ofString t && glB c.sc z && okN z && notStar y && chkE p n c y a && (t == "int" || t == "bool" || t == "str" || t == "list" || t == "tuple")
              | _ => false)
            | _ => chkEs (chkE p n c) args [a])
          | .bi2 b a d => x == biName b && (b == .min || b == .max) && chkEs (chkE p n c) args [a, d]
          | .allG (.slot j) i it => x == ("all" : Str) && decide (c.N ∈ p.tabs) && (match args with
            | [.GeneratorExp (.Compare (.Name u _) [.In] [.Name y _] _) [⟨.Name sx _, iter, [], 0⟩] scope _] => u == sx && decide (c.N[j]? = some y) && genB c.sc scope sx y && okN sx && okN y && isNm iter && chkE p n c iter it
            | _ => false)
          | .rngL t es => x == (if t then ("tuple" : Str) else "list") && (match args with
            | [.Call (.Name z _) ys [] _] => z == ("range" : Str) && glB c.sc z && okN z && decide (1 ≤ es.length) && decide (es.length ≤ 2) && chkEs (chkE p n c) ys es
            | _ => false)
          | _ => false)
        | .Attribute o m apos => plainBase o && apos.endLine == pos.line && (match ir with
          | .idxS a b => m == ("index" : Str) && chkE p n c o a && chkEs (chkE p n c) args [b]
          | .join a b => m == ("join" : Str) && chkE p n c o a && chkEs (chkE p n c) args [b]
          | _ => false)
        | _ => false))
    | .ListComp elt gs scope _ => (match ir with
      | .lc ielt tg ik its cond own => (match gs with
        | [⟨t, it, ifs, 0⟩] => blkC c.N c.sc scope (nmOf c.N own) && chkTg ⟨c.N, scope⟩ t tg && chkIt (chkE p n c) c t ik its it &&
            (match ifs, cond with
              | [], none => true
              | [q], some iq => chkE p n ⟨c.N, relS scope c.sc⟩ q iq
              | _, _ => false) && chkE p n ⟨c.N, relS scope c.sc⟩ elt ielt && (match tg with | .one i => own == [i] | .many is => own == is)
        | _ => false)
      | _ => false)
    | _ => false
end DL
end
section
set_option Elab.async false
set_option linter.all false
set_option maxRecDepth 100000
set_option autoImplicit false
set_option maxHeartbeats 4000000
/-! DL, part g0: all(.. for sign in text) whose test reads a name of the def around it. -/
namespace DL
open PySem PySem.Spec PyProof.Rows L2 GxR
/-- the test of a sign, in a block that knows the def's cells as they stand in s0 -/
def SignT (X : Cx) (scope : Scope) (x : Str) (test : Expr) (f : Nat → Bool) (s0 : Shared) : Prop :=
  ∀ (be : Env) (B : Around) (EE : Value → Shared → Prop) (ch : Nat) (tk : Tok) (u : Shared) (mm : Str → Option Value),
    be.scope = scope → be.cells = cloFrom X.env.cells scope.names [] → u.heap.Ns be.locals mm → mm x = some (.str ⟨#[ch]⟩ tk) →
    (∀ (a : Addr) (val : Option Value), s0.heap.IsCell a val → u.heap.IsCell a val) →
    wpAny (model X.prog X.w) B (eval test be) (fun r u' => r = .bool (f ch) ∧ Keeps u u') EE u
section
variable {X : Cx} {pins : List (Addr × Obj)} {σ : L2.St} {H : Hp} {s : Shared}
theorem gen_cap {c P : Addr} {test iter : Expr} {x : Str} {px gp : Pos} {scope : Scope} {te : TE} {k : Nat} {Z : Value → Shared → Prop} {R : Str → (Nat → Bool) → Hp → Prop}
    (room : Room k X.A) (tab : TabB X.base X.mg c P) (code : X.env.code = .ref c) (own : GenS X.env scope x) (pit : PE X iter te) (nofold : ∀ v, genFold iter X.env v = pure v) (I : Inv X pins σ H s)
    (h : te σ H fun v H1 => ∃ a : Str, v = .str a ∧ TabG H1 P ∧ ∃ f : Nat → Bool, (∀ pins s1, Inv X pins σ H1 s1 → SignT X scope x test f s1) ∧ R a f H1)
    (out : ∀ a f H1 g s5, R a f H1 → Ready X pins σ H1 P a f g s5 → Z (.ref g) s5) :
    wpAny (model X.prog X.w) X.A (eval (.GeneratorExp test [⟨.Name x px, iter, [], 0⟩] scope gp) X.env) Z X.xe s := by
  refine wpAny_GeneratorExp_walksQ room.hd own.co (closure_ok own.free) own.cell own.dot own.loc own.kind (by have := room.dp; omega) ?_ nofold
  refine wpAny_mono (pit.run pins s σ H _ I h) ?_ fun _ _ e => e
  rintro xv s1 ⟨v, H1, J, rv, a, rfl, ⟨ps, tabH, trip⟩, f, sf, rr⟩
  obtain ⟨tk0, rfl⟩ := _root_.id rv
  have sign := sf pins s1 J
  refine wpAny_pyIter_str fun itO St W start => ?_
  have tabS : s1.heap.get? P = some { cls := .none, data := .fields ps } := J.hok P _ tabH
  have ltP : P < s1.heap.objs.size := Heap.lt_size tabS
  have tabS2 : (s1.heap.push itO).get? P = some { cls := .none, data := .fields ps } := Heap.get?_push_of_some _ tabS
  have head : PySem.W.CodeHd (s1.heap.push itO) c P := tab.code.keeps fun b u e => Heap.get?_push_of_some _ (J.bk b u e)
  have lim := J.nolimit.push itO
  have onward : ∀ (cv : Value) (h3 : Heap) (tk : Nat) (qs : Array Value), Heap.ExtBut P (s1.heap.push itO) h3 → (s1.heap.push itO).objs.size ≤ h3.objs.size → h3.get? P = some { cls := .none, data := .fields qs } → (∃ more, qs = ps ++ more) → TriplesOk qs.toList →
      wpAny (model X.prog X.w) X.A (builtinsFor X.env.globals X.env.builtins) (fun bl v =>
        ∃ walked foot wrote count at0 st0 pass give, Value.ref s1.heap.objs.size = .ref walked ∧ (∀ B : Around, B.handled = none → Walks X.prog X.w B walked foot wrote count at0 st0) ∧ st0 0 v.heap ∧ (∀ b ∈ foot, b < v.heap.objs.size) ∧ v.heap.NoLimit ∧ cStatics ∉ wrote ∧
          (∀ hr : Heap, (∀ b o, v.heap.get? b = some o → hr.get? b = some o) → QuietGen X.prog X.w (genEnv scope (cloFrom X.env.cells scope.names []) v.heap.objs.size cv bl X.env) x [] test (List.range v.heap.objs.size) wrote at0 pass give hr) ∧
          (∀ ga hh tz gg, gg.bare = true → v.heap.objs.size < ga → hh.objs.size = ga + 1 → (∀ b o, v.heap.get? b = some o → hh.get? b = some o) →
            WalksS X.prog X.w X.A.in4 ga (ga :: v.heap.objs.size :: List.range v.heap.objs.size) (v.heap.objs.size :: wrote) (GenOnlyQ v.gens.size) (passing pass count 0).length
              (fun j y => ∃ i, (passing pass count 0)[j]? = some i ∧ give i y) (GenAt X.prog X.w X.A.in4 ga v.gens.size v.heap.objs.size (List.range v.heap.objs.size) wrote pass count give) →
            GenAt X.prog X.w X.A.in4 ga v.gens.size v.heap.objs.size (List.range v.heap.objs.size) wrote pass count give 0 { v with gens := v.gens.push gg, toks := tz, heap := hh } →
            Z (.ref ga) { v with gens := v.gens.push gg, toks := tz, heap := hh })) X.xe { s1 with heap := h3, toks := tk } := by
    intro cv h3 tk qs but grown tab3 longer trip3
    obtain ⟨bm, ob, b1, b2, b3, b4, b5, b6, b7, b8⟩ := tab.bm
    have statP : cStatics ≠ P := by
      obtain ⟨_, ⟨o', es, ep, q1, q2, _⟩, _⟩ := J.nolimit
      rintro rfl
      rw [tabS] at q1
      cases q1
      cases q2
    have statL : cStatics < s1.heap.objs.size := by
      obtain ⟨_, q, _⟩ := J.nolimit
      exact q.lt
    have pushed : (s1.heap.push itO).objs.size = s1.heap.objs.size + 1 := Heap.size_push ..
    have stays : ∀ b u, b ≠ P → s1.heap.get? b = some u → h3.get? b = some u := fun b u nb e => but b u nb (Heap.get?_push_of_some _ e)
    refine wpAny_builtinsFor (m := X.mg) (by rw [J.ok.glob]; exact ((J.mod.glob.keeps J.bk).push itO).extBut but tab.gP) b1 b2 (stays _ _ b4 (J.bk _ _ b5)) b6 b7 b8 ?_
    refine ⟨s1.heap.objs.size, [s1.heap.objs.size], [s1.heap.objs.size], a.cps.size, SignAt a, St, (fun _ => true), (fun i y => ∃ cc, a.cps[i]? = some cc ∧ y = .bool (f cc)), rfl, W, ?start, ?below, lim.extBut but statP, ?stat, ?quiet, ?last⟩
    case start =>
      refine (W X.A room.hd).frame _ _ _ start fun b hb u e => but b u ?_ e
      cases List.mem_singleton.mp hb
      exact (Nat.ne_of_lt ltP).symm
    case below =>
      intro b hb
      cases List.mem_singleton.mp hb
      show s1.heap.objs.size < h3.objs.size
      omega
    case stat =>
      intro z
      exact Nat.ne_of_lt statL (List.mem_singleton.mp z)
    case quiet =>
      intro hr keep
      constructor
      · intro B EE i v u mm _ _ _ _ _
        simp only [List.forIn_nil]
        exact wpAny_pure ⟨rfl, keeps_refl _⟩
      · intro B EE i v u mm _ at_ _ ns look kept
        obtain ⟨cc, tk', ec, rfl⟩ := at_
        refine wpAny_mono (sign _ B EE cc tk' u mm rfl rfl ns look fun b val hc => ?_) (fun y u' r => ⟨⟨cc, ec, r.1⟩, r.2⟩) fun _ _ e => e
        obtain ⟨o, g1, g2⟩ := hc
        have bP : b ≠ P := by
          rintro rfl
          rw [tabS] at g1
          cases g1
          cases g2
        have g3 := stays b o bP g1
        exact ⟨o, kept b (List.mem_range.mpr (Heap.lt_size g3)) (fun z => Nat.ne_of_lt (Heap.lt_size g1) (List.mem_singleton.mp z)) o (keep b o g3), g2⟩
    case last =>
      intro g h5 tk5 gs bare after size5 keep5 W5 at5
      simp only [GxR.passing_true, List.length_range] at W5
      refine out a f H1 g _ rr ⟨_, _, _, _, _, W5.in4_1, at5, fun j y sj Qj Ej hy hQj => ?_, fun s' mv => ?_⟩
      · obtain ⟨i, hij, cc, hcc, rfl⟩ := hy
        obtain ⟨_, ej⟩ := List.getElem?_eq_some_iff.mp hij
        rw [List.getElem_range] at ej
        subst ej
        have sg : a.cps.toList[j]? = some cc := by rw [Array.getElem?_toList]; exact hcc
        have hj : Qj (trF f a.cps.toList j) sj := hQj
        rw [trF_some sg] at hj
        exact wpAny_truthy_bool hj
      · obtain ⟨more, rfl⟩ := longer
        have nw : ∀ b u, s1.heap.get? b = some u → b ∉ h3.objs.size :: [s1.heap.objs.size] := fun b u e z => by
          have lt := Heap.lt_size e
          rcases List.mem_cons.mp z with z | z
          · have : b < s1.heap.objs.size := lt
            rw [z] at this
            have : (h3.objs.size : Nat) < s1.heap.objs.size := this
            omega
          · exact Nat.ne_of_lt lt (List.mem_singleton.mp z)
        have J5 := inv_tab (more := more) (h' := s'.heap) (g' := s'.gens) (d' := s'.drawn) (t' := s'.toks) J tabH (fun b u nb e => mv.heap b u (nw b u e) (keep5 b u (stays b u nb e))) (mv.heap P _ (nw P _ tabS) (keep5 P _ tab3)) (AllBare.movedS (J.bare.push bare) mv)
        rw [sh_eta s1 s' mv.os] at J5
        exact ⟨_, ⟨⟨ps ++ more, upd_same, trip3⟩, fun b nb => upd_ne nb⟩, J5⟩
  refine ⟨lim, ?_⟩
  cases seen : codeAmong gp ps.toList with
  | none =>
    refine wpAny_genexprCodeX code (head.code tabS2 trip) (head.tab tabS2) seen fun c' h' tk e1 e2 e3 isC _ isT _ => ?_
    obtain ⟨o1, vs, f1, tf, fl, tg, inF, tx, tt, op, _, _, _, _, _, _, _, _, _, htr, _⟩ := isC
    exact onward _ h' tk _ e1 (Nat.le_trans e2 (Nat.le_of_lt e3)) isT.2 ⟨_, rfl⟩ htr
  | some cv =>
    refine wpAny_genexprCode_hit code (head.code tabS2 trip) seen ?_
    exact onward cv (s1.heap.push itO) s1.toks ps (Heap.ExtBut.refl _ _) (Nat.le_refl _) tabS2 ⟨#[], by simp⟩ trip
/-- all(test for x in e), e a text -/
def tAllC (X : Cx) (scope : Scope) (x : Str) (test : Expr) (P : Addr) (te : TE) : TE := fun σ H Q => te σ H fun v H1 => ∃ a : Str, v = .str a ∧ TabG H1 P ∧ ∃ f : Nat → Bool, (∀ pins s1, Inv X pins σ H1 s1 → SignT X scope x test f s1) ∧ ∀ H2, Tabbed P H1 H2 → Q (.bl (a.cps.toList.all f)) H2
theorem pe_allC {c P : Addr} {test iter : Expr} {x : Str} {px p pos gp : Pos} {scope : Scope} {te : TE} {k : Nat}
    (room : Room k X.A) (gl : Gl X "all") (mg : X.mg "all" = none) (tab : TabB X.base X.mg c P) (code : X.env.code = .ref c) (own : GenS X.env scope x) (pit : PE X iter te) (nofold : ∀ v, genFold iter X.env v = pure v) :
    PE X (.Call (.Name "all" p) [.GeneratorExp test [⟨.Name x px, iter, [], 0⟩] scope gp] [] pos) (tAllC X scope x test P te) := by
  have star : starEach [.GeneratorExp test [⟨.Name x px, iter, [], 0⟩] scope gp] X.env = (false, eval (.GeneratorExp test [⟨.Name x px, iter, [], 0⟩] scope gp) X.env) :: starEach [] X.env := rfl
  constructor
  intro pins s σ H Q I h
  refine wpAny_Call_Name_kw (ld_blt I gl mg (by rfl) ?_)
  refine PyProof.Rows.callWith_builtin1 ?_ star (by rfl)
  rw [star]
  show wpAny _ _ (spliced ((false, eval (.GeneratorExp test [⟨.Name x px, iter, [], 0⟩] scope gp) X.env) :: backTo pos (starEach [] X.env))) _ _ s
  refine Calls.spliced_cons (gen_cap (R := fun a f H1 => ∀ H2, Tabbed P H1 H2 → Q (.bl (a.cps.toList.all f)) H2) room tab code own pit nofold I h fun a f H1 g s5 hR hG => ?_)
  obtain ⟨fp, wr, G, F, St, W, hst, htr, hI⟩ := hG
  refine Calls.spliced_nil ?_
  refine call_all_walkS (W.self 0 _ _ _ hst ⟨g, fp, wr, G, _, F, St, _, rfl, W, hst, htr, fun s' mv => ?_⟩)
  obtain ⟨H2, hT, J⟩ := hI s' mv
  refine ⟨.bl _, H2, J, rfl, ?_⟩
  rw [all_signs a f]
  exact hR H2 hT
end
end DL
end
section
set_option Elab.async false
set_option linter.all false
set_option maxRecDepth 100000
set_option autoImplicit false
set_option maxHeartbeats 2000000
/-! DL, part h: expressions mean what the small language says. -/
namespace DL
open PySem PySem.Spec PyProof.Rows L2
variable [Tabs]

/-! ### the model's own words -/
def wE (X : Cx) (e : Expr) : TE := fun σ H Q => ∀ pins s, Inv X pins σ H s → wpAny (model X.prog X.w) X.A (eval e X.env) (EP X pins σ Q) X.xe s
def wT (X : Cx) (e : Expr) : TT := fun σ H Q => ∀ pins s, Inv X pins σ H s → wpAny (model X.prog X.w) X.A (isTrue e X.env (eval e X.env)) (TP X pins σ Q) X.xe s
def wA (X : Cx) (es : List Expr) : TA := fun σ H Q => ∀ pos pins s, Inv X pins σ H s → wpAny (model X.prog X.w) X.A (spliced (backTo pos (starEach es X.env))) (AP X pins σ Q) X.xe s
def wI (X : Cx) (tg iter : Expr) : TI := fun σ H R => ∀ pins s, Inv X pins σ H s →
  wpAny (model X.prog X.w) X.A (eval iter X.env) (fun v s1 => wpAny (model X.prog X.w) X.A (pyIter v) (PIE X pins σ tg R) X.xe s1) X.xe s
def wS (X : Cx) (st : Stmt) : TS := fun D σ H => ∀ pins s, Inv X pins σ H s → wpAny (model X.prog X.w) X.A (exec st X.env) (SP X pins D) X.xe s
def wSs (X : Cx) (st : List Stmt) : TS := fun D σ H => ∀ pins s, Inv X pins σ H s → wpAny (model X.prog X.w) X.A (execs st X.env) (SP X pins D) X.xe s
section
variable {X : Cx} {e tg : Expr} {es : List Expr} {st : Stmt} {sts : List Stmt} {σ : L2.St} {H : Hp}
theorem pe_w : PE X e (wE X e) := ⟨fun pins s _ _ _ I h => h pins s I⟩
theorem pt_w : PT X e (wT X e) := ⟨fun pins s _ _ _ I h => h pins s I⟩
theorem pa_w : PA X es (wA X es) := ⟨fun pos pins s _ _ _ I h => h pos pins s I⟩
theorem pi_w : PI X tg e (wI X tg e) := ⟨fun pins s _ _ _ I h => h pins s I⟩
theorem ps_w : PS X st (wS X st) := ⟨fun pins s _ _ _ I h => h pins s I⟩
theorem pss_w : PSs X sts (wSs X sts) := ⟨fun pins s _ _ _ I h => h pins s I⟩
theorem wE_of {t : TE} {Q : VK} (p : PE X e t) (h : t σ H Q) : wE X e σ H Q := fun pins s I => p.run pins s σ H Q I h
theorem wT_of {t : TT} {Q : Bool → Hp → Prop} (p : PT X e t) (h : t σ H Q) : wT X e σ H Q := fun pins s I => p.run pins s σ H Q I h
theorem wA_of {t : TA} {Q : List V → Hp → Prop} (p : PA X es t) (h : t σ H Q) : wA X es σ H Q := fun pos pins s I => p.run pos pins s σ H Q I h
theorem wI_of {t : TI} {R : It → Hp → Prop} (p : PI X tg e t) (h : t σ H R) : wI X tg e σ H R := fun pins s I => p.run pins s σ H R I h
theorem wS_of {t : TS} {D : Ends} (p : PS X st t) (h : t D σ H) : wS X st D σ H := fun pins s I => p.run pins s σ H D I h
theorem wSs_of {t : TS} {D : Ends} (p : PSs X sts t) (h : t D σ H) : wSs X sts D σ H := fun pins s I => p.run pins s σ H D I h
end

/-! ### what is to be shown of each word -/
def OKe (X : Cx) (e : Expr) (f : G → Option (R × G)) : Prop := ∀ g r g', f g = some (r, g') → ∀ pa T H0 σ H (Q : VK), Rel X.K pa T H0 σ H g →
  (∀ v H', PostE X.K pa T H0 σ H g v H' r g' → Q v H') → wE X e σ H Q
def OKt (X : Cx) (e : Expr) (f : G → Option (Bool × G)) : Prop := ∀ g b g', f g = some (b, g') → ∀ pa T H0 σ H (Q : Bool → Hp → Prop), Rel X.K pa T H0 σ H g →
  (∀ H', PostN X.K pa T H0 σ H g H' g' → Q b H') → wT X e σ H Q
def OKa (X : Cx) (es : List Expr) (f : G → Option (List D × G)) : Prop := ∀ g ds g', f g = some (ds, g') → ∀ pa T H0 σ H (Q : List V → Hp → Prop), Rel X.K pa T H0 σ H g →
  (∀ vs H', PostA X.K pa T H0 σ H g vs H' ds g' → Q vs H') → wA X es σ H Q
def OKr (X : Cx) (e : Expr) (f : G → Option (D × G)) : Prop := ∀ g x g', f g = some (x, g') → ∀ pa T H0 σ H (Q : VK), Rel X.K pa T H0 σ H g →
  (∀ v H', PostR X.K pa T H0 σ H g v H' x g' → Q v H') → wE X e σ H Q

/-- the built-ins that stand as they are -/
def bnames : List Str := ["len", "int", "repr", "list", "tuple", "all", "any", "min", "max", "isinstance", "range", "enumerate", "zip", "sorted", "set", "bool", "str"]
/-- the state at a call, for the callee: the pen's address, what the caller watches, the pen's content -/
structure ArgR (K : Fg) (pa : Addr) (T : AS) (H : Hp) (p : Option (List D)) (vs : List V) (as : List Sv) : Prop where
  a : Paired (fun v sv => match sv with
    | .d x => DR K (fun a => T a ∨ pm pa p a) H v x
    | .own _ => False
    | .scr ns => ∃ a, v = V.ref a ∧ ScR K (pm pa p) H a ns
    | .pen => v = .ref pa ∧ p.isSome = true) vs as
  pn : ∀ xs, p = some xs → ¬ T pa ∧ ∃ ws, H pa = some (.lst ws) ∧ DRs K (fun a => T a ∨ pm pa p a) H ws xs
  td : ∀ a, T a → ∃ o, H a = some o ∧ ∀ ps, o ≠ .tbl ps
  tb : TabsIn H
/-- .. and behind the call -/
structure PostC (K : Fg) (pa : Addr) (T : AS) (H : Hp) (p : Option (List D)) (v : V) (H' : Hp) (r : R) (p' : Option (List D)) : Prop where
  ext : Ext (pm pa p) H H'
  pen : p'.isSome = p.isSome
  pn : ∀ xs, p' = some xs → ∃ ws, H' pa = some (.lst ws) ∧ DRs K (fun a => T a ∨ pm pa p' a) H' ws xs
  vr : match r with
    | .d x => DR K (fun a => T a ∨ pm pa p' a) H' v x
    | .fr xs => ∃ q vs, v = .ref q ∧ H q = none ∧ H' q = some (.lst vs) ∧ DRs K (fun a => (T a ∨ pm pa p' a) ∨ a = q) H' vs xs ∧ (∀ ys, p' = some ys → q ≠ pa ∧ ∃ ws, H' pa = some (.lst ws) ∧ DRs K (fun a => (T a ∨ pm pa p' a) ∨ a = q) H' ws ys)
    | .bo _ _ => False
    | .scr ns => ∃ a, v = .ref a ∧ ScR K (pm pa p') H' a ns
    | .pen => v = .ref pa ∧ p'.isSome = true
def CallOk (P : Program) (w : World) (K : Fg) (mg : Str → Option Value) (base : Heap) (p : Pgm) (n : Nat) : Prop :=
  ∀ f as pen r pen', (ev p.fns n).c f as pen = some (r, pen') → ∀ fd, p.fns[f]? = some fd →
  ∃ a, mg fd.name = some (.ref a) ∧ PySem.W.keepIn K (.ref a) = true ∧ ∀ (A : Around) (outer : List Env) (s : Shared) (H : Hp) (us : List Value) (vs : List V) (Q : VK) (pa : Addr) (T : AS),
    Room n A → A.guards = some [] → Env0 P w K mg base A outer s H → Vals vs us → ArgR K pa T H pen vs as → (∀ v H', PostC K pa T H pen v H' r pen' → Q v H') →
    codeAny (model P w) A (.call (.ref a) ⟨us, []⟩) (CR CX0 outer P w H s Q E0) s

structure XO (P : Program) (w : World) (K : Fg) (mg : Str → Option Value) (base : Heap) (p : Pgm) (n : Nat) (X : Cx) (c : Ct) : Prop where
  eP : X.prog = P
  ew : X.w = w
  eK : X.K = K
  em : X.mg = mg
  eb : X.base = base
  room : Room n X.A
  gd : X.A.guards = some []
  calm : X.calm = true
  nd : X.N.Nodup
  cN : c.N = X.N
  cs : c.sc = X.env.scope
  kf : X.env.scope.kind = .function
  xe : X.xe = fun _ _ => False
  cd : c.N ∈ p.tabs → ∃ c P, X.env.code = .ref c ∧ (c, P) ∈ Tabs.l
  tbs : ∀ q, q ∈ Tabs.l → GxR.TabB base mg q.1 q.2
  bl : ∀ x, x ∈ bnames → mg x = none
  cst : ∀ x d, p.cs.lookup x = some d → scalD d = true → ∃ u, mg x = some u ∧ RelV (dV d) u

structure Snd (P : Program) (w : World) (K : Fg) (mg : Str → Option Value) (base : Heap) (p : Pgm) (n : Nat) : Prop where
  e : ∀ X c e ir m, XO P w K mg base p n X c → chkE p m c e ir = true → OKe X e ((ev p.fns n).e ir)
  t : ∀ X c e ir m, XO P w K mg base p n X c → chkE p m c e ir = true → OKt X e ((ev p.fns n).t ir)
  c : CallOk P w K mg base p n

section
variable {P : Program} {w : World} {K : Fg} {mg : Str → Option Value} {base : Heap} {p : Pgm} {n m : Nat} {X : Cx} {c : Ct} {e x y z : Expr} {es : List Expr} {E : Ev} {a b d : IE} {is : List IE} {pos : Pos}
theorem XO.le {n' : Nat} (O : XO P w K mg base p n X c) (h : n' ≤ n) : XO P w K mg base p n' X c :=
  { O with room := O.room.mono h }
theorem XO.hu (O : XO P w K mg base p n X c) : X.A.units + 65 < cLine := by have := O.room.un; omega
theorem XO.bln (O : XO P w K mg base p n X c) {s : Str} (h : s ∈ bnames) : X.mg s = none := by rw [O.em]; exact O.bl s h
theorem vis_of {sc : Scope} {s : Str} (h : visB sc s = true) : Vis sc s := by
  unfold visB at h
  unfold Vis
  split at h
  · exact .inl ‹_›
  · exact .inr (.inl ‹_›)
  · exact .inr (.inr ‹_›)
  · cases h
theorem loc_of {sc : Scope} {s : Str} (h : locB sc s = true) : L2.Loc sc s := by
  unfold locB at h
  unfold L2.Loc
  split at h
  · exact .inl ‹_›
  · exact .inr ‹_›
  · cases h
theorem gl_of (O : XO P w K mg base p n X c) {s : Str} (h : glB c.sc s = true) : Gl X s := by
  unfold glB at h
  rw [O.cs] at h
  split at h
  · rename_i q
    exact q
  · cases h
theorem okN_of {s : Str} (h : okN s = true) : (s == ("__debug__" : Str)) = false ∧ (s == ("__classdict__" : Str)) = false ∧ s ≠ "__name__" := by
  unfold okN at h
  simp only [Bool.and_eq_true, Bool.not_eq_true'] at h
  exact ⟨h.1.1, h.1.2, by intro q; rw [q] at h; simp at h⟩
theorem star_cons {env : Env} (h : notStar e = true) : starEach (e :: es) env = (false, eval e env) :: starEach es env := by
  cases e <;> first | rfl | cases h
theorem star_any {env : Env} : ∀ {es : List Expr} {is : List IE} {f : Expr → IE → Bool}, chkEs f es is = true → (backTo pos (starEach es env)).any (·.1) = false
  | [], [], _, _ => rfl
  | e :: es, i :: is, f, h => by
    simp only [chkEs, Bool.and_eq_true] at h
    rw [star_cons h.1.1]
    have ih := star_any (env := env) h.2
    unfold backTo at ih ⊢
    rw [List.map_cons, List.any_cons, ih]
    rfl
  | [], _ :: _, _, h => by cases h
  | _ :: _, [], _, h => by cases h
theorem chkEs_len : ∀ {es : List Expr} {is : List IE} {f : Expr → IE → Bool}, chkEs f es is = true → es.length = is.length
  | [], [], _, _ => rfl
  | e :: es, i :: is, f, h => by
    simp only [chkEs, Bool.and_eq_true] at h
    rw [List.length_cons, List.length_cons, chkEs_len h.2]
  | [], _ :: _, _, h => by cases h
  | _ :: _, [], _, h => by cases h

/-! ### reading one, reading two, arguments -/
theorem OKe.rd (h : OKe X e (E.e a)) : OKr X e (rd1 E a) := by
  intro g x g' q pa T H0 σ H Q r k
  unfold rd1 at q
  cases e1 : E.e a g with
  | none => rw [e1] at q; cases q
  | some rg =>
    obtain ⟨r1, g1⟩ := rg
    rw [e1] at q
    cases e2 : rdR r1 with
    | none => simp only [e2] at q; cases q
    | some y =>
      simp only [e2, Option.map_some, Option.some.injEq, Prod.mk.injEq] at q
      obtain ⟨rfl, rfl⟩ := q
      exact h g r1 g1 e1 pa T H0 σ H Q r fun v H' p => k v H' (p.rd e2)
/-- the two sides, then what follows -/
theorem OKe.two (h : OKe X x (E.e a)) (h2 : OKe X y (E.e b)) {g g' : G} {u v : D} (q : rd2 E a b g = some (u, v, g')) {pa : Addr} {T : AS} {H0 H : Hp} {σ : L2.St} {Q : V → V → Hp → Prop} (r : Rel X.K pa T H0 σ H g)
    (k : ∀ v1 v2 H', Post2 X.K pa T H0 σ H g v1 v2 H' u v g' → Q v1 v2 H') : wE X x σ H fun v1 H1 => wE X y σ H1 fun v2 H2 => Q v1 v2 H2 := by
  unfold rd2 at q
  cases e1 : E.e a g with
  | none => rw [e1] at q; cases q
  | some rg =>
    obtain ⟨r1, g1⟩ := rg
    simp only [e1] at q
    cases e2 : E.e b g1 with
    | none => simp only [e2] at q; cases q
    | some rg2 =>
      obtain ⟨r2, g2⟩ := rg2
      simp only [e2] at q
      split at q
      · rename_i u' v' e3 e4
        cases q
        refine h g r1 g1 e1 pa T H0 σ H _ r fun v1 H1 p1 => ?_
        refine h2 g1 r2 _ e2 pa _ H0 σ H1 _ p1.rel fun v2 H2 p2 => ?_
        exact k v1 v2 H2 (p1.two p2 e3 e4)
      · cases q
theorem ok_ds (h : ∀ e i, chkE p m c e i = true → OKe X e (E.e i)) : ∀ {es : List Expr} {is : List IE}, chkEs (chkE p m c) es is = true → OKa X es (evDs E is)
  | [], [], _ => by
    intro g ds g' q pa T H0 σ H Q r k
    cases q
    exact wA_of pa_nil (k [] H ⟨.refl _ _, r, .nil, rfl, fun _ z => z⟩)
  | e :: es, i :: is, hc => by
    simp only [chkEs, Bool.and_eq_true] at hc
    intro g ds g' q pa T H0 σ H Q r k
    unfold evDs at q
    cases e1 : E.e i g with
    | none => simp only [e1] at q; cases q
    | some rg =>
      obtain ⟨r1, g1⟩ := rg
      simp only [e1] at q
      cases e2 : keepR r1 g1 with
      | none => simp only [e2] at q; cases q
      | some dg =>
        obtain ⟨d, g2⟩ := dg
        simp only [e2] at q
        cases e3 : evDs E is g2 with
        | none => simp only [e3] at q; cases q
        | some dg3 =>
          obtain ⟨ds3, g3⟩ := dg3
          simp only [e3] at q
          cases q
          refine wA_of (pa_cons pe_w pa_w (star_cons hc.1.1)) ?_
          refine h e i hc.1.2 g r1 g1 e1 pa T H0 σ H _ r fun v H1 p1 => ?_
          have p2 := p1.keep e2
          refine ok_ds h hc.2 g2 ds3 _ e3 pa T H0 σ H1 _ p2.rel fun vs H2 p3 => ?_
          exact k _ _ (p2.cons p3)
  | [], _ :: _, hc => by cases hc
  | _ :: _, [], hc => by cases hc
end
end DL
end
section
set_option Elab.async false
set_option linter.all false
set_option maxRecDepth 100000
set_option autoImplicit false
set_option maxHeartbeats 2000000
/-! DL, part i: calls. -/
namespace DL
open PySem PySem.Spec PyProof.Rows L2
variable [Tabs]

/-- an argument as the callee has it -/
def SvA (K : Fg) (pa : Addr) (N : AS) (H : Hp) (pen : Option (List D)) (v : V) (sv : Sv) : Prop := match sv with
  | .d x => DR K N H v x
  | .own _ => False
  | .scr ns => ∃ a, v = V.ref a ∧ ScR K (pm pa pen) H a ns
  | .pen => v = .ref pa ∧ pen.isSome = true
structure PostS (K : Fg) (pa : Addr) (T : AS) (H0 : Hp) (σ : L2.St) (H : Hp) (g : G) (vs : List V) (H' : Hp) (as : List Sv) (g' : G) : Prop where
  ext : Ext (pm pa g.pen) H H'
  rel : Rel K pa T H0 σ H' g'
  ar : Paired (SvA K pa (Nv pa T σ g') H' g'.pen) vs as
  pen : g'.pen.isSome = g.pen.isSome
  sub : ∀ a, Nv pa T σ g' a → Nv pa T σ g a
def OKs (X : Cx) (es : List Expr) (f : G → Option (List Sv × G)) : Prop := ∀ g ds g', f g = some (ds, g') → ∀ pa T H0 σ H (Q : List V → Hp → Prop), Rel X.K pa T H0 σ H g →
  (∀ vs H', PostS X.K pa T H0 σ H g vs H' ds g' → Q vs H') → wA X es σ H Q
section
variable {K : Fg} {pa : Addr} {T : AS} {H0 H H1 H2 : Hp} {σ : L2.St} {g g1 g2 : G} {v : V} {vs : List V} {sv : Sv} {as : List Sv} {r : R} {p' : Option (List D)}
theorem SvA.move {N N' : AS} {p1 p2 : Option (List D)} (h : SvA K pa N H p1 v sv) (e : Ext (pm pa p1) H H1) (hm : ∀ a, pm pa p1 a → N a) (hs : ∀ a, N' a → N a) (hp : p2.isSome = p1.isSome) : SvA K pa N' H1 p2 v sv := by
  cases sv with
  | d x => exact (DR.ext e hm h).mono hs
  | own xs => exact h
  | scr ns =>
    obtain ⟨a, h1, h2⟩ := h
    exact ⟨a, h1, by rw [pm_eq hp]; exact h2.ext e⟩
  | pen => exact ⟨h.1, by rw [hp]; exact h.2⟩
theorem PostE.keepS (p : PostE K pa T H0 σ H g v H1 r g1) (h : keepS r g1 = some (sv, g2)) : Ext (pm pa g.pen) H H1 ∧ Rel K pa T H0 σ H1 g2 ∧ SvA K pa (Nv pa T σ g2) H1 g2.pen v sv ∧ g2.pen.isSome = g.pen.isSome ∧ ∀ a, Nv pa T σ g2 a → Nv pa T σ g a := by
  have keepd : ∀ {x : D}, keepR r g1 = some (x, g2) → sv = .d x → (Ext (pm pa g.pen) H H1 ∧ Rel K pa T H0 σ H1 g2 ∧ SvA K pa (Nv pa T σ g2) H1 g2.pen v sv ∧ g2.pen.isSome = g.pen.isSome ∧ ∀ a, Nv pa T σ g2 a → Nv pa T σ g a) := fun {x} hk e1 => by
    have q := p.keep hk
    subst e1
    exact ⟨q.ext, q.rel, q.dr, q.pen, q.sub⟩
  cases r with
  | pen => cases h; exact ⟨p.ext, p.rel, p.vr, p.pen, p.sub⟩
  | scr ns => cases h; exact ⟨p.ext, p.rel, p.vr, p.pen, p.sub⟩
  | d x => cases h; exact keepd rfl rfl
  | fr xs => cases h; exact keepd rfl rfl
  | bo i xs => cases h; exact keepd rfl rfl
/-- behind a call -/
theorem Rel.called (rl : Rel K pa T H0 σ H g) (pc : PostC K pa (fun a => T a ∨ ∃ i, Own σ g i a) H g.pen v H1 r p') : PostE K pa T H0 σ H g v H1 r { g with pen := p' } := by
  have epm : pm pa p' = pm pa g.pen := pm_eq pc.pen
  have hN : ∀ a, ((T a ∨ ∃ i, Own σ g i a) ∨ pm pa p' a) → Nv pa T σ g a := by
    rintro a ((z | z) | z)
    · exact .inl z
    · exact .inr (.inr z)
    · exact .inr (.inl (by rw [← epm]; exact z))
  have hN2 : ∀ a, Nv pa T σ { g with pen := p' } a → ((T a ∨ ∃ i, Own σ g i a) ∨ pm pa p' a) := by
    rintro a (z | z | z)
    · exact .inl (.inl z)
    · exact .inr z
    · exact .inl (.inr z)
  have sub : ∀ a, Nv pa T σ { g with pen := p' } a → Nv pa T σ g a := fun a z => hN a (hN2 a z)
  have hm : ∀ a, pm pa g.pen a → Nv pa T σ g a := fun a z => .inr (.inl z)
  -- the state where nothing new is watched
  have base : (∀ xs, p' = some xs → ∃ ws, H1 pa = some (.lst ws) ∧ DRs K (Nv pa T σ { g with pen := p' }) H1 ws xs) → Rel K pa T H0 σ H1 { g with pen := p' } := fun hpn => by
    refine ⟨rl.len, fun i sv e => ?_, rl.ap, fun xs e => ⟨fun z => ?_, hpn xs e⟩, fun a z => ?_, (rl.x0.trans pc.ext).mono fun a z => by show pm pa p' a; rw [epm]; exact z, rl.tb⟩
    · obtain ⟨u, e1, h⟩ := rl.sl i sv e
      refine ⟨u, e1, ?_⟩
      cases sv with
      | d x => exact (DR.ext pc.ext hm h).mono sub
      | own xs =>
        obtain ⟨a, ws, q1, q2, q3, q4, q5, q6⟩ := h
        exact ⟨a, ws, q1, pc.ext.k _ _ q2 q6 fun _ => nofun, (DRs.ext pc.ext hm q3).mono sub, q4, q5, by show ¬ pm pa p' a; rw [epm]; exact q6⟩
      | scr ns =>
        obtain ⟨a, h1, h2⟩ := h
        refine ⟨a, h1, ?_⟩
        show ScR K (pm pa p') H1 a ns
        rw [epm]
        exact h2.ext pc.ext
      | pen => exact ⟨h.1, by show p'.isSome = true; rw [pc.pen]; exact h.2⟩
    · have e' : p' = some xs := e
      have hs : g.pen.isSome = true := by rw [← pc.pen, e']; rfl
      obtain ⟨ys, ey⟩ := Option.isSome_iff_exists.mp hs
      exact (rl.pn ys ey).1 z
    · obtain ⟨o, q, nt⟩ := rl.td a z
      refine ⟨o, pc.ext.k a o q (fun hpm => ?_) nt, nt⟩
      obtain ⟨ys, ey⟩ := Option.isSome_iff_exists.mp hpm.1
      exact (rl.pn ys ey).1 (hpm.2 ▸ z)
  have plain := base fun xs e => by
    obtain ⟨ws, h1, h2⟩ := pc.pn xs e
    exact ⟨ws, h1, h2.mono hN2⟩
  have vr := pc.vr
  cases r with
  | d x => exact ⟨pc.ext, plain, DR.mono hN2 vr, pc.pen, sub⟩
  | bo i xs => exact vr.elim
  | scr ns => exact ⟨pc.ext, plain, vr, pc.pen, sub⟩
  | pen => exact ⟨pc.ext, plain, vr, pc.pen, sub⟩
  | fr xs =>
    obtain ⟨q, ws, rfl, hq, hq1, dq, hpen⟩ := vr
    have nT : ¬ T q := fun z => by
      obtain ⟨o, h, _⟩ := rl.td q z
      rw [hq] at h
      cases h
    refine ⟨pc.ext, ?_, ⟨q, ws, rfl, hq, hq1, dq.mono fun a z => z.imp (hN2 a) id, nT⟩, pc.pen, sub⟩
    show Rel K pa (fun a => T a ∨ V.ref q = .ref a) H0 σ H1 { g with pen := p' }
    have hn : ∀ a, Nv pa (fun a => T a ∨ V.ref q = .ref a) σ { g with pen := p' } a → Nv pa T σ g a ∨ a = q := by
      rintro a ((z | z) | z | z)
      · exact .inl (.inl z)
      · exact .inr (V.ref.inj z).symm
      · exact .inl (sub a (.inr (.inl z)))
      · exact .inl (sub a (.inr (.inr z)))
    have up : ∀ {v d}, DR K (Nv pa T σ g) H v d → DR K (Nv pa (fun a => T a ∨ V.ref q = .ref a) σ { g with pen := p' }) H1 v d := fun {v d} z =>
      (DR.ext (N := fun a => Nv pa T σ g a ∨ a = q) pc.ext (fun a z => .inl (hm a z)) (z.grow hq)).mono hn
    have ups : ∀ {v d}, DRs K (Nv pa T σ g) H v d → DRs K (Nv pa (fun a => T a ∨ V.ref q = .ref a) σ { g with pen := p' }) H1 v d := fun {v d} z =>
      (DRs.ext (N := fun a => Nv pa T σ g a ∨ a = q) pc.ext (fun a z => .inl (hm a z)) (z.grow hq)).mono hn
    refine ⟨plain.len, fun i sv e => ?_, plain.ap, fun xs e => ?_, fun a z => ?_, plain.x0, plain.tb⟩
    · obtain ⟨u, e1, h⟩ := rl.sl i sv e
      obtain ⟨u', e1', h'⟩ := plain.sl i sv e
      rw [e1] at e1'
      cases e1'
      refine ⟨u, e1, ?_⟩
      cases sv with
      | d x => exact up h
      | own ys =>
        obtain ⟨a, ws', q1, q2, q3, q4, q5, q6⟩ := h
        obtain ⟨b, us, r1, r2, r3, r4, r5, r6⟩ := h'
        rw [q1] at r1
        cases r1
        refine ⟨a, ws', q1, pc.ext.k _ _ q2 q6 fun _ => nofun, ups q3, q4, fun z => z.elim q5 fun z => ?_, r6⟩
        rw [V.ref.inj z, q2] at hq
        cases hq
      | scr ns => exact h'
      | pen => exact h'
    · obtain ⟨f1, ws', f2, f3⟩ := hpen xs e
      refine ⟨fun z => z.elim (plain.pn xs e).1 fun z => f1 (V.ref.inj z), ws', f2, f3.mono ?_⟩
      rintro a ((z | z) | z | z)
      · exact .inl (.inl (.inl z))
      · exact .inr (V.ref.inj z).symm
      · exact .inl (.inr z)
      · exact .inl (.inl (.inr z))
    · rcases z with z | z
      · exact plain.td a z
      · rw [← V.ref.inj z]
        exact ⟨_, hq1, fun _ => nofun⟩
/-- the arguments, seen by the callee -/
theorem PostS.args (ps : PostS K pa T H0 σ H g vs H1 as g1) : ArgR K pa (fun a => T a ∨ ∃ i, Own σ g1 i a) H1 g1.pen vs as := by
  have hN : ∀ a, ((T a ∨ ∃ i, Own σ g1 i a) ∨ pm pa g1.pen a) → Nv pa T σ g1 a := by
    rintro a ((z | z) | z)
    · exact .inl z
    · exact .inr (.inr z)
    · exact .inr (.inl z)
  have go : ∀ {vs as}, Paired (SvA K pa (Nv pa T σ g1) H1 g1.pen) vs as → Paired (fun v sv => match sv with
    | .d x => DR K (fun a => (T a ∨ ∃ i, Own σ g1 i a) ∨ pm pa g1.pen a) H1 v x
    | .own _ => False
    | .scr ns => ∃ a, v = V.ref a ∧ ScR K (pm pa g1.pen) H1 a ns
    | .pen => v = .ref pa ∧ g1.pen.isSome = true) vs as := fun {vs as} h => Paired.mapP h fun v sv q => by
      cases sv with
      | d x => exact DR.mono hN q
      | own _ => exact q
      | scr _ => exact q
      | pen => exact q
  refine ⟨go ps.ar, fun xs e => ?_, fun a z => ?_, ps.rel.tab⟩
  · obtain ⟨h1, ws, h2, h3⟩ := ps.rel.pn xs e
    refine ⟨fun z => z.elim h1 fun ⟨i, ys, z1, z2⟩ => ?_, ws, h2, h3.mono hN⟩
    obtain ⟨a, us, q1, _, _, _, _, q6⟩ := ps.rel.own z1
    rw [z2] at q1
    cases q1
    exact q6 ⟨by rw [e]; rfl, rfl⟩
  · rcases z with z | ⟨i, ys, z1, z2⟩
    · exact ps.rel.td a z
    · obtain ⟨b, us, q1, q2, _⟩ := ps.rel.own z1
      rw [z2] at q1
      cases q1
      exact ⟨_, q2, fun _ => nofun⟩
end
section
variable {P : Program} {w : World} {K : Fg} {mg : Str → Option Value} {base : Heap} {p : Pgm} {n m : Nat} {X : Cx} {c : Ct} {E : Ev}
theorem ok_as (h : ∀ e i, chkE p m c e i = true → OKe X e (E.e i)) : ∀ {es : List Expr} {is : List IE}, chkEs (chkE p m c) es is = true → OKs X es (evAs E is)
  | [], [], _ => by
    intro g ds g' q pa T H0 σ H Q r k
    cases q
    exact wA_of pa_nil (k [] H ⟨.refl _ _, r, .nil, rfl, fun _ z => z⟩)
  | e :: es, i :: is, hc => by
    simp only [chkEs, Bool.and_eq_true] at hc
    intro g ds g' q pa T H0 σ H Q r k
    unfold evAs at q
    cases e1 : E.e i g with
    | none => simp only [e1] at q; cases q
    | some rg =>
      obtain ⟨r1, g1⟩ := rg
      simp only [e1] at q
      cases e2 : keepS r1 g1 with
      | none => simp only [e2] at q; cases q
      | some dg =>
        obtain ⟨d, g2⟩ := dg
        simp only [e2] at q
        cases e3 : evAs E is g2 with
        | none => simp only [e3] at q; cases q
        | some dg3 =>
          obtain ⟨ds3, g3⟩ := dg3
          simp only [e3] at q
          simp only [Option.some.injEq, Prod.mk.injEq] at q
          obtain ⟨rfl, rfl⟩ := q
          refine wA_of (pa_cons pe_w pa_w (star_cons hc.1.1)) ?_
          refine h e i hc.1.2 g r1 g1 e1 pa T H0 σ H _ r fun v H1 p1 => ?_
          obtain ⟨f1, f2, f3, f4, f5⟩ := p1.keepS e2
          refine ok_as h hc.2 g2 ds3 g3 e3 pa T H0 σ H1 _ f2 fun vs H2 p3 => ?_
          have ep : pm pa g2.pen = pm pa g.pen := pm_eq f4
          refine k _ _ ⟨f1.trans (p3.ext.mono fun a z => by rw [← ep]; exact z), p3.rel, .cons ?_ p3.ar, p3.pen.trans f4, fun a z => f5 a (p3.sub a z)⟩
          exact f3.move p3.ext (fun a z => .inr (.inl z)) p3.sub p3.pen
  | [], _ :: _, hc => by cases hc
  | _ :: _, [], hc => by cases hc
/-- f(..) of the text -/
theorem ok_call (O : XO P w K mg base p (n + 1) X c) (C : CallOk P w K mg base p n) (h : ∀ e i, chkE p m c e i = true → OKe X e ((ev p.fns n).e i)) {x : Str} {px pos : Pos} {args : List Expr} {k : Nat} {is : List IE} {fd : FnD}
    (hf : p.fns[k]? = some fd) (hx : fd.name = x) (hg : glB c.sc x = true) (hn : okN x = true) (hne : args.isEmpty = false) (hc : chkEs (chkE p m c) args is = true) :
    OKe X (.Call (.Name x px) args [] pos) (stE (ev p.fns n) (.call k is)) := by
  intro g r g' q pa T H0 σ H Q rl kk
  simp only [stE] at q
  cases e1 : evAs (ev p.fns n) is g with
  | none => simp only [e1] at q; cases q
  | some ag =>
    obtain ⟨as, g1⟩ := ag
    simp only [e1] at q
    cases e2 : (ev p.fns n).c k as g1.pen with
    | none => simp only [e2] at q; cases q
    | some rp =>
      obtain ⟨r2, p2⟩ := rp
      simp only [e2, Option.map_some, Option.some.injEq, Prod.mk.injEq] at q
      obtain ⟨rfl, rfl⟩ := q
      obtain ⟨a, hmg, hkeep, run⟩ := C k as g1.pen _ p2 e2 fd hf
      obtain ⟨hn1, _, _⟩ := okN_of hn
      cases args with
      | nil => cases hne
      | cons e0 es0 =>
        cases is with
        | nil => cases hc
        | cons i0 is0 =>
          have hc' := hc
          simp only [chkEs, Bool.and_eq_true] at hc'
          intro pins s I
          refine wpAny_Call_Name_kw (ld_glob I (gl_of O hg) (u := .ref a) (by rw [O.em, ← hx]; exact hmg) ?_ hn1)
          refine PySem.W.callWith_K (h₀ := X.base) I.ok.mod.kin (by rw [O.eK]; exact hkeep) (thn (ok_as h hc g as g1 e1 pa T H0 σ H (fun vs H1 => PostS X.K pa T H0 σ H g vs H1 as g1) rl (fun _ _ z => z) pos pins s I) fun us s1 ⟨vs, H1, I1, rv, ps⟩ => ⟨I1.kIn, ?_⟩) (star_cons hc'.1.1) (star_any hc'.2)
          refine wpAny_call (codeAny_mono (?_ : codeAny (model X.prog X.w) X.A (.call (.ref a) ⟨us, []⟩) (CR CX0 X.stack X.prog X.w H1 s1 Q E0) s1) fun fr s' hq => ?_)
          · have e0 := I1.env0
            have room : Room n X.A := O.room.mono (Nat.le_succ n)
            have pargs := ps.args
            have post : ∀ v H', PostC X.K pa (fun a => T a ∨ ∃ i, Own σ g1 i a) H1 g1.pen v H' _ p2 → Q v H' := fun v H' pc => by
              have pe := ps.rel.called pc
              exact kk v H' (PostN.thenE ⟨ps.ext, ps.rel, ps.pen, ps.sub⟩ pe)
            have hh := run X.A X.stack s1 H1 us vs Q pa (fun a => T a ∨ ∃ i, Own σ g1 i a) room O.gd (by rw [← O.eP, ← O.ew, ← O.eK, ← O.em, ← O.eb]; exact e0) rv (by rw [← O.eK]; exact pargs) (by rw [← O.eK]; exact post)
            rw [O.eP, O.ew]
            exact hh
          · cases fr with
            | error e => exact hq.elim
            | ok fl =>
              cases fl with
              | ret u => exact I1.after hq
              | next => exact hq.elim
              | brk => exact hq.elim
              | cont => exact hq.elim
end
end DL
end
section
set_option Elab.async false
set_option linter.all false
set_option maxRecDepth 100000
set_option autoImplicit false
set_option maxHeartbeats 2000000
/-! DL, part j: the plain words. -/
namespace DL
open PySem PySem.Spec PyProof.Rows L2
variable [Tabs]
section
variable {P : Program} {w : World} {K : Fg} {mg : Str → Option Value} {base : Heap} {p : Pgm} {n m : Nat} {X : Cx} {c : Ct} {E : Ev} {x y z : Expr} {a b d : IE} {es : List Expr} {is : List IE} {pos : Pos}

theorem ok_slot (O : XO P w K mg base p n X c) {s : Str} {i : Nat} (h1 : c.N[i]? = some s) (h2 : visB c.sc s = true) (h3 : okN s = true) : OKe X (.Name s pos) (stE E (.slot i)) := by
  intro g r g' q pa T H0 σ H Q rl k
  obtain ⟨n1, n2, _⟩ := okN_of h3
  have pv : PE X (.Name s pos) (tVar i) := pe_var (by rw [← O.cN]; exact h1) (by rw [← O.cs]; exact vis_of h2) n1 n2
  have rest : ∀ {v r}, σ[i]? = some (some v) → ownT T v r = T → VR X.K pa T σ H H g v r → (∀ v H', PostE X.K pa T H0 σ H g v H' r g → Q v H') → wE X (.Name s pos) σ H Q := fun {v r} e ht hv kk =>
    wE_of pv ⟨v, e, kk v H ⟨.refl _ _, by rw [ht]; exact rl, hv, rfl, fun _ z => z⟩⟩
  cases e : g.env[i]? with
  | none => simp only [stE, e] at q; cases q
  | some o =>
    cases o with
    | none => simp only [stE, e] at q; cases q
    | some sv =>
      obtain ⟨v, e1, hv⟩ := rl.sl i sv e
      cases sv with
      | d x => simp only [stE, e] at q; cases q; exact rest (r := .d x) e1 rfl hv k
      | own xs =>
        simp only [stE, e] at q
        cases q
        obtain ⟨a, vs, rfl, _⟩ := hv
        exact rest (r := .bo i xs) e1 rfl ⟨a, rfl, e1, e⟩ k
      | scr ns => simp only [stE, e] at q; cases q; exact rest (r := .scr ns) e1 rfl hv k
      | pen =>
        simp only [stE, e] at q
        by_cases hp : g.pen.isSome = true
        · rw [if_pos hp] at q
          cases q
          exact rest (r := .pen) e1 rfl hv k
        · rw [if_neg hp] at q
          cases q
theorem PostE.flat {K : Fg} {pa : Addr} {T : AS} {H0 H : Hp} {σ : L2.St} {g : G} {v : V} {x : D} (rl : Rel K pa T H0 σ H g) (h : DR K (Nv pa T σ g) H v x) : PostE K pa T H0 σ H g v H (.d x) g :=
  ⟨.refl _ _, rl, h, rfl, fun _ z => z⟩
theorem dv_flat {K : Fg} {N : AS} {H : Hp} {x : D} (h : scalD x = true) : DR K N H (dV x) x := by
  cases x <;> first | exact .non | exact .bl _ | exact .int _ | exact .str _ | cases h
theorem ok_const {k : Const} {j : Nat} {x : D} (h : chkC k x = true) : OKe X (.Constant k j pos) (stE E (.cst x)) := by
  intro g r g' q pa T H0 σ H Q rl kk
  cases q
  unfold chkC at h
  split at h
  · obtain rfl := eq_of_beq h
    exact wE_of pe_int (kk _ _ (.flat rl (.int _)))
  · obtain rfl := eq_of_beq h
    exact wE_of pe_bl (kk _ _ (.flat rl (.bl _)))
  · exact wE_of pe_non (kk _ _ (.flat rl .non))
  · obtain rfl := eq_of_beq h
    exact wE_of pe_str (kk _ _ (.flat rl (.str _)))
  · cases h
theorem ok_glob (O : XO P w K mg base p n X c) {s : Str} {x : D} (h : chkCs p.cs s x = true) (hg : glB c.sc s = true) (hn : okN s = true) : OKe X (.Name s pos) (stE E (.cst x)) := by
  intro g r g' q pa T H0 σ H Q rl kk
  cases q
  obtain ⟨n1, _, _⟩ := okN_of hn
  have hs : p.cs.lookup s = some x ∧ scalD x = true := by
    unfold chkCs at h
    split at h
    · rename_i e1
      obtain rfl := eq_of_beq h
      exact ⟨e1, rfl⟩
    · rename_i e1
      obtain rfl := eq_of_beq h
      exact ⟨e1, rfl⟩
    · cases h
  obtain ⟨u, hm, hr⟩ := O.cst s x hs.1 hs.2
  exact wE_of (pe_glob (gl_of O hg) (by rw [O.em]; exact hm) hr n1) (kk _ _ (.flat rl (dv_flat hs.2)))
theorem small_sz {k : Nat} (h : k ≤ 1000) : k ≤ sizeLine := by rw [sizeLine_eq]; omega
theorem ok_tup (h : OKa X es (evDs E is)) (hl : is.length ≤ 1000) (he : es.length = is.length) (hds : ∀ g ds g', evDs E is g = some (ds, g') → ds.length = is.length) {k : Nat} : OKe X (.Tuple es k pos) (stE E (.tup is)) := by
  intro g r g' q pa T H0 σ H Q rl kk
  simp only [stE] at q
  cases e1 : evDs E is g with
  | none => simp only [e1] at q; cases q
  | some dg =>
    obtain ⟨ds, g1⟩ := dg
    simp only [e1, Option.map_some, Option.some.injEq, Prod.mk.injEq] at q
    obtain ⟨rfl, rfl⟩ := q
    refine wE_of (pe_tup pa_w) (h g ds g1 e1 pa T H0 σ H _ rl fun vs H1 p1 => ⟨?_, fun q hq => ?_⟩)
    · rw [p1.dr.length, hds g ds g1 e1]
      exact small_sz hl
    · exact kk _ _ (p1.n.res (.tup hq p1.dr))
theorem ok_lst (h : OKa X es (evDs E is)) (hl : is.length ≤ 1000) (hds : ∀ g ds g', evDs E is g = some (ds, g') → ds.length = is.length) : OKe X (.List es pos) (stE E (.lst is)) := by
  intro g r g' q pa T H0 σ H Q rl kk
  simp only [stE] at q
  cases e1 : evDs E is g with
  | none => simp only [e1] at q; cases q
  | some dg =>
    obtain ⟨ds, g1⟩ := dg
    simp only [e1, Option.map_some, Option.some.injEq, Prod.mk.injEq] at q
    obtain ⟨rfl, rfl⟩ := q
    refine wE_of (pe_lst pa_w) (h g ds g1 e1 pa T H0 σ H _ rl fun vs H1 p1 => ⟨?_, fun q hq => ?_⟩)
    · rw [p1.dr.length, hds g ds g1 e1]
      exact small_sz hl
    · exact kk _ _ (p1.n.res (.lst hq p1.dr))
theorem evDs_len : ∀ {is : List IE} (g : G) (ds : List D) (g' : G), evDs E is g = some (ds, g') → ds.length = is.length
  | [], g, ds, g', q => by cases q; rfl
  | i :: is, g, ds, g', q => by
    unfold evDs at q
    cases e1 : E.e i g with
    | none => simp only [e1] at q; cases q
    | some rg =>
      obtain ⟨r1, g1⟩ := rg
      simp only [e1] at q
      cases e2 : keepR r1 g1 with
      | none => simp only [e2] at q; cases q
      | some dg =>
        obtain ⟨d, g2⟩ := dg
        simp only [e2] at q
        cases e3 : evDs E is g2 with
        | none => simp only [e3] at q; cases q
        | some dg3 =>
          obtain ⟨ds3, g3⟩ := dg3
          simp only [e3, Option.some.injEq, Prod.mk.injEq] at q
          obtain ⟨rfl, rfl⟩ := q
          rw [List.length_cons, List.length_cons, evDs_len g2 ds3 g3 e3]
theorem ok_bin (h1 : OKe X x (E.e a)) (h2 : OKe X y (E.e b)) {op : Operator} : OKe X (.BinOp x op y pos) (stE E (.bin op a b)) := by
  intro g r g' q pa T H0 σ H Q rl kk
  simp only [stE] at q
  cases e1 : rd2 E a b g with
  | none => simp only [e1] at q; cases q
  | some t =>
    obtain ⟨u, v, g1⟩ := t
    simp only [e1] at q
    cases e2 : binD op u v with
    | none => simp only [e2] at q; cases q
    | some r1 =>
      simp only [e2, Option.map_some, Option.some.injEq, Prod.mk.injEq] at q
      obtain ⟨rfl, rfl⟩ := q
      obtain ⟨t, ht, go⟩ := bin_ok (X := X) e2
      exact wE_of (pe_op ht pe_w pe_w) (OKe.two h1 h2 e1 rl fun v1 v2 H' p2 => go _ _ _ _ _ p2.tr p2.tr2 fun z H2 hz => kk z H2 (p2.n.res hz))
theorem ok_neg (h1 : OKe X x (E.e a)) : OKe X (.UnaryOp .USub x pos) (stE E (.neg a)) := by
  intro g r g' q pa T H0 σ H Q rl kk
  simp only [stE] at q
  cases e1 : rd1 E a g with
  | none => simp only [e1] at q; cases q
  | some t =>
    obtain ⟨u, g1⟩ := t
    simp only [e1] at q
    cases u with
    | int i =>
      cases q
      exact wE_of (pe_un un_neg pe_w) (OKe.rd h1 g _ g' e1 pa T H0 σ H _ rl fun v H1 p1 => ⟨i, p1.tr.int, kk _ _ (p1.n.res (.same (.int _)))⟩)
    | _ => cases q
theorem ok_notE (h1 : OKe X x (E.e a)) : OKe X (.UnaryOp .Not x pos) (stE E (.notE a)) := by
  intro g r g' q pa T H0 σ H Q rl kk
  simp only [stE] at q
  cases e1 : rd1 E a g with
  | none => simp only [e1] at q; cases q
  | some t =>
    obtain ⟨u, g1⟩ := t
    simp only [e1] at q
    cases u with
    | bool i =>
      cases q
      exact wE_of (pe_not pe_w) (OKe.rd h1 g _ g' e1 pa T H0 σ H _ rl fun v H1 p1 => ⟨i, p1.tr.bool, kk _ _ (p1.n.res (.same (.bl _)))⟩)
    | _ => cases q
theorem ok_bop {op : BoolOp} {isAnd : Bool} {rest : List Expr} (ho : isAndB op = isAnd) (h1 : OKe X x (E.e a)) (h2 : OKe X (.BoolOp op (y :: rest) pos) (E.e b)) : OKe X (.BoolOp op (x :: y :: rest) pos) (stE E (.bop isAnd a b)) := by
  intro g r g' q pa T H0 σ H Q rl kk
  simp only [stE] at q
  cases e1 : rd1 E a g with
  | none => simp only [e1] at q; cases q
  | some t =>
    obtain ⟨u, g1⟩ := t
    simp only [e1] at q
    cases u with
    | bool cc =>
      simp only at q
      subst ho
      cases op with
      | And =>
        refine wE_of (pe_and pe_w pe_w) (OKe.rd h1 g _ _ e1 pa T H0 σ H _ rl fun v H1 p1 => ⟨cc, p1.tr.bool, ?_⟩)
        cases cc with
        | true => exact iteT (h2 g1 r g' q pa T H0 σ H1 Q p1.rel fun v2 H2 p2 => kk _ _ (p1.n.thenE p2))
        | false => cases q; exact iteF (kk _ _ (p1.n.res (.same (.bl _))))
      | Or =>
        refine wE_of (pe_or pe_w pe_w) (OKe.rd h1 g _ _ e1 pa T H0 σ H _ rl fun v H1 p1 => ⟨cc, p1.tr.bool, ?_⟩)
        cases cc with
        | false => exact iteF (h2 g1 r g' q pa T H0 σ H1 Q p1.rel fun v2 H2 p2 => kk _ _ (p1.n.thenE p2))
        | true => cases q; exact iteT (kk _ _ (p1.n.res (.same (.bl _))))
    | _ => cases q
theorem marks {op : CmpOp} (h : notSet y = true) : behindInMarks op y = false := by
  cases y <;> first | rfl | cases h
theorem ok_cmp (O : XO P w K mg base p n X c) (hs : notSet y = true) (h1 : OKe X x (E.e a)) (h2 : OKe X y (E.e b)) {op : CmpOp} : OKe X (.Compare x [op] [y] pos) (stE E (.cmp op a b)) := by
  intro g r g' q pa T H0 σ H Q rl kk
  simp only [stE] at q
  cases e1 : rd2 E a b g with
  | none => simp only [e1] at q; cases q
  | some t =>
    obtain ⟨u, v, g1⟩ := t
    simp only [e1] at q
    cases e2 : cmpD op u v with
    | none => simp only [e2] at q; cases q
    | some r1 =>
      simp only [e2, Option.map_some, Option.some.injEq, Prod.mk.injEq] at q
      obtain ⟨rfl, rfl⟩ := q
      obtain ⟨t, ht, go⟩ := cmp_ok (X := X) O.hu e2
      exact wE_of (pe_cmpR ht pe_w pe_w (marks hs)) (OKe.two h1 h2 e1 rl fun v1 v2 H' p2 => go _ _ _ _ _ p2.tr p2.tr2 (kk _ _ (p2.n.res (.same (.bl _)))))
/-- the same as a test -/
theorem okt_cmp (O : XO P w K mg base p n X c) (hs : notSet y = true) (h1 : OKe X x (E.e a)) (h2 : OKe X y (E.e b)) {op : CmpOp} {g g' : G} {r : Bool}
    (q : stE E (.cmp op a b) g = some (.d (.bool r), g')) {pa : Addr} {T : AS} {H0 H : Hp} {σ : L2.St} {Q : Bool → Hp → Prop} (rl : Rel X.K pa T H0 σ H g) (kk : ∀ H', PostN X.K pa T H0 σ H g H' g' → Q r H') : wT X (.Compare x [op] [y] pos) σ H Q := by
  simp only [stE] at q
  cases e1 : rd2 E a b g with
  | none => simp only [e1] at q; cases q
  | some t =>
    obtain ⟨u, v, g1⟩ := t
    simp only [e1] at q
    cases e2 : cmpD op u v with
    | none => simp only [e2] at q; cases q
    | some r1 =>
      simp only [e2, Option.map_some, Option.some.injEq, Prod.mk.injEq, R.d.injEq, PyData.bool.injEq] at q
      obtain ⟨rfl, rfl⟩ := q
      obtain ⟨t, ht, go⟩ := cmp_ok (X := X) O.hu e2
      exact wT_of (pt_cmpR ht pe_w pe_w (marks hs)) (OKe.two h1 h2 e1 rl fun v1 v2 H' p2 => go _ _ _ _ _ p2.tr p2.tr2 ⟨_, rfl, kk _ p2.n⟩)
theorem chain_ok (h1 : OKe X x (E.e a)) (h2 : OKe X y (E.e b)) (h3 : OKe X z (E.e d)) (hu : X.A.units + 65 < cLine) {op op' : CmpOp} {g g' : G} {r : R}
    (q : stE E (.chn op op' a b d) g = some (r, g')) : ∃ t t' : R2, ∃ rb : Bool, OpR X (compareOp op) t ∧ OpR X (compareOp op') t' ∧ r = .d (.bool rb) ∧
    ∀ {pa : Addr} {T : AS} {H0 H : Hp} {σ : L2.St} {Q : VK}, Rel X.K pa T H0 σ H g → (∀ H', PostN X.K pa T H0 σ H g H' g' → Q (.bl rb) H') → tChain t t' (wE X x) (wE X y) (wE X z) σ H Q := by
  simp only [stE] at q
  cases e1 : rd2 E a b g with
  | none => simp only [e1] at q; cases q
  | some t =>
    obtain ⟨u, v, g1⟩ := t
    cases v with
    | int j =>
      simp only [e1] at q
      cases e2 : cmpD op u (.int j) with
      | none => simp only [e2] at q; cases q
      | some r1 =>
        obtain ⟨t, ht, go⟩ := cmp_ok (X := X) hu e2
        cases r1 with
        | false =>
          simp only [e2] at q
          cases q
          refine ⟨t, fun _ _ _ _ => False, false, ht, fun _ _ _ _ _ _ _ _ _ _ _ _ h => h.elim, rfl, fun rl kk => ?_⟩
          exact OKe.two h1 h2 e1 rl fun v1 v2 H' p2 => go _ _ _ _ _ p2.tr p2.tr2 ⟨false, rfl, iteF (kk _ p2.n)⟩
        | true =>
          simp only [e2] at q
          cases e3 : rd1 E d g1 with
          | none => simp only [e3] at q; cases q
          | some t3 =>
            obtain ⟨zz, g2⟩ := t3
            simp only [e3] at q
            cases e4 : cmpD op' (.int j) zz with
            | none => simp only [e4] at q; cases q
            | some r2 =>
              simp only [e4, Option.map_some, Option.some.injEq, Prod.mk.injEq] at q
              obtain ⟨rfl, rfl⟩ := q
              obtain ⟨t', ht', go'⟩ := cmp_ok (X := X) hu e4
              refine ⟨t, t', r2, ht, ht', rfl, fun {pa T H0 H σ Q} rl kk => ?_⟩
              refine OKe.two h1 h2 e1 rl fun v1 v2 H' p2 => go _ _ _ _ _ p2.tr p2.tr2 ⟨true, rfl, iteT ?_⟩
              refine OKe.rd h3 g1 zz g2 e3 pa T H0 σ H' _ p2.rel fun v3 H3 p3 => ?_
              refine go' _ H3 v2 v3 Q ?_ p3.tr (kk _ (p2.n.then p3.n))
              rw [p2.tr2.int]
              exact .d (.int j)
    | _ => simp only [e1] at q; cases q
theorem marks2 {op op' : CmpOp} (h : notSet z = true) : lastMarks [op, op'] [y, z] = false := by
  cases z <;> first | rfl | cases h
theorem ok_chn (O : XO P w K mg base p n X c) (hs : notSet z = true) (h1 : OKe X x (E.e a)) (h2 : OKe X y (E.e b)) (h3 : OKe X z (E.e d)) {op op' : CmpOp} : OKe X (.Compare x [op, op'] [y, z] pos) (stE E (.chn op op' a b d)) := by
  intro g r g' q pa T H0 σ H Q rl kk
  obtain ⟨t, t', rb, ht, ht', rfl, go⟩ := chain_ok h1 h2 h3 O.hu q
  exact wE_of (pe_chain ht ht' pe_w pe_w pe_w (marks2 hs)) (go rl fun H' pn => kk _ _ (pn.res (.same (.bl _))))
theorem okt_chn (O : XO P w K mg base p n X c) (hs : notSet z = true) (h1 : OKe X x (E.e a)) (h2 : OKe X y (E.e b)) (h3 : OKe X z (E.e d)) {op op' : CmpOp} {g g' : G} {r : Bool}
    (q : stE E (.chn op op' a b d) g = some (.d (.bool r), g')) {pa : Addr} {T : AS} {H0 H : Hp} {σ : L2.St} {Q : Bool → Hp → Prop} (rl : Rel X.K pa T H0 σ H g) (kk : ∀ H', PostN X.K pa T H0 σ H g H' g' → Q r H') : wT X (.Compare x [op, op'] [y, z] pos) σ H Q := by
  obtain ⟨t, t', rb, ht, ht', e, go⟩ := chain_ok h1 h2 h3 O.hu q
  cases e
  exact wT_of (pt_chain ht ht' pe_w pe_w pe_w (marks2 hs)) (go rl fun H' pn => ⟨_, rfl, kk _ pn⟩)
theorem ok_ife (ht : OKt X z (E.t d)) (h1 : OKe X x (E.e a)) (h2 : OKe X y (E.e b)) : OKe X (.IfExp z x y pos) (stE E (.ife d a b)) := by
  intro g r g' q pa T H0 σ H Q rl kk
  simp only [stE] at q
  cases e1 : E.t d g with
  | none => simp only [e1] at q; cases q
  | some t =>
    obtain ⟨cc, g1⟩ := t
    refine wE_of (pe_ifExp pt_w pe_w pe_w) (ht g cc g1 e1 pa T H0 σ H _ rl fun H1 p1 => ?_)
    cases cc with
    | true => simp only [e1] at q; exact iteT (h1 g1 r g' q pa T H0 σ H1 Q p1.rel fun v2 H2 p2 => kk _ _ (p1.thenE p2))
    | false => simp only [e1] at q; exact iteF (h2 g1 r g' q pa T H0 σ H1 Q p1.rel fun v2 H2 p2 => kk _ _ (p1.thenE p2))
end
end DL
end
section
set_option Elab.async false
set_option linter.all false
set_option maxRecDepth 100000
set_option autoImplicit false
set_option maxHeartbeats 2000000
/-! DL, part k: built-ins, places, cuts, texts. -/
namespace DL
open PySem PySem.Spec PyProof.Rows L2
variable [Tabs]
section
variable {P : Program} {w : World} {K : Fg} {mg : Str → Option Value} {base : Heap} {p : Pgm} {n m : Nat} {X : Cx} {c : Ct} {E : Ev} {x y z : Expr} {a b d : IE} {es : List Expr} {is : List IE} {pos px : Pos}

theorem boot_isin : bootBuiltins "isinstance" = some (.builtin "isinstance") := by decide +kernel
theorem bi_boot (b : Bi) : bootBuiltins (biName b) = some (biVal b) := by
  cases b with
  | isin t => exact boot_isin
  | _ => decide +kernel
theorem mem_isin : ("isinstance" : Str) ∈ bnames := by decide
theorem bi_mem (b : Bi) : biName b ∈ bnames := by
  cases b with
  | isin t => exact mem_isin
  | _ => decide
/-- a call of a built-in with written arguments -/
theorem pe_bi {b : Bi} {s : Str} (O : XO P w K mg base p n X c) (hs : s = biName b) (hg : glB c.sc s = true) (hn : okN s = true) {t : List V → Hp → VK → Prop} (ht : CallR X (biVal b) t) {e : Expr} {es : List Expr} {ta : TA}
    (ha : PA X (e :: es) ta) (h1 : notStar e = true) (h2 : ∀ env : Env, (backTo pos (starEach es env)).any (·.1) = false) : PE X (.Call (.Name s px) (e :: es) [] pos) (tCB t ta) := by
  obtain ⟨n1, n2, n3⟩ := okN_of hn
  subst hs
  have hm := O.bln (bi_mem b)
  have hv := bi_boot b
  have gg := gl_of O hg
  have go : ∀ v, biVal b = v → (∃ id, v = .builtin id) ∨ ∃ T, v = .type T := fun v e => by cases b <;> subst e <;> first | exact .inl ⟨_, rfl⟩ | exact .inr ⟨_, rfl⟩
  rcases go _ rfl with ⟨id, e⟩ | ⟨T, e⟩
  · rw [e] at ht hv
    exact pe_callB ht gg hm hv ha n3 n1 (star_cons h1) (h2 _)
  · rw [e] at ht hv
    exact pe_callTy ht gg hm hv ha n3 n1 (star_cons h1) (h2 _)
theorem ok_bi1 (O : XO P w K mg base p n X c) {b : Bi} {s : Str} (hb : ∀ t, b ≠ .isin t) (hs : s = biName b) (hg : glB c.sc s = true) (hn : okN s = true) (hst : notStar x = true) (h : OKe X x (E.e a)) :
    OKe X (.Call (.Name s px) [x] [] pos) (stE E (.bi1 b a)) := by
  intro g r g' q pa T H0 σ H Q rl kk
  simp only [stE] at q
  cases e1 : rd1 E a g with
  | none => simp only [e1] at q; cases q
  | some t =>
    obtain ⟨u, g1⟩ := t
    simp only [e1] at q
    cases e2 : bi1D b u with
    | none => simp only [e2] at q; cases q
    | some r1 =>
      simp only [e2, Option.map_some, Option.some.injEq, Prod.mk.injEq] at q
      obtain ⟨rfl, rfl⟩ := q
      obtain ⟨t, ht, go⟩ := bi1_ok (X := X) hb O.calm O.gd O.hu e2
      refine wE_of (pe_bi O hs hg hn ht (pa_cons pe_w pa_nil (star_cons hst)) hst fun _ => rfl) ?_
      exact OKe.rd h g u g1 e1 pa T H0 σ H _ rl fun v H1 p1 => go _ _ _ _ p1.tr fun z H2 hz => kk z H2 (p1.n.res hz)
theorem ok_bi2 (O : XO P w K mg base p n X c) {b : Bi} {s : Str} (hs : s = biName b) (hg : glB c.sc s = true) (hn : okN s = true) (hst : notStar x = true) (hst2 : notStar y = true) (h : OKe X x (E.e a)) (h2 : OKe X y (E.e d)) :
    OKe X (.Call (.Name s px) [x, y] [] pos) (stE E (.bi2 b a d)) := by
  intro g r g' q pa T H0 σ H Q rl kk
  simp only [stE] at q
  cases e1 : rd2 E a d g with
  | none => simp only [e1] at q; cases q
  | some t =>
    obtain ⟨u, v, g1⟩ := t
    simp only [e1] at q
    cases e2 : bi2D b u v with
    | none => simp only [e2] at q; cases q
    | some r1 =>
      simp only [e2, Option.map_some, Option.some.injEq, Prod.mk.injEq] at q
      obtain ⟨rfl, rfl⟩ := q
      obtain ⟨t, ht, go⟩ := bi2_ok (X := X) O.calm e2
      refine wE_of (pe_bi O hs hg hn ht (pa_cons pe_w (pa_cons pe_w pa_nil (star_cons hst2)) (star_cons hst)) hst fun env => ?_) ?_
      · rw [star_cons hst2]; rfl
      · exact OKe.two h h2 e1 rl fun v1 v2 H' p2 => go _ _ _ _ _ p2.tr p2.tr2 fun z H2 hz => kk z H2 (p2.n.res hz)
theorem ok_isin (O : XO P w K mg base p n X c) {s tz : Str} {t : String} {pz : Pos} (hs : s = "isinstance") (hg : glB c.sc s = true) (hn : okN s = true) (hz : tz = Str.ofString t) (hgz : glB c.sc tz = true) (hnz : okN tz = true) (hst : notStar x = true) (h : OKe X x (E.e a))
    (ht : t = "int" ∨ t = "bool" ∨ t = "str" ∨ t = "list" ∨ t = "tuple") : OKe X (.Call (.Name s px) [x, .Name tz pz] [] pos) (stE E (.bi1 (.isin t) a)) := by
  intro g r g' q pa T H0 σ H Q rl kk
  simp only [stE] at q
  cases e1 : rd1 E a g with
  | none => simp only [e1] at q; cases q
  | some tt =>
    obtain ⟨u, g1⟩ := tt
    simp only [e1] at q
    cases e2 : isinD t u with
    | none =>
      have : bi1D (.isin t) u = none := by cases u <;> simp only [bi1D, e2] <;> rfl
      simp only [this] at q
      cases q
    | some bb =>
      have : bi1D (.isin t) u = some (.d (.bool bb)) := by cases u <;> simp only [bi1D, e2] <;> rfl
      simp only [this, Option.map_some, Option.some.injEq, Prod.mk.injEq] at q
      obtain ⟨rfl, rfl⟩ := q
      obtain ⟨n1, n2, n3⟩ := okN_of hnz
      have hboot : bootBuiltins tz = some (.type t) ∧ tz ∈ bnames := by
        subst hz
        rcases ht with rfl | rfl | rfl | rfl | rfl <;> exact ⟨by decide +kernel, by decide⟩
      have pz' : PE X (.Name tz pz) (tC (.ty t)) := pe_bltn (gl_of O hgz) (O.bln hboot.2) hboot.1 rfl n3 n1
      refine wE_of (pe_bi (b := .isin t) O hs hg hn call_isi (pa_cons pe_w (pa_cons pz' pa_nil (star_cons rfl)) (star_cons hst)) hst fun _ => rfl) ?_
      exact OKe.rd h g u g1 e1 pa T H0 σ H _ rl fun v H1 p1 => ⟨v, .ty t, .type (tyD u), .type t, bb, rfl, .ty t, p1.tr.tyx, kit_ty (isin_kit e2), kk _ _ (p1.n.res (.same (.bl _)))⟩
/-! ### places -/
theorem plain_ix (h : notSlice y = true) : PlainIx y := fun o i => by cases y <;> first | rfl | cases h
theorem ok_idx (hs : notSlice y = true) (h : OKe X x (E.e a)) (h2 : OKe X y (E.e b)) : OKe X (.Subscript x y pos) (stE E (.idx a b)) := by
  intro g r g' q pa T H0 σ H Q rl kk
  simp only [stE] at q
  cases e1 : E.e a g with
  | none => simp only [e1] at q; cases q
  | some t =>
    obtain ⟨r1, g1⟩ := t
    simp only [e1] at q
    cases e2 : rd1 E b g1 with
    | none => simp only [e2] at q; cases q
    | some t2 =>
      obtain ⟨v, g2⟩ := t2
      simp only [e2] at q
      by_cases hp : r1 = .pen
      · subst hp
        simp only at q
        cases e3 : g2.pen with
        | none => simp only [e3] at q; cases q
        | some xs =>
          simp only [e3] at q
          cases e4 : idxD (.list xs) v with
          | none => simp only [e4] at q; cases q
          | some dd =>
            simp only [e4, Option.map_some, Option.some.injEq, Prod.mk.injEq] at q
            obtain ⟨rfl, rfl⟩ := q
            obtain ⟨t, ht, go⟩ := idx_ok (X := X) e4
            refine wE_of (pe_ix ht pe_w pe_w (plain_ix hs)) (h g _ g1 e1 pa T H0 σ H _ rl fun v1 H1 p1 => ?_)
            refine OKe.rd h2 g1 v _ e2 pa _ H0 σ H1 _ p1.rel fun v2 H2 p2 => ?_
            obtain ⟨_, vs, q1, q2⟩ := p2.rel.pn xs e3
            have hv := p1.vr.1
            subst hv
            have pn := p1.n.then p2.n
            exact go _ H2 _ _ Q (.l q1 q2) p2.tr fun z hz => kk _ _ (pn.res (.same hz))
      · have q' : (match rdR r1 with
          | none => none
          | some x => (idxD x v).map fun d => (R.d d, g2)) = some (r, g') := by
            cases r1 <;> first | exact absurd rfl hp | exact q
        cases e3 : rdR r1 with
        | none => simp only [e3] at q'; cases q'
        | some u =>
          simp only [e3] at q'
          cases e4 : idxD u v with
          | none => simp only [e4] at q'; cases q'
          | some dd =>
            simp only [e4, Option.map_some, Option.some.injEq, Prod.mk.injEq] at q'
            obtain ⟨rfl, rfl⟩ := q'
            obtain ⟨t, ht, go⟩ := idx_ok (X := X) e4
            have e12 : rd2 E a b g = some (u, v, g2) := by
              unfold rd1 at e2
              cases f2 : E.e b g1 with
              | none => simp only [f2] at e2; cases e2
              | some s2 =>
                obtain ⟨r2, g2'⟩ := s2
                simp only [f2] at e2
                cases f3 : rdR r2 with
                | none => simp only [f3] at e2; cases e2
                | some v' =>
                  simp only [f3, Option.map_some, Option.some.injEq, Prod.mk.injEq] at e2
                  obtain ⟨rfl, rfl⟩ := e2
                  simp only [rd2, e1, f2, e3, f3]
            exact wE_of (pe_ix ht pe_w pe_w (plain_ix hs)) (OKe.two h h2 e12 rl fun v1 v2 H' p2 => go _ _ _ _ _ p2.tr p2.tr2 fun z hz => kk _ _ (p2.n.res (.same hz)))
end
end DL
end
section
set_option Elab.async false
set_option linter.all false
set_option maxRecDepth 100000
set_option autoImplicit false
set_option maxHeartbeats 2000000
/-! DL, part l: cuts, ranges as lists, texts. -/
namespace DL
open PySem PySem.Spec PyProof.Rows L2
variable [Tabs]
section
variable {P : Program} {w : World} {K : Fg} {mg : Str → Option Value} {base : Heap} {p : Pgm} {n m : Nat} {X : Cx} {c : Ct} {E : Ev} {x y z : Expr} {a b d : IE} {es : List Expr} {is : List IE} {pos px : Pos}
/-- what was read first is still readable behind what follows -/
theorem PostE.over {pa : Addr} {T : AS} {H0 H H1 H2 : Hp} {σ : L2.St} {g g1 g2 : G} {v : V} {r : R} (p : PostE K pa T H0 σ H g v H1 r g1) (q : PostN K pa (ownT T v r) H0 σ H1 g1 H2 g2) :
    (∀ u, rdR r = some u → TR K (Nv pa T σ g2) H2 v u) ∧ PostN K pa T H0 σ H g H2 g2 := by
  have e : pm pa g1.pen = pm pa g.pen := pm_eq p.pen
  have sub : ∀ a, Nv pa T σ g2 a → Nv pa T σ g1 a := by
    rintro a (z | z | z)
    · exact .inl z
    · exact .inr (.inl (by rw [← pm_eq q.pen]; exact z))
    · obtain ⟨i, xs, z1, z2⟩ := z
      rcases q.sub a (.inr (.inr ⟨i, xs, z1, z2⟩)) with q1 | q1 | q1
      · obtain ⟨a', vs, e1, _, _, _, e5, _⟩ := q.rel.own z1
        rw [z2] at e1
        cases e1
        exact absurd q1 e5
      · exact .inr (.inl q1)
      · exact .inr (.inr q1)
  exact ⟨fun u h => p.read h q.ext sub, p.ext.trans (q.ext.mono fun a z => by rw [← e]; exact z), q.rel.mono fun a z => ownT_of _ _ _ _ z, q.pen.trans p.pen, fun a z => p.sub a (sub a z)⟩
theorem drs_ints {N : AS} {H : Hp} : ∀ ns : List Int, DRs K N H (ns.map V.int) (ns.map PyData.int)
  | [] => .nil
  | n :: ns => .cons (.int n) (drs_ints ns)
theorem okp (h : ∀ e i, chkE p m c e i = true → OKe X e (E.e i)) {eo : Option Expr} {io : Option IE} (hc : chkO (chkE p m c) eo io = true) {g g' : G} {l : Option D} {li : Option Int} (q : evP E io g = some (l, g')) (hl : partD l = some li) :
    ∃ t : TO, PO X eo t ∧ ∀ {pa : Addr} {T : AS} {H0 H : Hp} {σ : L2.St} {Q : Option Int → Hp → Prop}, Rel X.K pa T H0 σ H g → (∀ H', PostN X.K pa T H0 σ H g H' g' → Q li H') → t σ H Q := by
  cases eo with
  | none =>
    cases io with
    | some i => cases hc
    | none =>
      cases q
      cases hl
      exact ⟨_, po_none, fun rl k => k _ ⟨.refl _ _, rl, rfl, fun _ z => z⟩⟩
  | some e =>
    cases io with
    | none => cases hc
    | some i =>
      simp only [evP] at q
      cases e1 : rd1 E i g with
      | none => simp only [e1] at q; cases q
      | some t =>
        obtain ⟨u, g1⟩ := t
        simp only [e1, Option.map_some, Option.some.injEq, Prod.mk.injEq] at q
        obtain ⟨rfl, rfl⟩ := q
        cases u with
        | int j =>
          cases hl
          exact ⟨_, po_some pe_w, fun rl k => OKe.rd (h e i hc) g _ g1 e1 _ _ _ _ _ _ rl fun v H1 p1 => ⟨j, p1.tr.int, k _ p1.n⟩⟩
        | _ => cases hl
theorem ok_slc (h : ∀ e i, chkE p m c e i = true → OKe X e (E.e i)) {lo hi : Option Expr} {il ih : Option IE} {p2 : Pos} (ha : chkE p m c x a = true) (hl : chkO (chkE p m c) lo il = true) (hh : chkO (chkE p m c) hi ih = true) :
    OKe X (.Subscript x (.Slice lo hi none p2) pos) (stE E (.slc a il ih)) := by
  intro g r g' q pa T H0 σ H Q rl kk
  simp only [stE] at q
  cases e1 : E.e a g with
  | none => simp only [e1] at q; cases q
  | some t =>
    obtain ⟨r1, g1⟩ := t
    simp only [e1] at q
    cases e2 : evP E il g1 with
    | none => simp only [e2] at q; cases q
    | some t2 =>
      obtain ⟨l, g2⟩ := t2
      simp only [e2] at q
      cases e3 : evP E ih g2 with
      | none => simp only [e3] at q; cases q
      | some t3 =>
        obtain ⟨u, g3⟩ := t3
        simp only [e3] at q
        cases e4 : partD l with
        | none => simp only [e4] at q; cases q
        | some li =>
          cases e5 : partD u with
          | none => simp only [e4, e5] at q; cases q
          | some ui =>
            simp only [e4, e5] at q
            obtain ⟨tl, pl, gol⟩ := okp (X := X) h hl e2 e4
            obtain ⟨th, ph, goh⟩ := okp (X := X) h hh e3 e5
            -- the three read one behind the other
            have run : ∀ {rr : V → Option Int → Option Int → Hp → VK → Prop} (_ : SlR X rr),
                (∀ v H1 H3, PostE X.K pa T H0 σ H g v H1 r1 g1 → PostN X.K pa (ownT T v r1) H0 σ H1 g1 H3 g3 → rr v li ui H3 Q) → wE X (.Subscript x (.Slice lo hi none p2) pos) σ H Q := fun {rr} hr k => by
              refine wE_of (pe_slice hr pe_w pl ph) (h x a ha g _ g1 e1 pa T H0 σ H _ rl fun v H1 p1 => ?_)
              refine gol p1.rel fun H2 q2 => ?_
              refine goh q2.rel fun H3 q3 => ?_
              exact k v H1 H3 p1 (q2.then q3)
            by_cases hs : ∃ ns, r1 = .scr ns
            · obtain ⟨ns, rfl⟩ := hs
              simp only [Option.some.injEq, Prod.mk.injEq] at q
              obtain ⟨rfl, rfl⟩ := q
              refine run sl_list fun v H1 H3 p1 q3 => ?_
              obtain ⟨aa, rfl, hsc⟩ := p1.vr
              refine ⟨aa, _, rfl, (hsc.ext q3.ext).sq, fun q hq => kk _ _ ?_⟩
              exact (p1.over q3).2.res (.lst hq (cutV_D (drs_ints ns)))
            · have q' : (match rdR r1 with
                | none => none
                | some x => (slcD x li ui).map fun r => (r, g3)) = some (r, g') := by
                cases r1 <;> first | exact absurd ⟨_, rfl⟩ hs | exact q
              cases e6 : rdR r1 with
              | none => simp only [e6] at q'; cases q'
              | some uu =>
                simp only [e6] at q'
                cases e7 : slcD uu li ui with
                | none => simp only [e7] at q'; cases q'
                | some r2 =>
                  simp only [e7, Option.map_some, Option.some.injEq, Prod.mk.injEq] at q'
                  obtain ⟨rfl, rfl⟩ := q'
                  obtain ⟨t, ht, go⟩ := slc_ok (X := X) e7
                  refine run ht fun v H1 H3 p1 q3 => ?_
                  obtain ⟨f1, f2⟩ := p1.over q3
                  exact go _ _ _ _ (f1 uu e6) fun z H' hz => kk _ _ (f2.res hz)
theorem ok_rev {k : Nat} {p1 p2 p3 : Pos} (h : OKe X x (E.e a)) : OKe X (.Subscript x (.Slice none none (some (.UnaryOp .USub (.Constant (.int 1) k p1) p2)) p3) pos) (stE E (.rev a)) := by
  intro g r g' q pa T H0 σ H Q rl kk
  simp only [stE] at q
  cases e1 : rd1 E a g with
  | none => simp only [e1] at q; cases q
  | some t =>
    obtain ⟨u, g1⟩ := t
    cases u with
    | list ds =>
      simp only [e1, Option.some.injEq, Prod.mk.injEq] at q
      obtain ⟨rfl, rfl⟩ := q
      refine wE_of (pe_revL pe_w) (OKe.rd h g _ g1 e1 pa T H0 σ H _ rl fun v H1 p1 => ?_)
      obtain ⟨aa, vs, rfl, hL, hD⟩ := p1.tr.list
      exact ⟨aa, vs, rfl, .of hL, fun q hq => kk _ _ (p1.n.res (.lst hq hD.reverse))⟩
    | tuple ds =>
      simp only [e1, Option.some.injEq, Prod.mk.injEq] at q
      obtain ⟨rfl, rfl⟩ := q
      refine wE_of (pe_revT pe_w) (OKe.rd h g _ g1 e1 pa T H0 σ H _ rl fun v H1 p1 => ?_)
      obtain ⟨aa, vs, rfl, hL, hD⟩ := p1.tr.tuple
      exact ⟨aa, vs, rfl, hL, fun q hq => kk _ _ (p1.n.res (.tup hq hD.reverse))⟩
    | _ => simp only [e1] at q; cases q
/-! ### ranges as lists and tuples -/
theorem drs_rg {N : AS} {H : Hp} {lo hi : Int} : DRs K N H (rgV lo hi) ((List.range (hi - lo).toNat).map fun (k : Nat) => PyData.int (lo + (k : Int))) := by
  unfold rgV
  generalize List.range (hi - lo).toNat = l
  induction l with
  | nil => exact .nil
  | cons i l ih => exact .cons (.int _) ih
theorem ok_rngL (O : XO P w K mg base p n X c) (h : ∀ e i, chkE p m c e i = true → OKe X e (E.e i)) {isT : Bool} {s sr : Str} {p1 p2 p3 : Pos} {ys : List Expr} (hs : s = (if isT then ("tuple" : Str) else "list")) (hg : glB c.sc s = true) (hn : okN s = true) (hr : sr = "range") (hgr : glB c.sc sr = true)
    (h1 : 1 ≤ is.length) (h2 : is.length ≤ 2) (hc : chkEs (chkE p m c) ys is = true) : OKe X (.Call (.Name s p1) [.Call (.Name sr p2) ys [] p3] [] pos) (stE E (.rngL isT is)) := by
  intro g r g' q pa T H0 σ H Q rl kk
  simp only [stE] at q
  cases e1 : evDs E is g with
  | none => simp only [e1] at q; cases q
  | some t =>
    obtain ⟨ds, g1⟩ := t
    simp only [e1] at q
    cases e2 : rngD ds with
    | none => simp only [e2] at q; cases q
    | some xs =>
      simp only [e2] at q
      by_cases hz : xs.length ≤ szL
      · rw [if_pos hz] at q
        simp only [Option.some.injEq, Prod.mk.injEq] at q
        obtain ⟨rfl, rfl⟩ := q
        subst hr
        have mr := O.bln (s := "range") (by decide)
        have ml := O.bln (s := "list") (by decide)
        have mt := O.bln (s := "tuple") (by decide)
        have hx : szL = 16777216 := rfl
        -- from the range's ends on
        have fin : ∀ {te : L2.St → Hp → (Int → Int → Hp → Prop) → Prop} {lo hi : Int}, PRg X (.Call (.Name "range" p2) ys [] p3) te → xs = ((List.range (hi - lo).toNat).map fun (k : Nat) => PyData.int (lo + (k : Int))) →
            -(2 ^ 62) ≤ lo → lo < 2 ^ 62 → -(2 ^ 62) ≤ hi → hi < 2 ^ 62 → (∀ R : Int → Int → Hp → Prop, (∀ H1, PostN X.K pa T H0 σ H g H1 g1 → R lo hi H1) → te σ H R) →
            wE X (.Call (.Name s p1) [.Call (.Name "range" p2) ys [] p3] [] pos) σ H Q := fun {te lo hi} hp ex b1 b2 b3 b4 run => by
          have ok : RgOk lo hi := ⟨b1, b2, b3, b4, by
            rw [ex, List.length_map, List.length_range, hx] at hz
            exact hz⟩
          cases isT with
          | false =>
            have hs' : s = "list" := hs
            subst hs'
            refine wE_of (pe_listRg O.calm (gl_of O hg) ml hp) (run _ fun H1 p1 => ⟨ok, fun q hq => kk _ _ (p1.res ?_)⟩)
            subst ex
            exact .lst hq drs_rg
          | true =>
            have hs' : s = "tuple" := hs
            subst hs'
            refine wE_of (pe_tupRg O.calm (gl_of O hg) mt hp) (run _ fun H1 p1 => ⟨ok, fun q hq => kk _ _ (p1.res ?_)⟩)
            subst ex
            exact .tup hq drs_rg
        cases is with
        | nil => exact absurd h1 (by simp)
        | cons i1 is1 =>
          cases ys with
          | nil => cases hc
          | cons y1 ys1 =>
            have hc' := hc
            simp only [chkEs, Bool.and_eq_true] at hc'
            obtain ⟨⟨st1, ck1⟩, ck1'⟩ := hc'
            cases is1 with
            | nil =>
              cases ys1 with
              | cons _ _ => cases ck1'
              | nil =>
                have hl := evDs_len g ds g1 e1
                obtain ⟨d1, rfl⟩ : ∃ d1, ds = [d1] := by
                  cases ds with
                  | nil => cases hl
                  | cons d1 r => cases r with
                    | nil => exact ⟨d1, rfl⟩
                    | cons _ _ => cases hl
                cases d1 with
                | int j =>
                  simp only [rngD] at e2
                  by_cases hb : -(2 ^ 62) ≤ j ∧ j < 2 ^ 62
                  · rw [if_pos hb] at e2
                    cases e2
                    refine fin (lo := 0) (hi := j) (prg_1 (gl_of O hgr) mr pe_w (star_cons st1)) (by rw [Int.sub_zero]) (by decide) (by decide) hb.1 hb.2 fun R k => ?_
                    have hv : OKe X y1 (E.e i1) := h y1 i1 ck1
                    unfold evDs at e1
                    cases f1 : E.e i1 g with
                    | none => simp only [f1] at e1; cases e1
                    | some rg =>
                      obtain ⟨r1, ga⟩ := rg
                      simp only [f1] at e1
                      cases f2 : keepR r1 ga with
                      | none => simp only [f2] at e1; cases e1
                      | some dg =>
                        obtain ⟨dd, gb⟩ := dg
                        simp only [f2, evDs, Option.some.injEq, Prod.mk.injEq, List.cons.injEq, and_true] at e1
                        obtain ⟨rfl, rfl⟩ := e1
                        exact hv g r1 ga f1 pa T H0 σ H _ rl fun v H1 p1 => ⟨j, (p1.keep f2).dr.int_inv, k _ (p1.keep f2).n⟩
                  · rw [if_neg hb] at e2
                    cases e2
                | _ => simp only [rngD] at e2; cases e2
            | cons i2 is2 =>
              cases is2 with
              | cons _ _ => exact absurd h2 (by simp)
              | nil =>
                cases ys1 with
                | nil => cases ck1'
                | cons y2 ys2 =>
                  simp only [chkEs, Bool.and_eq_true] at ck1'
                  obtain ⟨⟨st2, ck2⟩, ck2'⟩ := ck1'
                  cases ys2 with
                  | cons _ _ => cases ck2'
                  | nil =>
                    unfold evDs at e1
                    cases f1 : E.e i1 g with
                    | none => simp only [f1] at e1; cases e1
                    | some rg =>
                      obtain ⟨r1, ga⟩ := rg
                      simp only [f1] at e1
                      cases f2 : keepR r1 ga with
                      | none => simp only [f2] at e1; cases e1
                      | some dg =>
                        obtain ⟨d1, gb⟩ := dg
                        simp only [f2, evDs] at e1
                        cases f3 : E.e i2 gb with
                        | none => simp only [f3] at e1; cases e1
                        | some rg2 =>
                          obtain ⟨r2, gc⟩ := rg2
                          simp only [f3] at e1
                          cases f4 : keepR r2 gc with
                          | none => simp only [f4] at e1; cases e1
                          | some dg2 =>
                            obtain ⟨d2, gd⟩ := dg2
                            simp only [f4, Option.some.injEq, Prod.mk.injEq] at e1
                            obtain ⟨rfl, rfl⟩ := e1
                            cases d1 with
                            | int lo =>
                              cases d2 with
                              | int hi =>
                                simp only [rngD] at e2
                                by_cases hb : -(2 ^ 62) ≤ lo ∧ lo < 2 ^ 62 ∧ -(2 ^ 62) ≤ hi ∧ hi < 2 ^ 62
                                · rw [if_pos hb] at e2
                                  cases e2
                                  refine fin (prg_2 (gl_of O hgr) mr pe_w pe_w (star_cons st1) (star_cons st2) (by rw [star_cons st2]; rfl)) rfl hb.1 hb.2.1 hb.2.2.1 hb.2.2.2 fun R k => ?_
                                  refine h y1 i1 ck1 g r1 ga f1 pa T H0 σ H _ rl fun v H1 p1 => ?_
                                  have k1 := p1.keep f2
                                  refine h y2 i2 ck2 gb r2 gc f3 pa T H0 σ H1 _ k1.rel fun v2 H2 p2 => ?_
                                  have k2 := p2.keep f4
                                  exact ⟨lo, hi, k1.dr.int_inv, k2.dr.int_inv, k _ (k1.n.then k2.n)⟩
                                · rw [if_neg hb] at e2
                                  cases e2
                              | _ => simp only [rngD] at e2; cases e2
                            | _ => simp only [rngD] at e2; cases e2
      · rw [if_neg hz] at q
        cases q
/-! ### texts -/
theorem attr_base {s : Str} {env : Env} (h : plainBase x = true) : attributeBase x s env (eval x env) = eval x env := by
  cases x <;> first | rfl | cases h
theorem few_one {env : Env} (h : notStar y = true) : ((backTo pos (starEach [y] env)).all (fun x => !x.1) && (backToKw pos (keywordEach [] env)).all (fun x => x.1.isSome)
      && decide ([y].length + ([] : List Keyword).length + (if ([] : List Keyword).isEmpty then 0 else 1) < 30)) = true := by
  rw [star_cons h]
  rfl
theorem ok_idxS (O : XO P w K mg base p n X c) {s : Str} {apos : Pos} (hs : s = "index") (hb : plainBase x = true) (hl : (apos.endLine == pos.line) = true) (hst : notStar y = true) (h : OKe X x (E.e a)) (h2 : OKe X y (E.e b)) :
    OKe X (.Call (.Attribute x s apos) [y] [] pos) (stE E (.idxS a b)) := by
  subst hs
  intro g r g' q pa T H0 σ H Q rl kk
  simp only [stE] at q
  cases e1 : rd2 E a b g with
  | none => simp only [e1] at q; cases q
  | some t =>
    obtain ⟨u, v, g1⟩ := t
    cases u with
    | str su =>
      cases v with
      | str sv =>
        simp only [e1] at q
        cases e2 : Txt.index0 su sv with
        | none => simp only [e2] at q; cases q
        | some i =>
          simp only [e2, Option.map_some, Option.some.injEq, Prod.mk.injEq] at q
          obtain ⟨rfl, rfl⟩ := q
          have pe := pe_bmS (X := X) (o := x) (e := y) (es := []) (apos := apos) (cpos := pos) PySem.F.plainAttrs_str PySem.F.slot_str_index PySem.F.type_str_index (mt_indexX (X := X) (W := fun _ _ _ _ => False) O.calm LamX.takes0) pe_w (pa_cons pe_w pa_nil (star_cons hst)) (attr_base hb) (few_one hst) hl (star_cons hst) rfl
          refine wE_of pe ?_
          unfold tBMS tCons tNil
          -- the text is read first, then the sign
          unfold rd2 at e1
          cases f1 : E.e a g with
          | none => simp only [f1] at e1; cases e1
          | some s1 =>
            obtain ⟨ra, ga⟩ := s1
            simp only [f1] at e1
            cases f2 : E.e b ga with
            | none => simp only [f2] at e1; cases e1
            | some s2 =>
              obtain ⟨rb, gb⟩ := s2
              simp only [f2] at e1
              cases f3 : rdR ra with
              | none => simp only [f3] at e1; cases e1
              | some xa =>
                cases f4 : rdR rb with
                | none => simp only [f3, f4] at e1; cases e1
                | some xb =>
                  simp only [f3, f4, Option.some.injEq, Prod.mk.injEq] at e1
                  obtain ⟨rfl, rfl, rfl⟩ := e1
                  refine h g ra ga f1 pa T H0 σ H _ rl fun v1 H1 p1 => ?_
                  have hv1 : v1 = .str su := (p1.rd f3).tr.str
                  refine ⟨by rw [hv1]; rfl, ?_⟩
                  refine h2 ga rb gb f2 pa _ H0 σ H1 _ p1.rel fun v2 H2 p2 => ?_
                  have hv2 : v2 = .str sv := (p2.rd f4).tr.str
                  refine ⟨su, sv, hv1, by rw [hv2], fun k hk => ?_, fun hk => ?_⟩
                  · rw [e2] at hk
                    cases hk
                    exact kk _ _ ((p1.two p2 f3 f4).n.res (.same (.int _)))
                  · rw [e2] at hk
                    cases hk
      | _ => simp only [e1] at q; cases q
    | _ => simp only [e1] at q; cases q
theorem ok_join {s : Str} {apos : Pos} (hs : s = "join") (hb : plainBase x = true) (hl : (apos.endLine == pos.line) = true) (hst : notStar y = true) (h : OKe X x (E.e a)) (h2 : OKe X y (E.e b)) :
    OKe X (.Call (.Attribute x s apos) [y] [] pos) (stE E (.join a b)) := by
  subst hs
  intro g r g' q pa T H0 σ H Q rl kk
  simp only [stE] at q
  cases e1 : rd2 E a b g with
  | none => simp only [e1] at q; cases q
  | some t =>
    obtain ⟨u, v, g1⟩ := t
    cases u with
    | str su =>
      cases v with
      | list ds =>
        simp only [e1] at q
        cases e2 : strsD ds with
        | none => simp only [e2] at q; cases q
        | some ys =>
          simp only [e2] at q
          by_cases hz : (ys.map (·.length)).sum + ys.length * su.length ≤ szL
          · rw [if_pos hz] at q
            simp only [Option.some.injEq, Prod.mk.injEq] at q
            obtain ⟨rfl, rfl⟩ := q
            refine wE_of (pe_join pe_w pe_w (star_cons hst) (attr_base hb) hl) ?_
            unfold tM1
            unfold rd2 at e1
            cases f1 : E.e a g with
            | none => simp only [f1] at e1; cases e1
            | some s1 =>
              obtain ⟨ra, ga⟩ := s1
              simp only [f1] at e1
              cases f2 : E.e b ga with
              | none => simp only [f2] at e1; cases e1
              | some s2 =>
                obtain ⟨rb, gb⟩ := s2
                simp only [f2] at e1
                cases f3 : rdR ra with
                | none => simp only [f3] at e1; cases e1
                | some xa =>
                  cases f4 : rdR rb with
                  | none => simp only [f3, f4] at e1; cases e1
                  | some xb =>
                    simp only [f3, f4, Option.some.injEq, Prod.mk.injEq] at e1
                    obtain ⟨rfl, rfl, rfl⟩ := e1
                    refine h g ra ga f1 pa T H0 σ H _ rl fun v1 H1 p1 => ?_
                    have hv1 : v1 = .str su := (p1.rd f3).tr.str
                    refine ⟨⟨su, hv1⟩, ?_⟩
                    refine h2 ga rb gb f2 pa _ H0 σ H1 _ p1.rel fun v2 H2 p2 => ?_
                    have p12 := p1.two p2 f3 f4
                    obtain ⟨aa, vs, rfl, hL, hD⟩ := p12.tr2.list
                    rw [strs_D e2 hD] at hL
                    exact ⟨su, aa, ys, hv1, rfl, .inl (.of hL), hz, kk _ _ (p12.n.res (.same (.str _)))⟩
          · rw [if_neg hz] at q
            cases q
      | _ => simp only [e1] at q; cases q
    | _ => simp only [e1] at q; cases q
end
end DL
end
section
set_option Elab.async false
set_option linter.all false
set_option maxRecDepth 100000
set_option autoImplicit false
set_option maxHeartbeats 2000000
/-! DL, part m: what is walked; names stored, forgotten. -/
namespace DL
open PySem PySem.Spec PyProof.Rows L2
variable [Tabs]

/-! ### the slots -/
section
variable {K : Fg} {pa : Addr} {T : AS} {H0 H H1 : Hp} {σ σ' : L2.St} {g g1 : G} {v : V} {x : D} {i : Nat}
theorem Own.env {σ σ' : L2.St} {g g' : G} {a : Addr} (h : Own σ g i a) (he : ∀ sv, g.env[i]? = some (some sv) → g'.env[i]? = some (some sv) ∧ σ'[i]? = σ[i]?) : Own σ' g' i a := by
  obtain ⟨xs, h1, h2⟩ := h
  obtain ⟨q1, q2⟩ := he _ h1
  exact ⟨xs, q1, q2.trans h2⟩
/-- what the state says hangs on the known names alone -/
theorem Rel.sig (r : Rel K pa T H0 σ H g) (hl : σ'.length = σ.length) (h : ∀ (i : Nat) (sv : Sv), g.env[i]? = some (some sv) → σ'[i]? = σ[i]?) : Rel K pa T H0 σ' H g ∧ ∀ a, Nv pa T σ' g a → Nv pa T σ g a := by
  have own : ∀ i a, Own σ' g i a → Own σ g i a := fun i a ⟨xs, h1, h2⟩ => ⟨xs, h1, (h i _ h1).symm.trans h2⟩
  have sub : ∀ a, Nv pa T σ' g a → Nv pa T σ g a := fun a z => z.imp id fun z => z.imp id fun ⟨i, z⟩ => ⟨i, own i a z⟩
  refine ⟨⟨hl.trans r.len, fun i sv e => ?_, fun i j a h1 h2 => r.ap i j a (own i a h1) (own j a h2), fun xs e => ?_, r.td, r.x0, r.tb⟩, sub⟩
  · obtain ⟨v, e1, q⟩ := r.sl i sv e
    refine ⟨v, (h i sv e).trans e1, ?_⟩
    cases sv with
    | d x => exact DR.mono sub q
    | own xs => obtain ⟨a, vs, q1, q2, q3, q4⟩ := q; exact ⟨a, vs, q1, q2, q3.mono sub, q4⟩
    | scr ns => exact q
    | pen => exact q
  · obtain ⟨q1, vs, q2, q3⟩ := r.pn xs e
    exact ⟨q1, vs, q2, q3.mono sub⟩
/-- fewer names are known -/
theorem Rel.less (r : Rel K pa T H0 σ H g) {env : List (Option Sv)} (hl : env.length = g.env.length) (h : ∀ (i : Nat) (sv : Sv), env[i]? = some (some sv) → g.env[i]? = some (some sv)) :
    Rel K pa T H0 σ H { g with env := env } ∧ ∀ a, Nv pa T σ { g with env := env } a → Nv pa T σ g a := by
  have own : ∀ i a, Own σ { g with env := env } i a → Own σ g i a := fun i a ⟨xs, h1, h2⟩ => ⟨xs, h i _ h1, h2⟩
  have sub : ∀ a, Nv pa T σ { g with env := env } a → Nv pa T σ g a := fun a z => z.imp id fun z => z.imp id fun ⟨i, z⟩ => ⟨i, own i a z⟩
  refine ⟨⟨r.len.trans hl.symm, fun i sv e => ?_, fun i j a h1 h2 => r.ap i j a (own i a h1) (own j a h2), fun xs e => ?_, r.td, r.x0, r.tb⟩, sub⟩
  · obtain ⟨v, e1, q⟩ := r.sl i sv (h i sv e)
    refine ⟨v, e1, ?_⟩
    cases sv with
    | d x => exact DR.mono sub q
    | own xs => obtain ⟨a, vs, q1, q2, q3, q4⟩ := q; exact ⟨a, vs, q1, q2, q3.mono sub, q4⟩
    | scr ns => exact q
    | pen => exact q
  · obtain ⟨q1, vs, q2, q3⟩ := r.pn xs e
    exact ⟨q1, vs, q2, q3.mono sub⟩
/-- a datum is stored -/
theorem Rel.stD (r : Rel K pa T H0 σ H g) (hi : i < g.env.length) (hd : DR K (Nv pa T σ g) H v x) : Rel K pa T H0 (σ.set i (some v)) H (setD g i x) ∧ ∀ a, Nv pa T (σ.set i (some v)) (setD g i x) a → Nv pa T σ g a := by
  have hiσ : i < σ.length := by rw [r.len]; exact hi
  have at_ : ∀ j sv, (setD g i x).env[j]? = some (some sv) → (j = i ∧ sv = .d x) ∨ (j ≠ i ∧ g.env[j]? = some (some sv) ∧ (σ.set i (some v))[j]? = σ[j]?) := fun j sv h => by
    have h' : (g.env.set i (some (.d x)))[j]? = some (some sv) := h
    by_cases hj : i = j
    · subst hj
      rw [List.getElem?_set_self hi] at h'
      cases h'
      exact .inl ⟨rfl, rfl⟩
    · rw [List.getElem?_set_ne hj] at h'
      exact .inr ⟨fun z => hj z.symm, h', List.getElem?_set_ne hj⟩
  have own : ∀ j a, Own (σ.set i (some v)) (setD g i x) j a → Own σ g j a := fun j a ⟨xs, h1, h2⟩ => by
    rcases at_ j _ h1 with ⟨_, z⟩ | ⟨_, q1, q2⟩
    · cases z
    · exact ⟨xs, q1, q2.symm.trans h2⟩
  have sub : ∀ a, Nv pa T (σ.set i (some v)) (setD g i x) a → Nv pa T σ g a := fun a z => z.imp id fun z => z.imp id fun ⟨i, z⟩ => ⟨i, own i a z⟩
  refine ⟨⟨by rw [List.length_set]; show σ.length = (g.env.set i (some (.d x))).length; rw [List.length_set]; exact r.len, fun j sv e => ?_, fun i j a h1 h2 => r.ap i j a (own i a h1) (own j a h2), fun xs e => ?_, r.td, r.x0, r.tb⟩, sub⟩
  · rcases at_ j sv e with ⟨rfl, rfl⟩ | ⟨_, q1, q2⟩
    · exact ⟨v, List.getElem?_set_self hiσ, hd.mono sub⟩
    · obtain ⟨u, e1, q⟩ := r.sl j sv q1
      refine ⟨u, q2.trans e1, ?_⟩
      cases sv with
      | d x => exact DR.mono sub q
      | own xs => obtain ⟨a, vs, q1, q2, q3, q4⟩ := q; exact ⟨a, vs, q1, q2, q3.mono sub, q4⟩
      | scr ns => exact q
      | pen => exact q
  · obtain ⟨q1, vs, q2, q3⟩ := r.pn xs e
    exact ⟨q1, vs, q2, q3.mono sub⟩
/-- a watched list is written -/
theorem Rel.putT (r : Rel K pa T H0 σ H g) {p : Addr} {o : HO} {vs : List V} (hT : T p) (hp : H p = some (.lst vs)) (h0 : H0 p = none) (ho : ∀ ps, o ≠ .tbl ps) : Rel K pa T H0 σ (upd H p o) g := by
  have nNv : ∀ a, ¬ Nv pa T σ g a → a ≠ p := fun a h z => h (.inl (z ▸ hT))
  have e : Ext (fun a => a = p) H (upd H p o) := .put rfl hp
  have hm : ∀ a, a = p → Nv pa T σ g a := fun a z => .inl (z ▸ hT)
  refine ⟨r.len, fun i sv q => ?_, r.ap, fun xs q => ?_, fun a q => ?_, ?_, r.tb⟩
  · obtain ⟨v, e1, z⟩ := r.sl i sv q
    refine ⟨v, e1, ?_⟩
    cases sv with
    | d x => exact DR.ext e hm z
    | own xs => obtain ⟨a, ws, e2, e3, e4, e5, e6, e7⟩ := z; exact ⟨a, ws, e2, e.k _ _ e3 (fun z => e6 (z ▸ hT)) (fun _ => nofun), e4.ext e hm, e5, e6, e7⟩
    | scr ns =>
      obtain ⟨a, h1, h2⟩ := z
      refine ⟨a, h1, h2.imp (fun ⟨f1, ob, f2⟩ => ⟨f1, ob, e.k _ _ f2 (fun z => ?_) fun _ => nofun⟩) id⟩
      rw [z, hp] at f2
      cases f2
    | pen => exact z
  · obtain ⟨q1, ws, q2, q3⟩ := r.pn xs q
    exact ⟨q1, ws, e.k _ _ q2 (fun z => q1 (z ▸ hT)) (fun _ => nofun), q3.ext e hm⟩
  · by_cases hap : a = p
    · subst hap
      exact ⟨o, upd_same, ho⟩
    · obtain ⟨u, z, nt⟩ := r.td a q
      exact ⟨u, (upd_ne hap).trans z, nt⟩
  · refine ⟨fun b u h1 h2 h3 => ?_, fun b h => e.t b (r.x0.t b h), fun b h => r.x0.d b (e.d b h)⟩
    have nb : b ≠ p := fun z => by rw [z, h0] at h1; cases h1
    exact (upd_ne nb).trans (r.x0.k b u h1 h2 h3)
theorem Nv.putT {p : Addr} {o : HO} {vs : List V} (hT : T p) (hp : H p = some (.lst vs)) {v : V} {d : D} (q : DR K (Nv pa T σ g) H v d) : DR K (Nv pa T σ g) (upd H p o) v d :=
  DR.ext (m := fun a => a = p) (.put rfl hp) (fun a z => .inl (z ▸ hT)) q
theorem Nv.putTs {p : Addr} {o : HO} {vs : List V} (hT : T p) (hp : H p = some (.lst vs)) {v : List V} {d : List D} (q : DRs K (Nv pa T σ g) H v d) : DRs K (Nv pa T σ g) (upd H p o) v d :=
  DRs.ext (m := fun a => a = p) (.put rfl hp) (fun a z => .inl (z ▸ hT)) q
end

/-! ### forgetting -/
theorem wipeE_length (env : List (Option Sv)) : ∀ vs : List Nat, (wipeE env vs).length = env.length
  | [] => rfl
  | v :: vs => by unfold wipeE; rw [List.length_set, wipeE_length env vs]
theorem wipeE_some {env : List (Option Sv)} {i : Nat} {sv : Sv} : ∀ {vs : List Nat}, (wipeE env vs)[i]? = some (some sv) → env[i]? = some (some sv) ∧ i ∉ vs
  | [], h => ⟨h, by simp⟩
  | v :: vs, h => by
    unfold wipeE at h
    by_cases hv : v = i
    · subst hv
      by_cases hl : v < (wipeE env vs).length
      · rw [List.getElem?_set_self hl] at h; cases h
      · rw [List.getElem?_set, if_pos rfl, if_neg hl] at h; cases h
    · rw [List.getElem?_set_ne hv] at h
      obtain ⟨h1, h2⟩ := wipeE_some h
      exact ⟨h1, fun z => (List.mem_cons.mp z).elim (fun e => hv e.symm) h2⟩
section
variable {K : Fg} {pa : Addr} {T : AS} {H0 H H1 : Hp} {σ σ' : L2.St} {g g1 : G}
theorem Rel.wipe (r : Rel K pa T H0 σ H g) (vs : List Nat) : Rel K pa T H0 (L2.wipe σ vs) H { g with env := wipeE g.env vs } ∧ ∀ a, Nv pa T (L2.wipe σ vs) { g with env := wipeE g.env vs } a → Nv pa T σ g a := by
  obtain ⟨r1, s1⟩ := r.less (wipeE_length g.env vs) fun i sv h => (wipeE_some h).1
  obtain ⟨r2, s2⟩ := r1.sig (σ' := L2.wipe σ vs) (L2.wipe_length σ vs) fun i sv h => L2.wipe_out (wipeE_some h).2
  exact ⟨r2, fun a z => s1 a (s2 a z)⟩
theorem Rel.unwipe {vs : List Nat} {env : List (Option Sv)} {p : Option (List D)} (r : Rel K pa T H0 (L2.wipe σ vs) H ⟨wipeE env vs, p⟩) : Rel K pa T H0 σ H ⟨wipeE env vs, p⟩ ∧ ∀ a, Nv pa T σ ⟨wipeE env vs, p⟩ a → Nv pa T (L2.wipe σ vs) ⟨wipeE env vs, p⟩ a :=
  r.sig (L2.wipe_length σ vs).symm fun i sv h => (L2.wipe_out (wipeE_some h).2).symm
end

/-! ### targets -/
def gNames : List Nat → TGs
  | [] => gNil
  | i :: is => gCons (gName i) (gNames is)
def tgG (K : Fg) : Tg → TG
  | .one i => gName i
  | .many is => gTup K is.length (gNames is)
def tgIs : Tg → List Nat
  | .one i => [i]
  | .many is => is
section
variable {P : Program} {w : World} {K : Fg} {mg : Str → Option Value} {base : Heap} {p : Pgm} {n m : Nat} {X : Cx} {c : Ct}
/-- the names that a frame may store -/
structure XG (X : Cx) (c : Ct) : Prop where
  calm : X.calm = true
  nd : X.N.Nodup
  cN : c.N = X.N
  st : ∀ s, locB c.sc s = true → L2.Loc X.env.scope s ∧ (X.fn s = true ∨ X.env.scope.names.lookup s = some .local)
theorem pg_nm (O : XG X c) {s : Str} {i : Nat} {pos : Pos} (h : c.N[i]? = some s) (hl : locB c.sc s = true) : PG X (.Name s pos) (gName i) := by
  obtain ⟨h1, h2⟩ := O.st s hl
  exact pg_name O.nd (by rw [← O.cN]; exact h) h1 h2
theorem pgs_nm (O : XG X c) : ∀ {es : List Expr} {is : List Nat}, chkNm c es is = true → PGs X es (gNames is) ∧ (assignEach es X.env).length = is.length ∧ (assignEach es X.env).findIdx? (·.1) = none
  | [], [], _ => ⟨pgs_nil, rfl, rfl⟩
  | [], _ :: _, h => by cases h
  | e :: es, [], h => by cases e <;> cases h
  | e :: es, i :: is, h => by
    cases e with
    | Name s pos =>
      simp only [chkNm, Bool.and_eq_true, decide_eq_true_eq] at h
      obtain ⟨h1, h2, h3⟩ := pgs_nm O h.2
      refine ⟨pgs_cons (pg_nm O h.1.1 h.1.2) h1 rfl, ?_, ?_⟩
      · show (assignEach es X.env).length + 1 = is.length + 1
        rw [h2]
      · show List.findIdx? (·.1) ((false, assign (.Name s pos) X.env) :: assignEach es X.env) = none
        rw [List.findIdx?_cons, h3]
        rfl
    | _ => cases h
theorem pg_tg (O : XG X c) {e : Expr} {t : Tg} (h : chkTg c e t = true) : PG X e (tgG X.K t) := by
  cases t with
  | one i =>
    cases e with
    | Name s pos =>
      simp only [chkTg, Bool.and_eq_true, decide_eq_true_eq] at h
      exact pg_nm O h.1 h.2
    | _ => cases h
  | many is =>
    cases e with
    | Tuple es k pos =>
      obtain ⟨h1, h2, h3⟩ := pgs_nm O (show chkNm c es is = true from h)
      exact pg_tup O.calm h1 h2 h3
    | _ => cases h
/-- the names that a target stores are slots -/
theorem chkNm_lt : ∀ {es : List Expr} {is : List Nat}, chkNm c es is = true → ∀ i ∈ is, i < c.N.length
  | [], [], _, i, hi => by cases hi
  | [], _ :: _, h, _, _ => by cases h
  | e :: es, [], h, _, hi => by cases hi
  | e :: es, j :: is, h, i, hi => by
    cases e with
    | Name s pos =>
      simp only [chkNm, Bool.and_eq_true, decide_eq_true_eq] at h
      rcases List.mem_cons.mp hi with z | z
      · rw [z]
        exact (List.getElem?_eq_some_iff.mp h.1.1).1
      · exact chkNm_lt h.2 i z
    | _ => cases h
theorem chkTg_lt {e : Expr} {t : Tg} (h : chkTg c e t = true) : ∀ i ∈ tgIs t, i < c.N.length := by
  cases t with
  | one j =>
    cases e with
    | Name s pos =>
      simp only [chkTg, Bool.and_eq_true, decide_eq_true_eq] at h
      intro i hi
      rw [List.mem_singleton.mp hi]
      exact (List.getElem?_eq_some_iff.mp h.1).1
    | _ => cases h
  | many is =>
    cases e with
    | Tuple es k pos => exact chkNm_lt (show chkNm c es is = true from h)
    | _ => cases h
end
section
variable {K : Fg} {pa : Addr} {T : AS} {H0 H : Hp} {x : D} {v : V}
theorem setDs_ok : ∀ {is : List Nat} {ds : List D} {vs : List V} {σ : L2.St} {g g' : G} {Q : L2.St → Hp → Prop}, setDs g is ds = some g' → (∀ i ∈ is, i < g.env.length) → Rel K pa T H0 σ H g → DRs K (Nv pa T σ g) H vs ds →
    (∀ σ', Rel K pa T H0 σ' H g' → (∀ a, Nv pa T σ' g' a → Nv pa T σ g a) → (∀ js : List Nat, (∀ i ∈ is, i ∈ js) → L2.wipe σ' js = L2.wipe σ js) → g'.pen = g.pen → Q σ' H) → gNames is vs σ H Q
  | [], [], _, σ, g, g', Q, h, _, r, .nil, k => by
    cases h
    exact ⟨rfl, k σ r (fun _ z => z) (fun _ _ => rfl) rfl⟩
  | [], _ :: _, _, _, _, _, _, h, _, _, _, _ => by cases h
  | _ :: _, [], _, _, _, _, _, h, _, _, _, _ => by cases h
  | i :: is, d :: ds, _, σ, g, g', Q, h, hl, r, .cons (v := v) (vs := vs) a b, k => by
    obtain ⟨r1, s1⟩ := r.stD (hl i List.mem_cons_self) a
    refine ⟨v, vs, rfl, ?_⟩
    show gNames is vs (σ.set i (some v)) H Q
    refine setDs_ok (g := setD g i d) h (fun j hj => ?_) r1 (b.mono s1) fun σ' r2 s2 w2 p2 => k σ' r2 (fun a z => s1 a (s2 a z)) (fun js hjs => ?_) (p2.trans rfl)
    · show j < (g.env.set i (some (.d d))).length
      rw [List.length_set]
      exact hl j (List.mem_cons_of_mem _ hj)
    · rw [w2 js fun j hj => hjs j (List.mem_cons_of_mem _ hj)]
      exact wipe_set (hjs i List.mem_cons_self)
where wipe_set {σ : L2.St} {i : Nat} {y : Option V} : ∀ {js : List Nat}, i ∈ js → L2.wipe (σ.set i y) js = L2.wipe σ js
  | [], h => by cases h
  | j :: js, h => by
    show (L2.wipe (σ.set i y) js).set j none = (L2.wipe σ js).set j none
    by_cases hm : i ∈ js
    · rw [wipe_set hm]
    · have e : i = j := (List.mem_cons.mp h).elim id fun z => absurd z hm
      subst e
      have comm : ∀ (ks : List Nat), i ∉ ks → L2.wipe (σ.set i y) ks = (L2.wipe σ ks).set i y := by
        intro ks
        induction ks with
        | nil => intro _; rfl
        | cons k ks ih =>
          intro hk
          show (L2.wipe (σ.set i y) ks).set k none = ((L2.wipe σ ks).set k none).set i y
          rw [ih fun z => hk (List.mem_cons_of_mem _ z), List.set_comm]
          exact fun z => hk (by rw [z]; exact List.mem_cons_self)
      rw [comm js hm, List.set_set]
theorem asg_ok {t : Tg} {σ : L2.St} {g g' : G} {Q : L2.St → Hp → Prop} (h : asgT t x g = some g') (hl : ∀ i ∈ tgIs t, i < g.env.length) (r : Rel K pa T H0 σ H g) (hd : DR K (Nv pa T σ g) H v x)
    (k : ∀ σ', Rel K pa T H0 σ' H g' → (∀ a, Nv pa T σ' g' a → Nv pa T σ g a) → L2.wipe σ' (tgIs t) = L2.wipe σ (tgIs t) → g'.pen = g.pen → Q σ' H) : tgG K t v σ H Q := by
  cases t with
  | one i =>
    cases h
    obtain ⟨r1, s1⟩ := r.stD (hl i (by exact List.mem_singleton.mpr rfl)) hd
    exact k _ r1 s1 (setDs_ok.wipe_set (by exact List.mem_singleton.mpr rfl)) rfl
  | many is =>
    cases x with
    | tuple ds =>
      have h' : setDs g is ds = some g' := h
      obtain ⟨a, vs, rfl, h1, h2⟩ := hd.tuple_inv
      have len : ∀ {is : List Nat} {ds : List D} {g g' : G}, setDs g is ds = some g' → ds.length = is.length := by
        intro is
        induction is with
        | nil => intro ds g g' h; cases ds with
          | nil => rfl
          | cons _ _ => cases h
        | cons i is ih => intro ds g g' h; cases ds with
          | nil => cases h
          | cons d ds => rw [List.length_cons, List.length_cons, ih (show setDs (setD g i d) is ds = some g' from h)]
      exact ⟨a, vs, rfl, h1.sq, by rw [h2.length, len h'], setDs_ok h' hl r h2 fun σ' r2 s2 w2 p2 => k σ' r2 s2 (w2 is fun _ z => z) p2⟩
    | _ => cases h
end
end DL
end
section
set_option Elab.async false
set_option linter.all false
set_option maxRecDepth 100000
set_option autoImplicit false
set_option maxHeartbeats 4000000
/-! DL, part n0: enumerate of a tuple. -/
namespace DL
open PySem PySem.Spec PyProof.Rows L2
open AutoSeq1 (wpAny_loadPart')
theorem draws_tup {prog : Program} {w : World} {A : Around} (hh : A.handled = none) (it t : Addr) (ne : t ≠ it) (xs : Array Value) :
    Draws prog w A it [it, t] xs.size (fun i v => xs[i]? = some v) (fun i h => h.IsTupleIter it t i ∧ h.IsTuple t xs) := by
  constructor
  · rintro i h ⟨⟨o, ho, _⟩, _⟩
    exact ⟨o, ho⟩
  · rintro i h h' ⟨⟨o, ho, r⟩, o2, ho2, r2⟩ k
    exact ⟨⟨o, k it (by simp) o ho, r⟩, o2, k t (by simp) o2 ho2, r2⟩
  · intro i s Q E hi st hQ
    refine RZ.nextOf_tuple_item st.1 st.2 (x := xs[i]) (by simp [hi]) fun h' n1 same => ?_
    exact hQ _ h' s.toks (by simp [hi]) ⟨n1, st.2.extBut same.extBut ne⟩ same
  · intro s Q E st hE
    exact RZ.nextOf_tuple_end hh st.1 st.2 (by simp) hE
/-- what enumerate(t) lays: an iterator over t, and the object itself -/
abbrev tItO (t : Addr) : Obj := { cls := .type "tuple_iterator", data := .fields #[.ref t, .int 0 0] }
abbrev enO (it : Addr) : Obj := { cls := .type "enumerate", data := .fields #[.none, .bool false, .ref it, rawInt 0, .none, .none] }
theorem enum_new (t : Addr) (xs : Array Value) (k : Nat) (dd : Option Addr) (sl : Array (Option Value)) :
    Meets (Builtin.«enumerate.__new__» ⟨[.type "enumerate", .ref t], []⟩) (fun _ R s => s.heap.get? t = some { cls := .type "tuple", dict := dd, data := .seq xs k, slots := sl } ∧
      R (.ok (.ret (.ref (s.heap.push (tItO t)).objs.size))) { s with heap := (s.heap.push (tItO t)).push (enO s.heap.objs.size) }) :=
  .of_wp fun prog w A R s both => by
    obtain ⟨hp, ge, dr, tk, os⟩ := s
    obtain ⟨at_, fin⟩ := both
    have sub := sub_enumerate
    have tup : Heap.IsTuple (Shared.heap ⟨hp, ge, dr, tk, os⟩) t xs := ⟨_, at_, rfl, k, rfl⟩
    wp_walk using wpAny_loadPart' at_
    refine wpAny_stack_any fun st => wpAny_pure ?_
    split
    · rename_i c _ _ _ _ _
      cases (c == Value.type "enumerate") <;> (wp_walk using wpAny_loadPart' at_, wpAny_pyIter_tuple tup; exact ⟨_, rfl, fin⟩)
    · wp_walk using wpAny_loadPart' at_, wpAny_pyIter_tuple tup
      exact ⟨_, rfl, fin⟩
section
variable {prog : Program} {w : World} {A : Around} {E : Value → Shared → Prop} {s : Shared}
theorem call_enum_tup {t : Addr} {xs : Array Value} {Q : Value → Shared → Prop} (tup : s.heap.IsTuple t xs)
    (h : ∀ h', IsEnum h' (s.heap.objs.size + 1) s.heap.objs.size 0 .none → h'.IsTupleIter s.heap.objs.size t 0 → (∀ b o, s.heap.get? b = some o → h'.get? b = some o) → Q (.ref (s.heap.objs.size + 1)) { s with heap := h' }) :
    wpAny (model prog w) A (call (.type "enumerate") [.ref t]) Q E s := by
  obtain ⟨⟨c, dd, dt, sl⟩, at_, hc, k, hd⟩ := tup
  simp only at hc hd
  subst hc hd
  refine callType_new F.called_enumerate (by decide) (F.typeCall_enumerate_1 _) (F.newCall_enumerate_1 _) (fun obj => F.args_object_init_2 obj _) F.entry_enumerate_new (enum_new t xs k dd sl) ⟨at_, ?_⟩
  have sz : (s.heap.push (tItO t)).objs.size = s.heap.objs.size + 1 := Heap.size_push ..
  show _ ∧ _
  rw [sz]
  have en : IsEnum ((s.heap.push (tItO t)).push (enO s.heap.objs.size)) (s.heap.objs.size + 1) s.heap.objs.size 0 .none := by
    have q := Heap.get?_push_size (s.heap.push (tItO t)) (o := enO s.heap.objs.size) rfl
    rw [sz] at q
    exact q
  exact ⟨⟨_, en, rfl⟩, h _ en ⟨_, Heap.get?_push_of_some _ (Heap.get?_push_size _ rfl), rfl, rfl⟩ fun b o e => Heap.get?_push_of_some _ (Heap.get?_push_of_some _ e)⟩
end
/-- the tuple at a, N items long, its items in new pairs -/
def IteT (K : Fg) (a : Addr) (N : Nat) : It :=
  ⟨fun i H => ∃ (xs : List V) (x : V), SqT K H a xs ∧ xs[i]? = some x ∧ xs.length ≤ N, fun i H v H' => ∃ T x, v = .ref T ∧ H T = none ∧ H' = upd H T (.tup [.int (i : Nat), x]) ∧ ∀ xs, SqT K H a xs → xs[i]? = some x, fun i H => ∃ xs : List V, SqT K H a xs ∧ xs.length ≤ i ∧ N ≤ xs.length⟩
theorem tup_ne_it {h : Heap} {it a : Addr} {i : Nat} {xs : Array Value} (x : h.IsTupleIter it a i) (t : h.IsTuple a xs) : a ≠ it := by
  rintro rfl
  obtain ⟨o, ho, hc, _⟩ := x
  obtain ⟨o2, ho2, hc2, _⟩ := t
  rw [ho] at ho2
  cases ho2
  rw [hc] at hc2
  exact absurd (Value.type.inj hc2) (by decide)
theorem tup_ne_en {h : Heap} {e it a : Addr} {i : Int} {old : Value} {xs : Array Value} (x : IsEnum h e it i old) (t : h.IsTuple a xs) : e ≠ a := by
  rintro rfl
  obtain ⟨o2, ho2, hc2, _⟩ := t
  have x' : ∃ vs, h.get? e = some { cls := .type "enumerate", data := .fields vs } := ⟨_, x⟩
  obtain ⟨vs, x'⟩ := x'
  rw [x'] at ho2
  cases ho2
  exact absurd (Value.type.inj hc2) (by decide)
theorem turn_enT {P : Program} {w : World} {K : Fg} {elts : List Expr} {kk : Nat} {tpos : Pos} (a e it : Addr) (N : Nat) :
    Turn P w K (.Tuple elts kk tpos) (IteT K a N) [e, it] e (fun i h => (∃ old, IsEnum h e it ((i : Nat) : Int) old) ∧ h.IsTupleIter it a i ∧ e ≠ it ∧ i ≤ N) where
  mem := by simp
  obj := by
    rintro i h ⟨⟨old, he⟩, ⟨o, ho, hc, hd⟩, _⟩ b hb
    rcases List.mem_cons.mp hb with rfl | hb
    · exact ⟨_, he, fun v q => nomatch q⟩
    · cases List.mem_singleton.mp hb
      exact ⟨o, ho, fun v q => by rw [hd] at q; cases q⟩
  keep := by
    rintro i h h' ⟨⟨old, he⟩, ⟨o, ho, r⟩, ne, le⟩ k
    exact ⟨⟨old, k e (by simp) _ he⟩, ⟨o, k it (by simp) o ho, r⟩, ne, le⟩
  item := by
    intro X hP hw hK hc i pins s σ H E I hf st hg
    subst hP hw hK
    obtain ⟨⟨old, he⟩, hit, ne, le⟩ := st
    obtain ⟨xs, x, hq, hx, hN⟩ := hg
    obtain ⟨its, rv, tp, _⟩ := I.tuple hq
    obtain ⟨u, hu, ru⟩ := rv.get hx
    have le2 : e < s.heap.objs.size := Heap.lt_size he
    have li2 : it < s.heap.objs.size := by obtain ⟨_, q, _⟩ := hit; exact Heap.lt_size q
    have hlt : i < its.toArray.size := by
      have := (List.getElem?_eq_some_iff.mp hu).1
      simpa using this
    have hle : i + 1 ≤ N := by
      have := (List.getElem?_eq_some_iff.mp hx).1
      omega
    have na := tup_ne_it hit tp
    have nb := tup_ne_en he tp
    refine wpAny_pyNext_enum_itemD (draws_tup (A := X.A.in1) (I.ok.hd hc) it a na its.toArray) he ⟨hit, tp⟩ hlt ne (by simp [ne, nb]) fun z h1 tk hz out nxt hT hsz hk => ?_
    have ez : z = u := by
      have : its.toArray[i]? = some u := by simpa using hu
      rw [this] at hz
      exact (Option.some.inj hz).symm
    subst ez
    refine ⟨_, rfl, wpAny_letOwnedTupleGo_enum (s := { s with heap := h1, toks := tk + 1 }) out fun h2 en same => ?_⟩
    have hT2 : h2.get? s.heap.objs.size = some { cls := .type "tuple", data := .seq #[.int i tk, z] } := (same.2 _ (Nat.ne_of_gt le2)).trans hT
    have laid : ObjOk X.prog X.w (upd H s.heap.objs.size (.tup [.int (i : Nat), x])) h2 s.heap.objs.size (.tup [.int (i : Nat), x]) :=
      ⟨by show 2 ≤ sizeLine; decide, [.int i tk, z], .cons ⟨_, rfl⟩ (.cons ru .nil), ⟨_, hT2, rfl, _, rfl⟩⟩
    have J : Inv X pins σ (upd H s.heap.objs.size (.tup [.int (i : Nat), x])) { s with heap := h2, toks := tk + 1 } :=
      I.turnedNew (ch := [e, it]) (fun b ob hb q => (same.2 b (fun z => hb (by simp [z]))).trans (hk b ob (fun z => hb (by simp [z])) (fun z => hb (by simp [z])) q)) hf (Nat.le_refl _) laid
    refine ⟨.ref s.heap.objs.size, _, J, rfl, ⟨_, x, rfl, I.hok.fresh (Nat.le_refl _), rfl, fun ys hy => by rw [I.tuple_inj hy hq]; exact hx⟩, ⟨⟨z, ?_⟩, ?_, ne, hle⟩, fun b hb => ?_⟩
    · rw [show ((i + 1 : Nat) : Int) = (i : Int) + 1 by omega]
      exact en
    · obtain ⟨⟨o, ho, r⟩, _⟩ := nxt
      exact ⟨o, (same.2 it (Ne.symm ne)).trans ho, r⟩
    · have lb : b < s.heap.objs.size := by
        rcases List.mem_cons.mp hb with rfl | hb
        · exact le2
        · cases List.mem_singleton.mp hb
          exact li2
      rw [upd_ne (Nat.ne_of_lt lb)]
      exact (hf b hb).1
  done := by
    intro X hP hw hK hc i pins s σ H E I hf st hg
    subst hP hw hK
    obtain ⟨⟨old, he⟩, hit, ne, le⟩ := st
    obtain ⟨xs, hq, hx, hN⟩ := hg
    obtain ⟨its, rv, tp, _⟩ := I.tuple hq
    obtain ⟨f0, f1, f2, f3, f4, f5⟩ := hf it (by simp)
    have e1 : i = its.toArray.size := by
      have := rv.length
      simp only [List.size_toArray]
      omega
    subst e1
    exact wpAny_pyNext_enum_endD (draws_tup (A := X.A.in1) (I.ok.hd hc) it a (tup_ne_it hit tp) its.toArray) he ⟨hit, tp⟩ fun h1 eb => ⟨rfl, I.turned (t' := s.toks) (fun b o hb q => eb b o hb q) f0 f1 f3 f4 f5⟩
  self := fun A i s Q E st h => let ⟨⟨_, he⟩, _⟩ := st; wpAny_pyIter_enum he h
def iEnT (K : Fg) (ta : TA) : TI := fun σ H R => ta σ H fun vs H1 => ∃ a xs, vs = [.ref a] ∧ SqT K H1 a xs ∧ R (IteT K a xs.length) H1
def iEnA (K : Fg) (ta : TA) : TI := fun σ H R => ta σ H fun vs H1 => ∃ a xs, vs = [.ref a] ∧ ((SqL K H1 a xs ∧ R (Ite K a) H1) ∨ (SqT K H1 a xs ∧ R (IteT K a xs.length) H1))
theorem pi_enA {X : Cx} {e : Expr} {ta : TA} {p pos tpos : Pos} {elts : List Expr} {kk : Nat} (hg : Gl X "enumerate") (hm : X.mg "enumerate" = none) (ha : PA X [e] ta) (hs : starEach [e] X.env = [(false, eval e X.env)] := by rfl) :
    PI X (.Tuple elts kk tpos) (.Call (.Name "enumerate" p) [e] [] pos) (iEnA X.K ta) := by
  constructor
  intro pins s σ H R I h
  refine Call_ (ld_blt I hg hm boot_enumerate (PyProof.Rows.callWith_type1 (thn (ha.run pos pins s σ H _ I h) fun us s1 ⟨vs, H1, I1, r1, q1⟩ => ?_) hs rfl))
  obtain ⟨a, xs, rfl, q1⟩ := q1
  obtain ⟨u, rfl, ru⟩ := vals1 r1
  obtain rfl : u = Value.ref a := ru
  have fresh : ∀ b, b ∈ [s1.heap.objs.size + 1, s1.heap.objs.size] → FpOk X pins H1 b := fun b hb => by
    have ge : s1.heap.objs.size ≤ b := by
      rcases List.mem_cons.mp hb with rfl | hb
      · exact Nat.le_add_right _ _
      · cases List.mem_singleton.mp hb
        exact Nat.le_refl _
    exact I1.fpOk ge (I1.hok.fresh ge)
  rcases q1 with ⟨hq, q⟩ | ⟨hq, q⟩
  · obtain ⟨its, rv, pl, _⟩ := I1.list hq
    refine call_enumerate_list pl.isList fun h1 he hit _ hk => wpAny_pyIter_enum he ?_
    exact ⟨_, _, _, _, H1, rfl, I1.kept (t' := s1.toks) hk, turn_enum a (s1.heap.objs.size + 1) s1.heap.objs.size, ⟨⟨.none, he⟩, hit, Nat.succ_ne_self _⟩, fresh, q⟩
  · obtain ⟨its, rv, tp, _⟩ := I1.tuple hq
    refine call_enum_tup tp fun h1 he hit hk => wpAny_pyIter_enum he ?_
    exact ⟨_, _, _, _, H1, rfl, I1.kept (t' := s1.toks) hk, turn_enT a (s1.heap.objs.size + 1) s1.heap.objs.size xs.length, ⟨⟨.none, he⟩, hit, Nat.succ_ne_self _, Nat.zero_le _⟩, fresh, q⟩
end DL
end
section
set_option Elab.async false
set_option linter.all false
set_option maxRecDepth 100000
set_option autoImplicit false
set_option maxHeartbeats 2000000
/-! DL, part n: walks over data. -/
namespace DL
open PySem PySem.Spec PyProof.Rows L2
variable [Tabs]

/-- what J gives, turn by turn: ds, while the values of L stand for their data -/
structure Src (K : Fg) (J : It) (ds : List D) (L : List (V × D)) : Prop where
  stop : ∀ N H, (∀ q ∈ L, DR K N H q.1 q.2) → J.stop ds.length H
  go : ∀ N H i, i < ds.length → (∀ q ∈ L, DR K N H q.1 q.2) → J.go i H
  yld : ∀ N H i d x H', ds[i]? = some d → (∀ q ∈ L, DR K N H q.1 q.2) → J.yld i H x H' →
    (H' = H ∨ ∃ q ws, H q = none ∧ H' = upd H q (.tup ws)) ∧ ((∀ a, N a → ∃ o, H a = some o) → DR K N H' x d)
section
variable {K : Fg} {a b : Addr} {ds es : List D}
theorem src_list : Src K (Itl K a) ds [(.ref a, .list ds)] where
  stop := fun N H h => by
    obtain ⟨a', xs, e, h1, h2⟩ := (h _ (List.mem_singleton.mpr rfl)).list_inv
    cases e
    exact ⟨xs, h1.sq, by rw [h2.length]; exact Nat.le_refl _⟩
  go := fun N H i hi h => by
    obtain ⟨a', xs, e, h1, h2⟩ := (h _ (List.mem_singleton.mpr rfl)).list_inv
    cases e
    obtain ⟨v, h3, _⟩ := h2.get (List.getElem?_eq_getElem hi)
    exact ⟨xs, v, h1.sq, h3⟩
  yld := fun N H i d x H' hd h y => by
    obtain ⟨a', xs, e, h1, h2⟩ := (h _ (List.mem_singleton.mpr rfl)).list_inv
    cases e
    obtain ⟨rfl, y⟩ := y
    refine ⟨.inl rfl, fun _ => ?_⟩
    obtain ⟨d', h3, h4⟩ := h2.get' (y xs h1.sq)
    rw [hd] at h3
    cases h3
    exact h4
theorem src_tup : Src K (Itt K a) ds [(.ref a, .tuple ds)] where
  stop := fun N H h => by
    obtain ⟨a', xs, e, h1, h2⟩ := (h _ (List.mem_singleton.mpr rfl)).tuple_inv
    cases e
    exact ⟨xs, h1.sq, by rw [h2.length]; exact Nat.le_refl _⟩
  go := fun N H i hi h => by
    obtain ⟨a', xs, e, h1, h2⟩ := (h _ (List.mem_singleton.mpr rfl)).tuple_inv
    cases e
    obtain ⟨v, h3, _⟩ := h2.get (List.getElem?_eq_getElem hi)
    exact ⟨xs, v, h1.sq, h3⟩
  yld := fun N H i d x H' hd h y => by
    obtain ⟨a', xs, e, h1, h2⟩ := (h _ (List.mem_singleton.mpr rfl)).tuple_inv
    cases e
    obtain ⟨rfl, y⟩ := y
    refine ⟨.inl rfl, fun _ => ?_⟩
    obtain ⟨d', h3, h4⟩ := h2.get' (y xs h1.sq)
    rw [hd] at h3
    cases h3
    exact h4
theorem src_str {z : Str} : Src K (Its z) (signs z) [] where
  stop := fun N H _ => by
    show z.cps.size ≤ (signs z).length
    unfold signs
    rw [List.length_map, Array.length_toList]
    exact Nat.le_refl _
  go := fun N H i hi _ => by
    unfold signs at hi
    rw [List.length_map, Array.length_toList] at hi
    exact hi
  yld := fun N H i d x H' hd _ y => by
    obtain ⟨rfl, c, hc, rfl⟩ := y
    refine ⟨.inl rfl, fun _ => ?_⟩
    unfold signs at hd
    rw [List.getElem?_map, Array.getElem?_toList, hc] at hd
    cases hd
    exact .str _
theorem src_range {lo : Int} {n : Nat} : Src K (Itr lo n) ((List.range n).map fun (k : Nat) => PyData.int (lo + (k : Int))) [] where
  stop := fun N H _ => by rw [List.length_map, List.length_range]; exact Nat.le_refl _
  go := fun N H i hi _ => by rw [List.length_map, List.length_range] at hi; exact hi
  yld := fun N H i d x H' hd _ y => by
    obtain ⟨rfl, rfl⟩ := y
    refine ⟨.inl rfl, fun _ => ?_⟩
    rw [List.getElem?_map] at hd
    cases e : (List.range n)[i]? with
    | none => rw [e] at hd; cases hd
    | some j =>
      rw [e] at hd
      cases hd
      obtain ⟨h1, h2⟩ := List.getElem?_eq_some_iff.mp e
      rw [List.getElem_range] at h2
      subst h2
      exact .int _
theorem src_rangeC {lo c : Int} {n : Nat} : Src K (Itc lo c n) ((List.range n).map fun (k : Nat) => PyData.int (lo + (k : Int) * c)) [] where
  stop := fun N H _ => by rw [List.length_map, List.length_range]; exact Nat.le_refl _
  go := fun N H i hi _ => by rw [List.length_map, List.length_range] at hi; exact hi
  yld := fun N H i d x H' hd _ y => by
    obtain ⟨rfl, rfl⟩ := y
    refine ⟨.inl rfl, fun _ => ?_⟩
    rw [List.getElem?_map] at hd
    cases e : (List.range n)[i]? with
    | none => rw [e] at hd; cases hd
    | some j =>
      rw [e] at hd
      cases hd
      obtain ⟨h1, h2⟩ := List.getElem?_eq_some_iff.mp e
      rw [List.getElem_range] at h2
      subst h2
      exact .int _
theorem pair_new {N : AS} {H : Hp} {T : Addr} {x y : V} {d e : D} (hT : H T = none) (hx : DR K N H x d) (hy : DR K N H y e) (hN : ∀ a, N a → ∃ o, H a = some o) : DR K N (upd H T (.tup [x, y])) (.ref T) (.tuple [d, e]) := by
  have up : ∀ {v z}, DR K N H v z → DR K N (upd H T (.tup [x, y])) v z := fun {v z} q => DR.ext (m := fun _ => False) (.new hT) (fun _ h => h.elim) q
  refine .tup (.inl ⟨fun z => ?_, .of upd_same⟩) (.cons (up hx) (.cons (up hy) .nil))
  obtain ⟨o, h⟩ := hN T z
  rw [hT] at h
  cases h
theorem src_enum : Src K (Ite K a) (enuD ds) [(.ref a, .list ds)] where
  stop := fun N H h => by
    obtain ⟨a', xs, e, h1, h2⟩ := (h _ (List.mem_singleton.mpr rfl)).list_inv
    cases e
    refine ⟨xs, h1.sq, ?_⟩
    unfold enuD
    rw [h2.length, List.length_map, List.length_zipIdx]
    exact Nat.le_refl _
  go := fun N H i hi h => by
    obtain ⟨a', xs, e, h1, h2⟩ := (h _ (List.mem_singleton.mpr rfl)).list_inv
    cases e
    unfold enuD at hi
    rw [List.length_map, List.length_zipIdx] at hi
    obtain ⟨v, h3, _⟩ := h2.get (List.getElem?_eq_getElem hi)
    exact ⟨xs, v, h1.sq, h3⟩
  yld := fun N H i d x H' hd h y => by
    obtain ⟨a', xs, e, h1, h2⟩ := (h _ (List.mem_singleton.mpr rfl)).list_inv
    cases e
    obtain ⟨T, x', rfl, hT, rfl, y⟩ := y
    refine ⟨.inr ⟨T, _, hT, rfl⟩, fun hN => ?_⟩
    obtain ⟨d', h3, h4⟩ := h2.get' (y xs h1.sq)
    unfold enuD at hd
    rw [List.getElem?_map, List.getElem?_zipIdx, h3] at hd
    simp only [Option.map_some, Nat.zero_add, Option.some.injEq] at hd
    subst hd
    exact pair_new hT (.int _) h4 hN
theorem src_enumT : Src K (IteT K a ds.length) (enuD ds) [(.ref a, .tuple ds)] where
  stop := fun N H h => by
    obtain ⟨a', xs, e, h1, h2⟩ := (h _ (List.mem_singleton.mpr rfl)).tuple_inv
    cases e
    have hl := h2.length
    refine ⟨xs, h1.sq, ?_, ?_⟩
    · unfold enuD
      rw [List.length_map, List.length_zipIdx]
      omega
    · omega
  go := fun N H i hi h => by
    obtain ⟨a', xs, e, h1, h2⟩ := (h _ (List.mem_singleton.mpr rfl)).tuple_inv
    cases e
    unfold enuD at hi
    rw [List.length_map, List.length_zipIdx] at hi
    obtain ⟨v, h3, _⟩ := h2.get (List.getElem?_eq_getElem hi)
    exact ⟨xs, v, h1.sq, h3, by have := h2.length; omega⟩
  yld := fun N H i d x H' hd h y => by
    obtain ⟨a', xs, e, h1, h2⟩ := (h _ (List.mem_singleton.mpr rfl)).tuple_inv
    cases e
    obtain ⟨T, x', rfl, hT, rfl, y⟩ := y
    refine ⟨.inr ⟨T, _, hT, rfl⟩, fun hN => ?_⟩
    obtain ⟨d', h3, h4⟩ := h2.get' (y xs h1.sq)
    unfold enuD at hd
    rw [List.getElem?_map, List.getElem?_zipIdx, h3] at hd
    simp only [Option.map_some, Nat.zero_add, Option.some.injEq] at hd
    subst hd
    exact pair_new hT (.int _) h4 hN
theorem src_zip : Src K (Itz K a b) (zipD ds es) [(.ref a, .list ds), (.ref b, .list es)] where
  stop := fun N H h => by
    obtain ⟨a', xs, e, h1, h2⟩ := (h (.ref a, .list ds) (by simp)).list_inv
    cases e
    obtain ⟨b', ys, e, h3, h4⟩ := (h (.ref b, .list es) (by simp)).list_inv
    cases e
    refine ⟨xs, ys, h1.sq, h3.sq, ?_⟩
    unfold zipD
    rw [h2.length, h4.length, List.length_map, List.length_zip]
    omega
  go := fun N H i hi h => by
    obtain ⟨a', xs, e, h1, h2⟩ := (h (.ref a, .list ds) (by simp)).list_inv
    cases e
    obtain ⟨b', ys, e, h3, h4⟩ := (h (.ref b, .list es) (by simp)).list_inv
    cases e
    unfold zipD at hi
    rw [List.length_map, List.length_zip] at hi
    obtain ⟨v, q1, _⟩ := h2.get (List.getElem?_eq_getElem (show i < ds.length by omega))
    obtain ⟨u, q2, _⟩ := h4.get (List.getElem?_eq_getElem (show i < es.length by omega))
    exact ⟨xs, ys, v, u, h1.sq, h3.sq, q1, q2⟩
  yld := fun N H i d x H' hd h y => by
    obtain ⟨a', xs, e, h1, h2⟩ := (h (.ref a, .list ds) (by simp)).list_inv
    cases e
    obtain ⟨b', ys, e, h3, h4⟩ := (h (.ref b, .list es) (by simp)).list_inv
    cases e
    obtain ⟨T, x', y', rfl, hT, rfl, y1, y2⟩ := y
    refine ⟨.inr ⟨T, _, hT, rfl⟩, fun hN => ?_⟩
    obtain ⟨d', q1, q2⟩ := h2.get' (y1 xs h1.sq)
    obtain ⟨e', q3, q4⟩ := h4.get' (y2 ys h3.sq)
    unfold zipD at hd
    have ez : (ds.zip es)[i]? = some (d', e') := List.getElem?_zip_eq_some.mpr ⟨q1, q3⟩
    rw [List.getElem?_map, ez] at hd
    cases hd
    exact pair_new hT q2 q4 hN
theorem src_zipT : Src K (RZ.ItzT K a b) (zipD ds es) [(.ref a, .tuple ds), (.ref b, .tuple es)] where
  stop := fun N H h => by
    obtain ⟨a', xs, e, h1, h2⟩ := (h (.ref a, .tuple ds) (by simp)).tuple_inv
    cases e
    obtain ⟨b', ys, e, h3, h4⟩ := (h (.ref b, .tuple es) (by simp)).tuple_inv
    cases e
    refine ⟨xs, ys, h1.sq, h3.sq, ?_⟩
    unfold zipD
    rw [h2.length, h4.length, List.length_map, List.length_zip]
    omega
  go := fun N H i hi h => by
    obtain ⟨a', xs, e, h1, h2⟩ := (h (.ref a, .tuple ds) (by simp)).tuple_inv
    cases e
    obtain ⟨b', ys, e, h3, h4⟩ := (h (.ref b, .tuple es) (by simp)).tuple_inv
    cases e
    unfold zipD at hi
    rw [List.length_map, List.length_zip] at hi
    obtain ⟨v, q1, _⟩ := h2.get (List.getElem?_eq_getElem (show i < ds.length by omega))
    obtain ⟨u, q2, _⟩ := h4.get (List.getElem?_eq_getElem (show i < es.length by omega))
    exact ⟨xs, ys, v, u, h1.sq, h3.sq, q1, q2⟩
  yld := fun N H i d x H' hd h y => by
    obtain ⟨a', xs, e, h1, h2⟩ := (h (.ref a, .tuple ds) (by simp)).tuple_inv
    cases e
    obtain ⟨b', ys, e, h3, h4⟩ := (h (.ref b, .tuple es) (by simp)).tuple_inv
    cases e
    obtain ⟨T, x', y', rfl, hT, rfl, y1, y2⟩ := y
    refine ⟨.inr ⟨T, _, hT, rfl⟩, fun hN => ?_⟩
    obtain ⟨d', q1, q2⟩ := h2.get' (y1 xs h1.sq)
    obtain ⟨e', q3, q4⟩ := h4.get' (y2 ys h3.sq)
    unfold zipD at hd
    have ez : (ds.zip es)[i]? = some (d', e') := List.getElem?_zip_eq_some.mpr ⟨q1, q3⟩
    rw [List.getElem?_map, ez] at hd
    cases hd
    exact pair_new hT q2 q4 hN
end
section
variable {P : Program} {w : World} {K : Fg} {mg : Str → Option Value} {base : Heap} {p : Pgm} {n m : Nat} {X : Cx} {c : Ct} {E : Ev} {a : IE}
def OKk (X : Cx) (e : Expr) (f : G → Option (D × G)) : Prop := ∀ g x g', f g = some (x, g') → ∀ pa T H0 σ H (Q : VK), Rel X.K pa T H0 σ H g →
  (∀ v H', PostK X.K pa T H0 σ H g v H' x g' → Q v H') → wE X e σ H Q
theorem OKe.kp {e : Expr} (h : OKe X e (E.e a)) : OKk X e (kp1 E a) := by
  intro g x g' q pa T H0 σ H Q r k
  unfold kp1 at q
  cases e1 : E.e a g with
  | none => simp only [e1] at q; cases q
  | some rg =>
    obtain ⟨r1, g1⟩ := rg
    simp only [e1] at q
    exact h g r1 g1 e1 pa T H0 σ H Q r fun v H' p => k v H' (p.keep q)
/-- one behind the other, kept -/
theorem evDs_one {i : IE} {g g' : G} {d : D} (q : evDs E [i] g = some ([d], g')) : kp1 E i g = some (d, g') := by
  unfold evDs at q
  unfold kp1
  cases f1 : E.e i g with
  | none => simp only [f1] at q; cases q
  | some rg =>
    obtain ⟨r1, ga⟩ := rg
    simp only [f1] at q ⊢
    cases f2 : keepR r1 ga with
    | none => simp only [f2] at q; cases q
    | some dg =>
      obtain ⟨dd, gb⟩ := dg
      simp only [f2, evDs, Option.some.injEq, Prod.mk.injEq, List.cons.injEq, and_true] at q ⊢
      exact q
theorem evDs_cons {i : IE} {is : List IE} {g g' : G} {d : D} {ds : List D} (q : evDs E (i :: is) g = some (d :: ds, g')) : ∃ g1, kp1 E i g = some (d, g1) ∧ evDs E is g1 = some (ds, g') := by
  unfold evDs at q
  unfold kp1
  cases f1 : E.e i g with
  | none => simp only [f1] at q; cases q
  | some rg =>
    obtain ⟨r1, ga⟩ := rg
    simp only [f1] at q ⊢
    cases f2 : keepR r1 ga with
    | none => simp only [f2] at q; cases q
    | some dg =>
      obtain ⟨dd, gb⟩ := dg
      simp only [f2] at q
      cases f3 : evDs E is gb with
      | none => simp only [f3] at q; cases q
      | some dg3 =>
        obtain ⟨ds3, g3⟩ := dg3
        simp only [f3, Option.some.injEq, Prod.mk.injEq, List.cons.injEq] at q
        obtain ⟨⟨rfl, rfl⟩, rfl⟩ := q
        exact ⟨gb, rfl, f3⟩
theorem folded {e : Expr} {env : Env} (h : notSet e = true) (x : Value) : foldedSetIterable e env x = pure x := by
  cases e <;> first | rfl | cases h
theorem walk_ok (O : XO P w K mg base p n X c) (h : ∀ e i, chkE p m c e i = true → OKe X e (E.e i)) {tg e : Expr} {ik : Ik} {its : List IE} (hc : chkIt (chkE p m c) c tg ik its e = true) {g g1 : G} {ds : List D} (q : itsD E ik its g = some (ds, g1)) :
    ∀ pa T H0 σ H (R : It → Hp → Prop), Rel X.K pa T H0 σ H g → (∀ J H1 L, PostN X.K pa T H0 σ H g H1 g1 → Src X.K J ds L → (∀ q ∈ L, DR X.K (Nv pa T σ g1) H1 q.1 q.2) → R J H1) → wI X tg e σ H R := by
  intro pa T H0 σ H R rl k
  unfold chkIt at hc
  rw [Bool.and_eq_true] at hc
  obtain ⟨hset, hc⟩ := hc
  cases ik with
  | seq =>
    cases its with
    | nil => cases hc
    | cons i is =>
      cases is with
      | cons _ _ => cases hc
      | nil =>
        simp only [itsD] at q
        cases e1 : kp1 E i g with
        | none => simp only [e1] at q; cases q
        | some t =>
          obtain ⟨x, g2⟩ := t
          simp only [e1] at q
          have run := OKe.kp (h e i hc) g x g2 e1 pa T H0 σ H
          cases x with
          | list xs =>
            simp only [seqD, Option.map_some, Option.some.injEq, Prod.mk.injEq] at q
            obtain ⟨rfl, rfl⟩ := q
            refine wI_of (pi_list pe_w) (run _ rl fun v H1 p1 => ?_)
            obtain ⟨a, vs, rfl, h1, h2⟩ := p1.dr.list_inv
            exact ⟨a, rfl, ⟨vs, h1.sq⟩, k _ _ _ p1.n src_list fun q hq => by rw [List.mem_singleton.mp hq]; exact p1.dr⟩
          | tuple xs =>
            simp only [seqD, Option.map_some, Option.some.injEq, Prod.mk.injEq] at q
            obtain ⟨rfl, rfl⟩ := q
            refine wI_of (pi_tup pe_w) (run _ rl fun v H1 p1 => ?_)
            obtain ⟨a, vs, rfl, h1, h2⟩ := p1.dr.tuple_inv
            exact ⟨a, rfl, ⟨vs, h1.sq⟩, k _ _ _ p1.n src_tup fun q hq => by rw [List.mem_singleton.mp hq]; exact p1.dr⟩
          | str z =>
            simp only [seqD, Option.map_some, Option.some.injEq, Prod.mk.injEq] at q
            obtain ⟨rfl, rfl⟩ := q
            refine wI_of (pi_str pe_w) (run _ rl fun v H1 p1 => ?_)
            exact ⟨z, p1.dr.str_inv, k _ _ _ p1.n src_str fun q hq => by cases hq⟩
          | _ => simp only [seqD] at q; cases q
  | rng =>
    cases e with
    | Call f args kws pos =>
      cases f with
      | Name s ps =>
        cases kws with
        | cons _ _ => cases hc
        | nil =>
          simp only [Bool.and_eq_true] at hc
          obtain ⟨⟨hs, hg⟩, hc⟩ := hc
          have hs' := eq_of_beq hs
          subst hs'
          have mr := O.bln (s := "range") (by decide)
          simp only [itsD] at q
          cases e1 : evDs E its g with
          | none => simp only [e1] at q; cases q
          | some t =>
            obtain ⟨xs, g2⟩ := t
            simp only [e1] at q
            cases e2 : rngD xs with
            | none => simp only [e2] at q; cases q
            | some ys =>
              simp only [e2, Option.map_some, Option.some.injEq, Prod.mk.injEq] at q
              obtain ⟨rfl, rfl⟩ := q
              have run := ok_ds h hc g xs g2 e1 pa T H0 σ H
              have hl1 := chkEs_len hc
              have hl2 := evDs_len g xs g2 e1
              unfold rngD at e2
              split at e2
              · rename_i j
                split at e2
                · rename_i hb
                  cases e2
                  have hl : args.length = 1 := by rw [hl1, ← hl2]; rfl
                  match args, hl with
                  | [a1], _ =>
                    have st : notStar a1 = true := by
                      cases its with
                      | nil => cases hc
                      | cons i is => simp only [chkEs, Bool.and_eq_true] at hc; exact hc.1.1
                    refine wI_of (pi_range1 (gl_of O hg) mr pa_w (by rw [star_cons st]; rfl)) (run _ rl fun vs H1 p1 => ?_)
                    cases p1.dr with
                    | cons q1 q2 => cases q2; rw [q1.int_inv]; exact ⟨j, rfl, hb.1, hb.2, k _ _ _ p1.n src_range fun q hq => by cases hq⟩
                · cases e2
              · rename_i i j
                split at e2
                · rename_i hb
                  cases e2
                  have hl : args.length = 2 := by rw [hl1, ← hl2]; rfl
                  match args, hl with
                  | [a1, a2], _ =>
                    have st : notStar a1 = true ∧ notStar a2 = true := by
                      cases its with
                      | nil => cases hc
                      | cons i is => cases is with
                        | nil => simp [chkEs] at hc
                        | cons i2 is2 => simp only [chkEs, Bool.and_eq_true] at hc; exact ⟨hc.1.1, hc.2.1.1⟩
                    refine wI_of (pi_range2 (gl_of O hg) mr pa_w (by rw [star_cons st.1, star_cons st.2]; rfl) (by rw [star_cons st.2]; rfl)) (run _ rl fun vs H1 p1 => ?_)
                    cases p1.dr with
                    | cons q1 q2 => cases q2 with
                      | cons q2 q3 => cases q3; rw [q1.int_inv, q2.int_inv]; exact ⟨i, j, rfl, hb, k _ _ _ p1.n src_range fun q hq => by cases hq⟩
                · cases e2
              · rename_i i j
                split at e2
                · rename_i hb
                  cases e2
                  have hl : args.length = 3 := by rw [hl1, ← hl2]; rfl
                  match args, hl with
                  | [a1, a2, a3], _ =>
                    have st : notStar a1 = true ∧ notStar a2 = true ∧ notStar a3 = true := by
                      cases its with
                      | nil => cases hc
                      | cons i is => cases is with
                        | nil => simp [chkEs] at hc
                        | cons i2 is2 => cases is2 with
                          | nil => simp [chkEs] at hc
                          | cons i3 is3 => simp only [chkEs, Bool.and_eq_true] at hc; exact ⟨hc.1.1, hc.2.1.1, hc.2.2.1.1⟩
                    refine wI_of (pi_range3 (gl_of O hg) mr pa_w (star_cons st.1) (by rw [star_cons st.2.1, star_cons st.2.2]; rfl)) (run _ rl fun vs H1 p1 => ?_)
                    cases p1.dr with
                    | cons q1 q2 => cases q2 with
                      | cons q2 q3 => cases q3 with
                        | cons q3 q4 => cases q4; rw [q1.int_inv, q2.int_inv, q3.int_inv]; exact ⟨i, j, -1, (i - j).toNat, rfl, RgC.neg (by omega) (by omega) (by omega) (by omega), k _ _ _ p1.n src_rangeC fun q hq => by cases hq⟩
                · cases e2
              · cases e2
      | _ => cases hc
    | _ => cases hc
  | enu =>
    rw [Bool.and_eq_true] at hc
    obtain ⟨ht, hc⟩ := hc
    cases e with
    | Call f args kws pos =>
      cases f with
      | Name s ps =>
        cases kws with
        | cons _ _ => cases hc
        | nil =>
          simp only [Bool.and_eq_true] at hc
          obtain ⟨⟨⟨hs, hg⟩, hn⟩, hc⟩ := hc
          have hs' := eq_of_beq hs
          subst hs'
          have mr := O.bln (s := "enumerate") (by decide)
          have hl1 := chkEs_len hc
          match its, args, hl1, eq_of_beq hn with
          | [i], [a1], _, _ =>
            simp only [chkEs, Bool.and_eq_true] at hc
            simp only [itsD] at q
            cases e1 : kp1 E i g with
            | none => simp only [e1] at q; cases q
            | some t =>
              obtain ⟨x, g2⟩ := t
              cases x with
              | list xs =>
                simp only [e1, Option.some.injEq, Prod.mk.injEq] at q
                obtain ⟨rfl, rfl⟩ := q
                cases tg with
                | Tuple elts kk tpos =>
                  refine wI_of (pi_enA (gl_of O hg) mr (pa_cons pe_w pa_nil (star_cons hc.1.1)) (by rw [star_cons hc.1.1]; rfl)) (OKe.kp (h a1 i hc.1.2) g _ g2 e1 pa T H0 σ H _ rl fun v H1 p1 => ?_)
                  obtain ⟨a, vs, rfl, h1, h2⟩ := p1.dr.list_inv
                  exact ⟨a, vs, rfl, .inl ⟨h1.sq, k _ _ _ p1.n src_enum fun q hq => by rw [List.mem_singleton.mp hq]; exact p1.dr⟩⟩
                | _ => cases ht
              | tuple xs =>
                simp only [e1, Option.some.injEq, Prod.mk.injEq] at q
                obtain ⟨rfl, rfl⟩ := q
                cases tg with
                | Tuple elts kk tpos =>
                  refine wI_of (pi_enA (gl_of O hg) mr (pa_cons pe_w pa_nil (star_cons hc.1.1)) (by rw [star_cons hc.1.1]; rfl)) (OKe.kp (h a1 i hc.1.2) g _ g2 e1 pa T H0 σ H _ rl fun v H1 p1 => ?_)
                  obtain ⟨a, vs, rfl, h1, h2⟩ := p1.dr.tuple_inv
                  exact ⟨a, vs, rfl, .inr ⟨h1.sq, h2.length ▸ k _ _ _ p1.n src_enumT fun q hq => by rw [List.mem_singleton.mp hq]; exact p1.dr⟩⟩
                | _ => cases ht
              | _ => simp only [e1] at q; cases q
      | _ => cases hc
    | _ => cases hc
  | zip =>
    rw [Bool.and_eq_true] at hc
    obtain ⟨ht, hc⟩ := hc
    cases e with
    | Call f args kws pos =>
      cases f with
      | Name s ps =>
        cases kws with
        | cons _ _ => cases hc
        | nil =>
          simp only [Bool.and_eq_true] at hc
          obtain ⟨⟨⟨hs, hg⟩, hn⟩, hc⟩ := hc
          have hs' := eq_of_beq hs
          subst hs'
          have mr := O.bln (s := "zip") (by decide)
          have hl1 := chkEs_len hc
          match its, args, hl1, eq_of_beq hn with
          | [i, i2], [a1, a2], _, _ =>
            have hc0 := hc
            simp only [chkEs, Bool.and_eq_true] at hc
            simp only [itsD] at q
            cases e1 : evDs E [i, i2] g with
            | none => simp only [e1] at q; cases q
            | some t =>
              obtain ⟨xs, g2⟩ := t
              simp only [e1] at q
              split at q
              · rename_i xs ys g3 eq
                simp only [Option.some.injEq, Prod.mk.injEq] at eq q
                obtain ⟨rfl, rfl⟩ := eq
                obtain ⟨rfl, rfl⟩ := q
                cases tg with
                | Tuple elts kk tpos =>
                  refine wI_of (RZ.pi_zipA (gl_of O hg) mr pa_w (star_cons hc.1.1) (by rw [star_cons hc.2.1.1]; rfl)) (ok_ds h hc0 g _ _ e1 pa T H0 σ H _ rl fun vs H1 p1 => ?_)
                  cases p1.dr with
                  | cons q1 q2 => cases q2 with
                    | cons q2 q3 =>
                      cases q3
                      obtain ⟨a, vs, rfl, h1, h2⟩ := q1.list_inv
                      obtain ⟨b, ws, rfl, h3, h4⟩ := q2.list_inv
                      exact ⟨a, b, vs, ws, rfl, .inl ⟨h1.sq, h3.sq, k _ _ _ p1.n src_zip fun q hq => by
                        rcases List.mem_cons.mp hq with z | z
                        · rw [z]; exact q1
                        · rw [List.mem_singleton.mp z]; exact q2⟩⟩
                | _ => cases ht
              · rename_i xs ys g3 eq
                simp only [Option.some.injEq, Prod.mk.injEq] at eq q
                obtain ⟨rfl, rfl⟩ := eq
                obtain ⟨rfl, rfl⟩ := q
                cases tg with
                | Tuple elts kk tpos =>
                  refine wI_of (RZ.pi_zipA (gl_of O hg) mr pa_w (star_cons hc.1.1) (by rw [star_cons hc.2.1.1]; rfl)) (ok_ds h hc0 g _ _ e1 pa T H0 σ H _ rl fun vs H1 p1 => ?_)
                  cases p1.dr with
                  | cons q1 q2 => cases q2 with
                    | cons q2 q3 =>
                      cases q3
                      obtain ⟨a, vs, rfl, h1, h2⟩ := q1.tuple_inv
                      obtain ⟨b, ws, rfl, h3, h4⟩ := q2.tuple_inv
                      exact ⟨a, b, vs, ws, rfl, .inr ⟨h1.sq, h3.sq, k _ _ _ p1.n src_zipT fun q hq => by
                        rcases List.mem_cons.mp hq with z | z
                        · rw [z]; exact q1
                        · rw [List.mem_singleton.mp z]; exact q2⟩⟩
                | _ => cases ht
              · cases q
      | _ => cases hc
    | _ => cases hc
end
end DL
end
section
set_option Elab.async false
set_option linter.all false
set_option maxRecDepth 100000
set_option autoImplicit false
set_option maxHeartbeats 2000000
/-! DL, part o: comprehensions. -/
namespace DL
open PySem PySem.Spec PyProof.Rows L2
variable [Tabs]
section
variable {P : Program} {w : World} {K : Fg} {mg : Str → Option Value} {base : Heap} {p : Pgm} {n m : Nat} {X : Cx} {c : Ct} {E : Ev}
theorem Ext.skip {m : AS} {H H1 : Hp} {q : Addr} {o : HO} {vs : List V} (e : Ext m H H1) (h : H q = none) (h1 : H1 q = some (.lst vs)) : Ext m H (upd H1 q o) :=
  ⟨fun b u q1 q2 q3 => (upd_ne (fun z : b = q => by rw [z, h] at q1; cases q1)).trans (e.k b u q1 q2 q3), fun b z => tab_upd (fun ps q => by rw [h1] at q; cases q) b (e.t b z), fun b z => e.d b (upd_no b z)⟩
theorem wipe_wipe (σ : L2.St) (vs : List Nat) : L2.wipe (L2.wipe σ vs) vs = L2.wipe σ vs := by
  have lem : ∀ (ks js : List Nat), (∀ k ∈ ks, k ∈ js) → L2.wipe (L2.wipe σ ks) js = L2.wipe σ js := by
    intro ks
    induction ks with
    | nil => intro js _; rfl
    | cons k ks ih =>
      intro js h
      show L2.wipe ((L2.wipe σ ks).set k none) js = L2.wipe σ js
      rw [setDs_ok.wipe_set (h k List.mem_cons_self)]
      exact ih js fun j hj => h j (List.mem_cons_of_mem _ hj)
  exact lem vs vs fun _ h => h
theorem nmOf_ix (N : List Str) (own : List Nat) : (nmOf N own).map (·.2) = own := by
  unfold nmOf
  rw [List.map_map]
  exact List.map_id own
/-- the words of a comprehension's block, whatever frame it runs in -/
def wEb (X : Cx) (scope : Scope) (e : Expr) : TE := fun σ H Q => ∀ (s : Shared) (H1 : Hp) (C : Addr) (cl : List (Str × Addr)) (fp : List Addr), wE (X.blk s H1 scope (compEnvC scope cl C X.env) fp) e σ H Q
def wTb (X : Cx) (scope : Scope) (e : Expr) : TT := fun σ H Q => ∀ (s : Shared) (H1 : Hp) (C : Addr) (cl : List (Str × Addr)) (fp : List Addr), wT (X.blk s H1 scope (compEnvC scope cl C X.env) fp) e σ H Q
theorem XO.blk (O : XO P w K mg base p n X c) {scope : Scope} (hk : scope.kind = .function) (s : Shared) (H1 : Hp) (C : Addr) (cl : List (Str × Addr)) (fp : List Addr) : XO P w K mg base p n (X.blk s H1 scope (compEnvC scope cl C X.env) fp) ⟨c.N, relS scope c.sc⟩ where
  eP := O.eP
  ew := O.ew
  eK := O.eK
  em := O.em
  eb := O.eb
  room := O.room
  gd := O.gd
  calm := O.calm
  nd := O.nd
  cN := O.cN
  cs := by rw [O.cs]; rfl
  kf := hk
  xe := rfl
  cd := O.cd
  tbs := O.tbs
  bl := O.bl
  cst := O.cst
theorem XG.blk (O : XO P w K mg base p n X c) {scope : Scope} (s : Shared) (H1 : Hp) (C : Addr) (cl : List (Str × Addr)) (fp : List Addr) : XG (X.blk s H1 scope (compEnvC scope cl C X.env) fp) ⟨c.N, scope⟩ where
  calm := O.calm
  nd := O.nd
  cN := O.cN
  st := fun x hx => by
    rcases loc_of hx with h | h
    · have h' := lookup_relS_keep (sc := X.env.scope) (k := .local) (by decide) h
      exact ⟨.inl h', .inr h'⟩
    · have h' := lookup_relS_keep (sc := X.env.scope) (k := .cell) (by decide) h
      refine ⟨.inr h', .inl ?_⟩
      show (scope.names.lookup x == some .cell) = true
      rw [h]
      rfl
/-- a condition's words -/
def cndT (X : Cx) (scope : Scope) : List Expr → TT
  | [q] => wTb X scope q
  | _ => tYes
def evC (E : Ev) (cond : Option IE) (g : G) : Option (Bool × G) := match cond with | none => some (true, g) | some c => E.t c g
theorem lc_read (O : XO P w K mg base p n X c) (h : ∀ e i, chkE p m c e i = true → OKe X e (E.e i)) {scope : Scope} (hk : scope.kind = .function) {elt t it : Expr} {ifs : List Expr} {ielt : IE} {tg : Tg} {ik : Ik} {its : List IE} {cond : Option IE} {own : List Nat}
    (htg : chkTg ⟨c.N, scope⟩ t tg = true) (how : tgIs tg = own) (hit : chkIt (chkE p m c) c t ik its it = true)
    (hel : ∀ s H1 C cl fp, OKe (X.blk s H1 scope (compEnvC scope cl C X.env) fp) elt (E.e ielt))
    (hcn : (ifs = [] ∧ cond = none) ∨ ∃ q iq, ifs = [q] ∧ cond = some iq ∧ ∀ s H1 C cl fp, OKt (X.blk s H1 scope (compEnvC scope cl C X.env) fp) q (E.t iq))
    {g g' : G} {r : R} (q : stE E (.lc ielt tg ik its cond own) g = some (r, g')) {pa : Addr} {T : AS} {H0 H : Hp} {σ : L2.St} {Q : VK} (hlen : σ.length = X.N.length) (rl : Rel X.K pa T H0 σ H g) (kk : ∀ v H', PostE X.K pa T H0 σ H g v H' r g' → Q v H') :
    tLc (wI X t it) (tgG X.K tg) (cndT X scope ifs) (wEb X scope elt) own σ H Q := by
  simp only [stE] at q
  cases e1 : itsD E ik its g with
  | none => simp only [e1] at q; cases q
  | some dg =>
    obtain ⟨ds, g1⟩ := dg
    simp only [e1] at q
    cases e2 : evLc E ielt tg cond own ds [] g1 with
    | none => simp only [e2] at q; cases q
    | some ag =>
      obtain ⟨accF, g2⟩ := ag
      simp only [e2, Option.map_some, Option.some.injEq, Prod.mk.injEq] at q
      obtain ⟨rfl, rfl⟩ := q
      refine walk_ok O h hit e1 pa T H0 σ H _ rl fun J H1 L pn S hL Da hDa => ?_
      -- the watched addresses, the slots and the state within
      have rl1 := pn.rel
      have nTD : ¬ T Da := fun z => rl1.fresh hDa (.inl z)
      have hD0 : H0 Da = none := rl1.x0.d _ hDa
      have hDH : H Da = none := pn.ext.d _ hDa
      let T1 : AS := fun a => T a ∨ a = Da
      let gw : G → G := fun gi => { gi with env := wipeE gi.env own }
      have rlw : Rel X.K pa T1 H0 (L2.wipe σ own) (upd H1 Da (.lst [])) (gw g1) := ((rl1.watch (o := .lst []) hDa fun _ => nofun).wipe own).1
      have subw : ∀ a, Nv pa T1 (L2.wipe σ own) (gw g1) a → Nv pa T σ g1 a ∨ a = Da := fun a z => by
        rcases ((rl1.watch (o := .lst []) hDa fun _ => nofun).wipe own).2 a z with (z | z) | z
        · exact .inl (.inl z)
        · exact .inr z
        · exact .inl (.inr z)
      let Inv1 : Nat → Hp → Prop := fun i Hi => ∃ gi acc vs, evLc E ielt tg cond own (ds.drop i) acc gi = some (accF, g2) ∧ Ext (pm pa g1.pen) H1 Hi ∧ Rel X.K pa T1 H0 (L2.wipe σ own) Hi (gw gi) ∧ gi.pen.isSome = g1.pen.isSome ∧
        (∀ a, Nv pa T1 (L2.wipe σ own) (gw gi) a → Nv pa T1 (L2.wipe σ own) (gw g1) a) ∧ Hi Da = some (.lst vs) ∧ DRs X.K (Nv pa T1 (L2.wipe σ own) (gw gi)) Hi vs acc ∧ ∀ q ∈ L, DR X.K (Nv pa T1 (L2.wipe σ own) (gw gi)) Hi q.1 q.2
      have start : Inv1 0 (upd H1 Da (.lst [])) := by
        refine ⟨g1, [], [], by rw [List.drop_zero]; exact e2, .new hDa, rlw, rfl, fun _ z => z, upd_same, .nil, fun q hq => ?_⟩
        have d0 := (hL q hq).grow hDa
        have d1 : DR X.K (fun a => Nv pa T σ g1 a ∨ a = Da) (upd H1 Da (.lst [])) q.1 q.2 := DR.ext (m := fun _ => False) (.new hDa) (fun _ z => z.elim) d0
        exact d1.mono subw
      refine ⟨fun i k Hi => k = ds.length - i ∧ i ≤ ds.length ∧ Inv1 i Hi, ⟨ds.length, by simp, Nat.zero_le _, start⟩, ?_⟩
      rintro i k Hi ⟨rfl, hi, gi, acc, vs, ev1, x1, rli, peni, subi, hDi, hacc, hLi⟩
      by_cases hlt : i < ds.length
      · refine .inr ⟨S.go _ Hi i hlt hLi, Inv1 (i + 1), fun H' p' => ⟨ds.length - (i + 1), by omega, rfl, hlt, p'⟩, fun x H' y => ?_⟩
        have hd : ds[i]? = some ds[i] := List.getElem?_eq_getElem hlt
        obtain ⟨hH', hxd⟩ := S.yld _ Hi i ds[i] x H' hd hLi y
        have hx := hxd fun a z => let ⟨o, h1, _⟩ := rli.nv a z; ⟨o, h1⟩
        have epm : pm pa gi.pen = pm pa g1.pen := pm_eq peni
        -- the heap that the iterator leaves
        have rl' : Rel X.K pa T1 H0 (L2.wipe σ own) H' (gw gi) := by
          rcases hH' with rfl | ⟨q, ws, hq, rfl⟩
          · exact rli
          · exact rli.lay hq
        have x' : Ext (pm pa gi.pen) Hi H' := by
          rcases hH' with rfl | ⟨q, ws, hq, rfl⟩
          · exact .refl _ _
          · exact .new hq
        have hm' : ∀ {g' : G} {σ' : L2.St}, ∀ a, pm pa g'.pen a → Nv pa T1 σ' g' a := fun {g' σ'} a z => .inr (.inl z)
        have nDp : ∀ {g' : G} {σ' : L2.St} {H' : Hp}, Rel X.K pa T1 H0 σ' H' g' → ¬ pm pa g'.pen Da := fun {g' σ' H'} r z => by
          obtain ⟨xs, e'⟩ := Option.isSome_iff_exists.mp z.1
          exact (r.pn xs e').1 (.inr z.2.symm)
        rw [List.drop_eq_getElem_cons hlt] at ev1
        unfold evLc at ev1
        cases f1 : asgT tg ds[i] (gw gi) with
        | none => rw [f1] at ev1; cases ev1
        | some ga =>
          rw [f1] at ev1
          have lenN : ∀ j ∈ tgIs tg, j < (gw gi).env.length := fun j hj => by
            have h1 := chkTg_lt htg j hj
            rw [← rl'.len, L2.wipe_length, hlen, ← O.cN]
            exact h1
          refine asg_ok f1 lenN rl' hx fun σ2 ra suba wpa pena => ?_
          rw [how] at wpa
          refine ⟨wpa.trans (wipe_wipe σ own), ?_⟩
          have pena' : pm pa ga.pen = pm pa g1.pen := by rw [pena]; exact epm
          have x'' : Ext (pm pa g1.pen) Hi H' := x'.mono fun a z => by rw [← epm]; exact z
          have ww : L2.wipe σ2 own = L2.wipe σ own := wpa.trans (wipe_wipe σ own)
          -- behind what the block did
          have after : ∀ {H3 : Hp} {gb : G}, PostN X.K pa T1 H0 σ2 H' ga H3 gb → Ext (pm pa g1.pen) H1 H3 ∧ H3 Da = some (.lst vs) ∧ (gb.pen.isSome = g1.pen.isSome) ∧ (∀ a, Nv pa T1 σ2 gb a → Nv pa T1 (L2.wipe σ own) (gw gi) a) ∧
              (∀ {v d}, DR X.K (Nv pa T1 (L2.wipe σ own) (gw gi)) Hi v d → DR X.K (Nv pa T1 σ2 gb) H3 v d) ∧ (∀ {v d}, DRs X.K (Nv pa T1 (L2.wipe σ own) (gw gi)) Hi v d → DRs X.K (Nv pa T1 σ2 gb) H3 v d) := fun {H3 gb} p3 => by
            have x3 : Ext (pm pa g1.pen) Hi H3 := x''.trans (p3.ext.mono fun a z => by rw [← pena']; exact z)
            have sb : ∀ a, Nv pa T1 σ2 gb a → Nv pa T1 (L2.wipe σ own) (gw gi) a := fun a z => suba a (p3.sub a z)
            have hm : ∀ a, pm pa g1.pen a → Nv pa T1 (L2.wipe σ own) (gw gi) a := fun a z => .inr (.inl (by show pm pa gi.pen a; rw [epm]; exact z))
            refine ⟨x1.trans x3, x3.k _ _ hDi (fun z => nDp rli (by show pm pa gi.pen Da; rw [epm]; exact z)) fun _ => nofun, ?_, sb, fun q => (DR.ext x3 hm q).mono sb, fun q => (DRs.ext x3 hm q).mono sb⟩
            rw [p3.pen, pena]
            exact peni
          have falseEnd : ∀ {H3 : Hp} {gb : G}, PostN X.K pa T1 H0 σ2 H' ga H3 gb → evLc E ielt tg cond own (ds.drop (i + 1)) acc gb = some (accF, g2) → Inv1 (i + 1) H3 := fun {H3 gb} p3 ev2 => by
            obtain ⟨f1, f2, f3, f4, f5, f6⟩ := after p3
            obtain ⟨rw1, sw1⟩ := p3.rel.wipe own
            rw [ww] at rw1 sw1
            exact ⟨gb, acc, vs, ev2, f1, rw1, f3, fun a z => subi a (f4 a (sw1 a z)), f2, (f6 hacc).mono sw1, fun q hq => (f5 (hLi q hq)).mono sw1⟩
          have trueEnd : ∀ {H3 : Hp} {gb : G}, PostN X.K pa T1 H0 σ2 H' ga H3 gb → (match E.e ielt gb with
                | none => none
                | some (r, g3) => match keepR r g3 with
                  | none => none
                  | some (d, g4) => if acc.length < szL then evLc E ielt tg cond own (ds.drop (i + 1)) (acc ++ [d]) g4 else none) = some (accF, g2) →
              wEb X scope elt σ2 H3 (fun y H4 => ∃ acc, H4 Da = some (.lst acc) ∧ acc.length < sizeLine ∧ Inv1 (i + 1) (upd H4 Da (.lst (acc ++ [y])))) := fun {H3 gb} p3 ev2 => by
            cases g1e : E.e ielt gb with
            | none => rw [g1e] at ev2; cases ev2
            | some rg =>
              obtain ⟨r3, gc⟩ := rg
              simp only [g1e] at ev2
              cases g2e : keepR r3 gc with
              | none => simp only [g2e] at ev2; cases ev2
              | some dg =>
                obtain ⟨d4, gd⟩ := dg
                simp only [g2e] at ev2
                by_cases hz : acc.length < szL
                · rw [if_pos hz] at ev2
                  intro s Hx C cl fp
                  refine hel s Hx C cl fp gb r3 gc g1e pa T1 H0 σ2 H3 _ p3.rel fun y H4 p4 => ?_
                  have k4 := p4.keep g2e
                  have p34 : PostN X.K pa T1 H0 σ2 H' ga H4 gd := p3.then k4.n
                  obtain ⟨f1, f2, f3, f4, f5, f6⟩ := after p34
                  have rp := k4.rel.putT (o := .lst (vs ++ [y])) (.inr rfl) f2 hD0 fun _ => nofun
                  obtain ⟨rw1, sw1⟩ := rp.wipe own
                  rw [ww] at rw1 sw1
                  refine ⟨vs, f2, by rw [hacc.length, ← szL_eq]; exact hz, gd, acc ++ [d4], vs ++ [y], ev2, f1.skip hDa f2, rw1, f3, fun a z => subi a (f4 a (sw1 a z)), upd_same, ?_, fun q hq => ?_⟩
                  · exact (Nv.putTs (.inr rfl) f2 ((f6 hacc).append (.cons k4.dr .nil))).mono sw1
                  · exact (Nv.putT (.inr rfl) f2 (f5 (hLi q hq))).mono sw1
                · rw [if_neg hz] at ev2
                  cases ev2
          rcases hcn with ⟨rfl, rfl⟩ | ⟨qe, iq, rfl, rfl, hq⟩
          · exact iteT (B := Inv1 (i + 1) H') (trueEnd ⟨.refl _ _, ra, rfl, fun _ z => z⟩ ev1)
          · simp only at ev1
            cases c1 : E.t iq ga with
            | none => rw [c1] at ev1; cases ev1
            | some bg =>
              obtain ⟨bb, gb⟩ := bg
              rw [c1] at ev1
              intro s Hx C cl fp
              refine hq s Hx C cl fp ga bb gb c1 pa T1 H0 σ2 H' _ ra fun H3 p3 => ?_
              cases bb with
              | true => exact iteT (trueEnd p3 ev1)
              | false => exact iteF (falseEnd p3 ev1)
      · have ei : i = ds.length := by omega
        subst ei
        refine .inl ⟨S.stop _ Hi hLi, kk _ _ ?_⟩
        rw [List.drop_length] at ev1
        simp only [evLc, Option.some.injEq, Prod.mk.injEq] at ev1
        obtain ⟨rfl, rfl⟩ := ev1
        obtain ⟨ru, su⟩ := rli.unwipe
        have epm : pm pa g1.pen = pm pa g.pen := pm_eq pn.pen
        have sub1 : ∀ a, Nv pa T σ (gw gi) a → Nv pa T1 (L2.wipe σ own) (gw gi) a := fun a z => su a (z.imp .inl id)
        have nD : ¬ Nv pa T σ (gw gi) Da := by
          rintro (z | z | ⟨j, ys, z1, z2⟩)
          · exact nTD z
          · obtain ⟨xs, e'⟩ := Option.isSome_iff_exists.mp z.1
            exact (ru.pn xs e').1 (.inr z.2.symm)
          · obtain ⟨b, us, q1, _, _, _, q5, _⟩ := ru.own z1
            rw [z2] at q1
            cases q1
            exact q5 (.inr rfl)
        refine ⟨pn.ext.trans (x1.mono fun a z => by rw [← epm]; exact z), ?_, ⟨Da, vs, rfl, hDH, hDi, hacc.mono fun a z => z.elim (sub1 a) fun z => .inl (.inr z), nTD⟩, peni.trans pn.pen, fun a z => ?_⟩
        · exact ru.mono fun a z => z.imp id fun z => (V.ref.inj z).symm
        · rcases subw a (subi a (sub1 a z)) with h1 | h1
          · exact pn.sub a h1
          · rw [h1] at z
            exact absurd z nD
end
end DL
end
section
set_option Elab.async false
set_option linter.all false
set_option maxRecDepth 100000
set_option autoImplicit false
set_option maxHeartbeats 4000000
/-! DL, part o1: all(sign in y for sign in text), y a name of the def. -/
namespace DL
open PySem PySem.Spec PyProof.Rows L2
variable [Tabs]
section
variable {P : Program} {w : World} {K : Fg} {mg : Str → Option Value} {base : Heap} {p : Pgm} {n m : Nat} {X : Cx} {c : Ct} {E : Ev}
theorem tabbed_ext {H1 H2 : Hp} {q : Addr} {mm : AS} (h : GxR.TabG H1 q) (t : GxR.Tabbed q H1 H2) : Ext mm H1 H2 := by
  obtain ⟨ps, e, _⟩ := h
  have nq : ∀ b o, H1 b = some o → (∀ ps, o ≠ .tbl ps) → b ≠ q := fun b o e1 e2 z => by
    rw [z, e] at e1
    exact e2 ps (Option.some.inj e1).symm
  refine ⟨fun b o e1 _ e2 => (t.2 b (nq b o e1 e2)).trans e1, fun b hb => ?_, fun b hb => ?_⟩
  · by_cases z : b = q
    · rw [z]; exact t.1
    · obtain ⟨ps', e', t'⟩ := hb
      exact ⟨ps', (t.2 b z).trans e', t'⟩
  · by_cases z : b = q
    · obtain ⟨ps', e', _⟩ := t.1
      rw [z, e'] at hb
      cases hb
    · rw [← t.2 b z]; exact hb
theorem gen_own {sc scope : Scope} {x y : Str} (h : genB sc scope x y = true) {env : Env} (he : env.scope = sc) (has : ∀ x, (env.kindOf x = some .cell ∨ env.kindOf x = some .free) → ∃ c, env.cells.lookup x = some c) :
    GxR.GenS env scope x ∧ scope.names.lookup y = some .free ∧ sc.names.lookup y = some .cell := by
  unfold genB at h
  simp only [Bool.and_eq_true, Bool.not_eq_true', beq_iff_eq] at h
  obtain ⟨⟨⟨⟨⟨⟨⟨h1, h2⟩, h3⟩, h4⟩, h5⟩, h6⟩, h7⟩, h8⟩ := h
  refine ⟨⟨h1, h2, fun z hz e => ?_, h4, h5, fun z hz e => has z.1 (.inl ?_)⟩, h7, h8⟩
  · have := List.all_eq_true.mp h3 z hz
    rw [e] at this
    cases this
  · have := List.all_eq_true.mp h6 z hz
    rw [e] at this
    subst he
    have t2 : env.scope.names.lookup z.1 = some .cell := by simpa using this
    exact t2
theorem lookup_mem {α β : Type} [BEq α] [LawfulBEq α] : ∀ {l : List (α × β)} {x : α} {y : β}, l.lookup x = some y → (x, y) ∈ l
  | (a, b) :: r, x, y, h => by
    rw [List.lookup_cons] at h
    cases q : x == a with
    | true =>
      rw [q] at h
      cases h
      have := eq_of_beq q
      subst this
      exact List.mem_cons_self
    | false =>
      rw [q] at h
      exact List.mem_cons_of_mem _ (lookup_mem h)
  | [], _, _, h => by cases h
theorem ok_allG (O : XO P w K mg base p n X c) {ps pos gp p1 p2 p3 px : Pos} {x y : Str} {j i : Nat} {iter : Expr} {it : IE} {scope : Scope} (hg : glB c.sc "all" = true) (ht : c.N ∈ p.tabs) (hj : c.N[j]? = some y) (hb : genB c.sc scope x y = true) (hx : okN x = true) (hy : okN y = true)
    (hi : isNm iter = true) (h : OKe X iter (E.e it)) :
    OKe X (.Call (.Name "all" ps) [.GeneratorExp (.Compare (.Name x p1) [.In] [.Name y p2] p3) [⟨.Name x px, iter, [], 0⟩] scope gp] [] pos) (stE E (.allG (.slot j) i it)) := by
  intro g r g' q pa T H0 σ H Q rl kk pins s I
  obtain ⟨cc, Pt, hc, hmem⟩ := O.cd ht
  have tb : GxR.TabB X.base X.mg cc Pt := by rw [O.eb, O.em]; exact O.tbs _ hmem
  simp only [stE] at q
  cases e1 : rd1 E it g with
  | none => simp only [e1] at q; cases q
  | some t =>
    obtain ⟨d, g1⟩ := t
    cases d with
    | str a =>
      simp only [e1] at q
      split at q
      · rename_i z e2
        cases q
        have cs' : X.env.scope = c.sc := O.cs.symm
        obtain ⟨own, fy, cy⟩ := gen_own hb cs' I.ok.has
        have nofold : ∀ v, genFold iter X.env v = pure v := by
          cases iter <;> first | (intro v; rfl) | cases hi
        refine (pe_allC (P := Pt) (te := wE X iter) O.room (gl_of O hg) (O.bln (by decide)) tb hc own pe_w nofold).run pins s σ H Q I ?_
        refine OKe.rd h g _ _ e1 pa T H0 σ H _ rl fun v H1 p1 => ?_
        have tG : GxR.TabG H1 Pt := p1.rel.tab _ hmem
        refine ⟨a, p1.tr.str, tG, fun ch => decide (ch ∈ z.cps.toList), fun pins' s1 J => ?_, fun H2 t2 => ?_⟩
        · obtain ⟨v2, f1, f2⟩ := p1.rel.sl j _ e2
          have f3 : v2 = .str z := DR.str_inv f2
          subst f3
          obtain ⟨mm, _, look⟩ := J.loc
          have hN : X.N[j]? = some y := by rw [← O.cN]; exact hj
          obtain ⟨u, ru, lk⟩ := look j y (.str z) hN f1 (.inr (.inl (by rw [cs']; exact cy)))
          obtain ⟨tz, rfl⟩ := _root_.id ru
          have cell : ∃ ca, X.env.cells.lookup y = some ca ∧ s1.heap.IsCell ca (some (.str z tz)) := by
            rcases lk with ⟨k1, _⟩ | ⟨_, ca, k2, k3⟩
            · have k1' : X.env.scope.names.lookup y = some .local := k1
              rw [cs', cy] at k1'
              cases k1'
            · exact ⟨ca, k2, k3⟩
          obtain ⟨ca, k2, k3⟩ := cell
          intro be B EE ch tk u' m' h1 h2 h3 h4 h5
          have kf : be.scope.kind = .function := by rw [h1]; exact own.kind
          refine wpAny_Compare1 ?_
          refine wpAny_Name (wpAny_loadName_local kf (show be.scope.names.lookup x = some .local by rw [h1]; exact own.loc) h3 h4 ?_) (okN_of hx).1
          refine wpAny_Name (wpAny_loadName_free kf (show be.scope.names.lookup y = some .free by rw [h1]; exact fy) (by rw [h2]; exact NdefX.clo_has own.free (lookup_mem fy) k2) (h5 _ _ k3) ?_ (okN_of hy).2.1) (okN_of hy).1
          refine PySem.P.in_str ⟨?_, GxR.keeps_refl _⟩
          rw [PySem.StrLaws.found_one]
        · have e := tabbed_ext (mm := pm pa g'.pen) tG t2
          have e' : Ext (pm pa g.pen) H1 H2 := tabbed_ext tG t2
          refine kk _ _ ⟨p1.ext.trans e', p1.rel.ext e fun xs ex => ?_, .bl _, p1.pen, p1.sub⟩
          obtain ⟨_, vs, z2, z3⟩ := p1.rel.pn xs ex
          have nP : pa ≠ Pt := by
            rintro rfl
            obtain ⟨qs, e9, _⟩ := tG
            rw [e9] at z2
            cases z2
          exact ⟨vs, (t2.2 pa nP).trans z2, DRs.ext e (fun a z => .inr (.inl z)) z3⟩
      · cases q
    | _ => simp only [e1] at q; cases q
end
end DL
end
section
set_option Elab.async false
set_option linter.all false
set_option maxRecDepth 100000
set_option autoImplicit false
set_option maxHeartbeats 4000000
/-! DL, part p: all expressions, all tests. -/
namespace DL
open PySem PySem.Spec PyProof.Rows L2
variable [Tabs]
section
variable {P : Program} {w : World} {K : Fg} {mg : Str → Option Value} {base : Heap} {p : Pgm} {n m : Nat} {X : Cx} {c : Ct} {E : Ev}
/-- the pieces of a comprehension, checked -/
structure LcOk (P : Program) (w : World) (K : Fg) (mg : Str → Option Value) (base : Heap) (p : Pgm) (n m : Nat) (X : Cx) (c : Ct) (E : Ev) (scope : Scope) (elt t it : Expr) (ifs : List Expr) (ielt : IE) (tg : Tg) (ik : Ik) (its : List IE) (cond : Option IE) (own : List Nat) : Prop where
  blk : blkC c.N c.sc scope (nmOf c.N own) = true
  htg : chkTg ⟨c.N, scope⟩ t tg = true
  how : tgIs tg = own
  hit : chkIt (chkE p m c) c t ik its it = true
  hel : ∀ s H1 C cl fp, OKe (X.blk s H1 scope (compEnvC scope cl C X.env) fp) elt (E.e ielt)
  hcn : (ifs = [] ∧ cond = none) ∨ ∃ q iq, ifs = [q] ∧ cond = some iq ∧ ∀ s H1 C cl fp, OKt (X.blk s H1 scope (compEnvC scope cl C X.env) fp) q (E.t iq)
section
variable {scope : Scope} {elt t it : Expr} {ifs : List Expr} {ielt : IE} {tg : Tg} {ik : Ik} {its : List IE} {cond : Option IE} {own : List Nat} {pos : Pos}
theorem LcOk.cnd (L : LcOk P w K mg base p n m X c E scope elt t it ifs ielt tg ik its cond own) : ∀ (s : Shared) (H1 : Hp) (C : Addr) (cl : List (Str × Addr)) (fp : List Addr), PTs (X.blk s H1 scope (compEnvC scope cl C X.env) fp) ifs (cndT X scope ifs) := by
  intro s H1 C cl fp
  rcases L.hcn with ⟨rfl, _⟩ | ⟨q, iq, rfl, _, _⟩
  · exact pts_nil
  · exact pts_one ⟨fun pins s' σ H Q I h => h s H1 C cl fp pins s' I⟩
theorem LcOk.el (X : Cx) (scope : Scope) (elt : Expr) : ∀ (s : Shared) (H1 : Hp) (C : Addr) (cl : List (Str × Addr)) (fp : List Addr), PE (X.blk s H1 scope (compEnvC scope cl C X.env) fp) elt (wEb X scope elt) :=
  fun s H1 C cl fp => ⟨fun pins s' σ H Q I h => h s H1 C cl fp pins s' I⟩
theorem LcOk.set (L : LcOk P w K mg base p n m X c E scope elt t it ifs ielt tg ik its cond own) : notSet it = true := by
  have h := L.hit
  unfold chkIt at h
  rw [Bool.and_eq_true] at h
  exact h.1
theorem LcOk.bk (O : XO P w K mg base p n X c) (L : LcOk P w K mg base p n m X c E scope elt t it ifs ielt tg ik its cond own) : BlkOk X.N X.env.scope scope (nmOf c.N own) := by
  have h := blkOk_by L.blk
  rw [← O.cs, ← O.cN]
  exact h
theorem ok_lc (O : XO P w K mg base p n X c) (h : ∀ e i, chkE p m c e i = true → OKe X e (E.e i)) (L : LcOk P w K mg base p n m X c E scope elt t it ifs ielt tg ik its cond own) :
    OKe X (.ListComp elt [⟨t, it, ifs, 0⟩] scope pos) (stE E (.lc ielt tg ik its cond own)) := by
  intro g r g' q pa T H0 σ H Q rl kk pins s I
  have bk := L.bk O
  refine (pe_lc (g := tgG X.K tg) O.calm O.nd pi_w bk (fun s H1 C cl fp => pg_tg (XG.blk O s H1 C cl fp) L.htg) L.cnd (LcOk.el X scope elt) (folded L.set)).run pins s σ H Q I ?_
  rw [nmOf_ix]
  exact lc_read O h bk.kind L.htg L.how L.hit L.hel L.hcn q I.len rl kk
end
/-- the pieces from the check -/
theorem lc_parts (S : Snd P w K mg base p n) (O : XO P w K mg base p n X c) {scope : Scope} {elt t it : Expr} {ifs : List Expr} {ielt : IE} {tg : Tg} {ik : Ik} {its : List IE} {cond : Option IE} {own : List Nat}
    (h : (blkC c.N c.sc scope (nmOf c.N own) && chkTg ⟨c.N, scope⟩ t tg && chkIt (chkE p m c) c t ik its it &&
            (match ifs, cond with
              | [], none => true
              | [q], some iq => chkE p m ⟨c.N, relS scope c.sc⟩ q iq
              | _, _ => false) && chkE p m ⟨c.N, relS scope c.sc⟩ elt ielt && (match tg with | .one i => own == [i] | .many is => own == is)) = true) :
    LcOk P w K mg base p n m X c (ev p.fns n) scope elt t it ifs ielt tg ik its cond own := by
  simp only [Bool.and_eq_true] at h
  obtain ⟨⟨⟨⟨⟨h1, h2⟩, h3⟩, h4⟩, h5⟩, h6⟩ := h
  have hk := (blkOk_by h1).kind
  refine ⟨h1, h2, ?_, h3, fun s H1 C cl fp => S.e _ _ _ _ m (O.blk hk s H1 C cl fp) h5, ?_⟩
  · cases tg with
    | one i => exact (eq_of_beq h6).symm
    | many is => exact (eq_of_beq h6).symm
  · cases ifs with
    | nil =>
      cases cond with
      | none => exact .inl ⟨rfl, rfl⟩
      | some _ => cases h4
    | cons q rest =>
      cases rest with
      | cons _ _ => cases h4
      | nil =>
        cases cond with
        | none => cases h4
        | some iq => exact .inr ⟨q, iq, rfl, rfl, fun s H1 C cl fp => S.t _ _ _ _ m (O.blk hk s H1 C cl fp) h4⟩
theorem snd_e (S : Snd P w K mg base p n) : ∀ m X c e ir, XO P w K mg base p (n + 1) X c → chkE p m c e ir = true → OKe X e (stE (ev p.fns n) ir) := by
  intro m
  induction m with
  | zero => intro X c e ir O h; cases h
  | succ m ih =>
    intro X c e ir O h
    have O' : XO P w K mg base p n X c := O.le (Nat.le_succ n)
    have he : ∀ e i, chkE p m c e i = true → OKe X e ((ev p.fns n).e i) := fun e i q => S.e X c e i m O' q
    have ht : ∀ e i, chkE p m c e i = true → OKt X e ((ev p.fns n).t i) := fun e i q => S.t X c e i m O' q
    cases e with
    | BoolOp op vs pos =>
      cases vs with
      | nil => cases h
      | cons x rest =>
        cases rest with
        | nil =>
          have h' : chkE p m c x ir = true := h
          intro g r g' q pa T H0 σ H Q rl kk
          exact wE_of (pe_one pe_w) (ih X c x ir O h' g r g' q pa T H0 σ H Q rl kk)
        | cons y rest =>
          cases ir with
          | bop isAnd a b =>
            simp only [chkE, Bool.and_eq_true] at h
            exact ok_bop (eq_of_beq h.1.1) (he _ _ h.1.2) (he _ _ h.2)
          | _ => cases h
    | Name s pos =>
      cases ir with
      | slot i =>
        simp only [chkE, Bool.and_eq_true, decide_eq_true_eq] at h
        exact ok_slot O h.1.1 h.1.2 h.2
      | cst d =>
        simp only [chkE, Bool.and_eq_true] at h
        exact ok_glob O h.1.1 h.1.2 h.2
      | _ => cases h
    | Constant k j pos =>
      cases ir with
      | cst d => exact ok_const (show chkC k d = true from h)
      | _ => cases h
    | Tuple xs k pos =>
      cases ir with
      | tup es =>
        simp only [chkE, Bool.and_eq_true, decide_eq_true_eq] at h
        exact ok_tup (ok_ds he h.2) h.1 (chkEs_len h.2) (fun g ds g' q => evDs_len g ds g' q)
      | _ => cases h
    | List xs pos =>
      cases ir with
      | lst es =>
        simp only [chkE, Bool.and_eq_true, decide_eq_true_eq] at h
        exact ok_lst (ok_ds he h.2) h.1 (fun g ds g' q => evDs_len g ds g' q)
      | _ => cases h
    | BinOp x op y pos =>
      cases ir with
      | bin op' a b =>
        simp only [chkE, Bool.and_eq_true, decide_eq_true_eq] at h
        obtain ⟨⟨rfl, h1⟩, h2⟩ := h
        exact ok_bin (he _ _ h1) (he _ _ h2)
      | _ => cases h
    | UnaryOp op x pos =>
      cases ir with
      | neg a => cases op <;> first | cases h | exact ok_neg (he _ _ h)
      | notE a => cases op <;> first | cases h | exact ok_notE (he _ _ h)
      | _ => cases h
    | Compare x ops ys pos =>
      cases ir with
      | cmp op a b =>
        match ops, ys with
        | [o], [y] =>
          simp only [chkE, Bool.and_eq_true, decide_eq_true_eq] at h
          obtain ⟨⟨⟨rfl, h1⟩, h2⟩, h3⟩ := h
          exact ok_cmp O h1 (he _ _ h2) (he _ _ h3)
        | [], _ => cases h
        | [_], [] => cases h
        | [_], _ :: _ :: _ => cases h
        | _ :: _ :: _, _ => cases h
      | chn op op' a b d =>
        match ops, ys with
        | [o, o'], [y, z] =>
          simp only [chkE, Bool.and_eq_true, decide_eq_true_eq] at h
          obtain ⟨⟨⟨⟨⟨⟨rfl, rfl⟩, h1⟩, h2⟩, h3⟩, h4⟩, h5⟩ := h
          exact ok_chn O h2 (he _ _ h3) (he _ _ h4) (he _ _ h5)
        | [], _ => cases h
        | [_], _ => cases h
        | [_, _], [] => cases h
        | [_, _], [_] => cases h
        | [_, _], _ :: _ :: _ :: _ => cases h
        | _ :: _ :: _ :: _, _ => cases h
      | _ => cases h
    | IfExp t x y pos =>
      cases ir with
      | ife it a b =>
        simp only [chkE, Bool.and_eq_true] at h
        exact ok_ife (ht _ _ h.1.1) (he _ _ h.1.2) (he _ _ h.2)
      | _ => cases h
    | Subscript x y pos =>
      cases ir with
      | idx a i =>
        simp only [chkE, Bool.and_eq_true] at h
        exact ok_idx h.1.1 (he _ _ h.1.2) (he _ _ h.2)
      | slc a lo hi =>
        cases y with
        | Slice l hh st ps =>
          cases st with
          | none =>
            simp only [chkE, Bool.and_eq_true] at h
            exact ok_slc he h.1.1 h.1.2 h.2
          | some _ => cases h
        | _ => cases h
      | rev a =>
        simp only [chkE] at h
        split at h
        · simp only [Bool.and_eq_true, decide_eq_true_eq] at h
          obtain ⟨rfl, h1⟩ := h
          exact ok_rev (he _ _ h1)
        · cases h
      | _ => cases h
    | Call f args kws pos =>
      cases kws with
      | cons _ _ => cases h
      | nil =>
        cases f with
        | Name s ps =>
          simp only [chkE, Bool.and_eq_true] at h
          obtain ⟨⟨hg, hn⟩, h⟩ := h
          cases ir with
          | call k es =>
            cases ef : p.fns[k]? with
            | none => simp only [ef] at h; cases h
            | some fd =>
              simp only [ef, Bool.and_eq_true, Bool.not_eq_true'] at h
              exact ok_call O S.c he ef (eq_of_beq h.1.1) hg hn h.1.2 h.2
          | bi1 b a =>
            simp only [Bool.and_eq_true] at h
            obtain ⟨hs, h⟩ := h
            have hs' := eq_of_beq hs
            have one : chkEs (chkE p m c) args [a] = true → (∀ t, b ≠ .isin t) → OKe X (.Call (.Name s ps) args [] pos) (stE (ev p.fns n) (.bi1 b a)) := fun q hb => by
              match args, q with
              | [y], q =>
                simp only [chkEs, Bool.and_eq_true] at q
                exact ok_bi1 O hb hs' hg hn q.1.1 (he _ _ q.1.2)
              | [], q => cases q
              | _ :: _ :: _, q => simp [chkEs] at q
            cases b with
            | isin t =>
              simp only at h
              split at h
              · simp only [Bool.and_eq_true, Bool.or_eq_true] at h
                obtain ⟨⟨⟨⟨⟨h1, h2⟩, h3⟩, h4⟩, h5⟩, h6⟩ := h
                refine ok_isin O hs' hg hn (eq_of_beq h1) h2 h3 h4 (he _ _ h5) ?_
                rcases h6 with (((h6 | h6) | h6) | h6) | h6
                · exact .inl (eq_of_beq h6)
                · exact .inr (.inl (eq_of_beq h6))
                · exact .inr (.inr (.inl (eq_of_beq h6)))
                · exact .inr (.inr (.inr (.inl (eq_of_beq h6))))
                · exact .inr (.inr (.inr (.inr (eq_of_beq h6))))
              · cases h
            | _ => exact one h (fun t => nofun)
          | bi2 b a d =>
            simp only [Bool.and_eq_true] at h
            obtain ⟨⟨hs, _⟩, h⟩ := h
            match args, h with
            | [y, z], q =>
              simp only [chkEs, Bool.and_eq_true] at q
              exact ok_bi2 O (eq_of_beq hs) hg hn q.1.1 q.2.1.1 (he _ _ q.1.2) (he _ _ q.2.1.2)
            | [], q => cases q
            | [_], q => simp [chkEs] at q
            | _ :: _ :: _ :: _, q => simp [chkEs] at q
          | allG y i it =>
            cases y with
            | slot j =>
              simp only [Bool.and_eq_true] at h
              obtain ⟨⟨h1, h2⟩, h3⟩ := h
              split at h3
              · simp only [Bool.and_eq_true, decide_eq_true_eq] at h3
                obtain ⟨⟨⟨⟨⟨⟨e1, e2⟩, e3⟩, e4⟩, e5⟩, e6⟩, e7⟩ := h3
                have e1' := eq_of_beq e1
                have h1' := eq_of_beq h1
                subst e1'
                subst h1'
                exact ok_allG O hg (of_decide_eq_true h2) e2 e3 e4 e5 e6 (he _ _ e7)
              · cases h3
            | _ => cases h
          | rngL t es =>
            simp only [Bool.and_eq_true] at h
            obtain ⟨hs, h⟩ := h
            split at h
            · simp only [Bool.and_eq_true, decide_eq_true_eq] at h
              obtain ⟨⟨⟨⟨⟨h1, h2⟩, h3⟩, h4⟩, h5⟩, h6⟩ := h
              exact ok_rngL O he (eq_of_beq hs) hg hn (eq_of_beq h1) h2 h4 h5 h6
            · cases h
          | _ => cases h
        | Attribute o am apos =>
          simp only [chkE, Bool.and_eq_true] at h
          obtain ⟨⟨hb, hl⟩, h⟩ := h
          cases ir with
          | idxS a b =>
            simp only [Bool.and_eq_true] at h
            obtain ⟨⟨h1, h2⟩, h3⟩ := h
            match args, h3 with
            | [y], q =>
              simp only [chkEs, Bool.and_eq_true] at q
              exact ok_idxS O (eq_of_beq h1) hb hl q.1.1 (he _ _ h2) (he _ _ q.1.2)
            | [], q => cases q
            | _ :: _ :: _, q => simp [chkEs] at q
          | join a b =>
            simp only [Bool.and_eq_true] at h
            obtain ⟨⟨h1, h2⟩, h3⟩ := h
            match args, h3 with
            | [y], q =>
              simp only [chkEs, Bool.and_eq_true] at q
              exact ok_join (eq_of_beq h1) hb hl q.1.1 (he _ _ h2) (he _ _ q.1.2)
            | [], q => cases q
            | _ :: _ :: _, q => simp [chkEs] at q
          | _ => cases h
        | _ => cases h
    | ListComp elt gs scope pos =>
      cases ir with
      | lc ielt tg ik its cond own =>
        simp only [chkE] at h
        split at h
        · exact ok_lc O he (by
            have := lc_parts (m := m) S O' h
            exact ⟨this.blk, this.htg, this.how, this.hit, this.hel, this.hcn⟩)
        · cases h
      | _ => cases h
    | _ => cases h
/-- a plain test -/
theorem plain_true {e : Expr} {env : Env} (h : plainTest e = true) (whole : Sem Value) : isTrue e env whole = (do let v ← whole; standAt e.pos; holding [v] (truthy v)) := by
  cases e with
  | UnaryOp op x pos => cases op <;> first | rfl | cases h
  | BoolOp _ _ _ => cases h
  | IfExp _ _ _ _ => cases h
  | Compare _ _ _ _ => cases h
  | _ => rfl
theorem okt_plain {e : Expr} {ir : IE} (he : OKe X e (E.e ir)) (h : plainTest e = true) : ∀ g b g', (match rd1 E ir g with
    | none => none
    | some (x, g1) => (truD x).map fun b => (b, g1)) = some (b, g') → ∀ pa T H0 σ H (Q : Bool → Hp → Prop), Rel X.K pa T H0 σ H g → (∀ H', PostN X.K pa T H0 σ H g H' g' → Q b H') → wT X e σ H Q := by
  intro g b g' q pa T H0 σ H Q rl kk
  cases e1 : rd1 E ir g with
  | none => simp only [e1] at q; cases q
  | some t =>
    obtain ⟨x, g1⟩ := t
    simp only [e1] at q
    cases e2 : truD x with
    | none => simp only [e2] at q; cases q
    | some b' =>
      simp only [e2, Option.map_some, Option.some.injEq, Prod.mk.injEq] at q
      obtain ⟨rfl, rfl⟩ := q
      exact wT_of (pt_truth pe_w (plain_true h)) (OKe.rd he g x g1 e1 pa T H0 σ H _ rl fun v H1 p1 => ⟨b', tru_D p1.tr e2, kk _ p1.n⟩)
theorem snd_t (S : Snd P w K mg base p n) : ∀ m X c e ir, XO P w K mg base p (n + 1) X c → chkE p m c e ir = true → OKt X e (stT (ev p.fns n) ir) := by
  intro m
  induction m with
  | zero => intro X c e ir O h; cases h
  | succ m ih =>
    intro X c e ir O h
    have O' : XO P w K mg base p n X c := O.le (Nat.le_succ n)
    have he : ∀ e i, chkE p m c e i = true → OKe X e ((ev p.fns n).e i) := fun e i q => S.e X c e i m O' q
    have ht : ∀ e i, chkE p m c e i = true → OKt X e ((ev p.fns n).t i) := fun e i q => S.t X c e i m O' q
    have hs := S.e X c e ir (m + 1) O' h
    cases e with
    | BoolOp op vs pos =>
      cases vs with
      | nil => cases h
      | cons x rest =>
        cases rest with
        | nil =>
          have h' : chkE p m c x ir = true := h
          intro g r g' q pa T H0 σ H Q rl kk
          have k1 := ih X c x ir O h' g r g' q pa T H0 σ H Q rl kk
          cases op with
          | And => exact wT_of (PW.pt (pw_and1 pt_w)) k1
          | Or => exact wT_of (PW.pt (pw_or1 pt_w)) k1
        | cons y rest =>
          cases ir with
          | bop isAnd a b =>
            simp only [chkE, Bool.and_eq_true] at h
            obtain ⟨⟨h1, h2⟩, h3⟩ := h
            have h1 := eq_of_beq h1
            subst h1
            intro g r g' q pa T H0 σ H Q rl kk
            simp only [stT] at q
            cases e1 : (ev p.fns n).t a g with
            | none => simp only [e1] at q; cases q
            | some cg =>
              obtain ⟨cc, g1⟩ := cg
              simp only [e1] at q
              have pwB : ∀ {op : BoolOp}, PW X (.BoolOp op (y :: rest) pos) (wT X (.BoolOp op (y :: rest) pos)) := fun {op} => ⟨fun wh pins s σ H Q I k => k pins s I⟩
              cases op with
              | And =>
                refine wT_of (PW.pt (pw_and pt_w pwB)) (ht _ _ h2 g cc g1 e1 pa T H0 σ H _ rl fun H1 p1 => ?_)
                cases cc with
                | true => exact iteT (ht _ _ h3 g1 r g' q pa T H0 σ H1 Q p1.rel fun H2 p2 => kk H2 (p1.then p2))
                | false => cases q; exact iteF (kk H1 p1)
              | Or =>
                refine wT_of (PW.pt (pw_or pt_w pwB)) (ht _ _ h2 g cc g1 e1 pa T H0 σ H _ rl fun H1 p1 => ?_)
                cases cc with
                | false => exact iteF (ht _ _ h3 g1 r g' q pa T H0 σ H1 Q p1.rel fun H2 p2 => kk H2 (p1.then p2))
                | true => cases q; exact iteT (kk H1 p1)
          | _ => cases h
    | UnaryOp op x pos =>
      cases ir with
      | neg a =>
        cases op with
        | USub => exact okt_plain hs rfl
        | _ => cases h
      | notE a =>
        cases op with
        | Not =>
          have h' : chkE p m c x a = true := h
          intro g r g' q pa T H0 σ H Q rl kk
          simp only [stT] at q
          cases e1 : (ev p.fns n).t a g with
          | none => simp only [e1] at q; cases q
          | some cg =>
            obtain ⟨cc, g1⟩ := cg
            simp only [e1, Option.map_some, Option.some.injEq, Prod.mk.injEq] at q
            obtain ⟨rfl, rfl⟩ := q
            exact wT_of (pt_not pt_w) (ht _ _ h' g cc g1 e1 pa T H0 σ H _ rl fun H1 p1 => kk H1 p1)
        | _ => cases h
      | _ => cases h
    | Compare x ops ys pos =>
      cases ir with
      | cmp op a b =>
        match ops, ys with
        | [o], [y] =>
          simp only [chkE, Bool.and_eq_true, decide_eq_true_eq] at h
          obtain ⟨⟨⟨rfl, h1⟩, h2⟩, h3⟩ := h
          intro g r g' q pa T H0 σ H Q rl kk
          simp only [stT] at q
          split at q
          · rename_i r' g1 e1
            simp only [Option.some.injEq, Prod.mk.injEq] at q
            obtain ⟨rfl, rfl⟩ := q
            exact okt_cmp O h1 (he _ _ h2) (he _ _ h3) e1 rl kk
          · cases q
        | [], _ => cases h
        | [_], [] => cases h
        | [_], _ :: _ :: _ => cases h
        | _ :: _ :: _, _ => cases h
      | chn op op' a b d =>
        match ops, ys with
        | [o, o'], [y, z] =>
          simp only [chkE, Bool.and_eq_true, decide_eq_true_eq] at h
          obtain ⟨⟨⟨⟨⟨⟨rfl, rfl⟩, h1⟩, h2⟩, h3⟩, h4⟩, h5⟩ := h
          intro g r g' q pa T H0 σ H Q rl kk
          simp only [stT] at q
          split at q
          · rename_i r' g1 e1
            simp only [Option.some.injEq, Prod.mk.injEq] at q
            obtain ⟨rfl, rfl⟩ := q
            exact okt_chn O h2 (he _ _ h3) (he _ _ h4) (he _ _ h5) e1 rl kk
          · cases q
        | [], _ => cases h
        | [_], _ => cases h
        | [_, _], [] => cases h
        | [_, _], [_] => cases h
        | [_, _], _ :: _ :: _ :: _ => cases h
        | _ :: _ :: _ :: _, _ => cases h
      | _ => cases h
    | IfExp t x y pos =>
      cases ir with
      | ife it a b => intro g r g' q; cases q
      | _ => cases h
    | Name s pos => cases ir <;> first | (cases h; done) | exact okt_plain hs rfl
    | Constant k j pos => cases ir <;> first | (cases h; done) | exact okt_plain hs rfl
    | Tuple xs k pos => cases ir <;> first | (cases h; done) | exact okt_plain hs rfl
    | List xs pos => cases ir <;> first | (cases h; done) | exact okt_plain hs rfl
    | BinOp x op y pos => cases ir <;> first | (cases h; done) | exact okt_plain hs rfl
    | Subscript x y pos => cases ir <;> first | (cases h; done) | exact okt_plain hs rfl
    | ListComp elt gs scope pos => cases ir <;> first | (cases h; done) | exact okt_plain hs rfl
    | Call f args kws pos =>
      cases kws with
      | cons _ _ => cases h
      | nil =>
        cases f with
        | Name s ps =>
          have h0 := h
          simp only [chkE, Bool.and_eq_true] at h
          cases ir <;> first | (cases h.2; done) | exact okt_plain hs rfl
        | Attribute o am apos =>
          simp only [chkE, Bool.and_eq_true] at h
          cases ir <;> first | (cases h.2; done) | exact okt_plain hs rfl
        | _ => cases h
    | _ => cases h
end
end DL
end
section
set_option Elab.async false
set_option linter.all false
set_option maxRecDepth 100000
set_option autoImplicit false
set_option maxHeartbeats 4000000
/-! DL, part q: statements. -/
namespace DL
open PySem PySem.Spec PyProof.Rows L2
variable [Tabs]

structure PostSt (K : Fg) (pa pa' : Addr) (T : AS) (H0 : Hp) (σ : L2.St) (H : Hp) (g : G) (σ' : L2.St) (H' : Hp) (g' : G) : Prop where
  rel : Rel K pa' T H0 σ' H' g'
  pas : g.pen.isSome = true → pa' = pa ∧ g'.pen.isSome = true
  pres : ∀ v d, DR K (Nv pa T σ g) H v d → DR K (Nv pa' T σ' g') H' v d
  len : σ'.length = σ.length
def OKss (X : Cx) (w : L2.Ends → L2.St → Hp → Prop) (f : G → Option (Fl × G)) : Prop := ∀ g fl g', f g = some (fl, g') → ∀ pa T H0 σ H (D : Ends), σ.length = X.N.length → Rel X.K pa T H0 σ H g →
  (fl = .nx → ∀ pa' σ' H', PostSt X.K pa pa' T H0 σ H g σ' H' g' → D.nx σ' H') →
  (∀ r, fl = .ret r → ∀ pa' σ' H1 g1 v H', PostSt X.K pa pa' T H0 σ H g σ' H1 g1 → PostE X.K pa' T H0 σ' H1 g1 v H' r g' → D.rt v H') → w D σ H
section
variable {K : Fg} {pa pa' pa'' : Addr} {T : AS} {H0 H H1 H2 : Hp} {σ σ' σ'' : L2.St} {g g1 g2 : G}
theorem PostSt.refl (r : Rel K pa T H0 σ H g) : PostSt K pa pa T H0 σ H g σ H g := ⟨r, fun h => ⟨rfl, h⟩, fun _ _ q => q, rfl⟩
theorem PostSt.trans (a : PostSt K pa pa' T H0 σ H g σ' H1 g1) (b : PostSt K pa' pa'' T H0 σ' H1 g1 σ'' H2 g2) : PostSt K pa pa'' T H0 σ H g σ'' H2 g2 :=
  ⟨b.rel, fun h => ⟨(b.pas (a.pas h).2).1.trans (a.pas h).1, (b.pas (a.pas h).2).2⟩, fun v d q => b.pres v d (a.pres v d q), b.len.trans a.len⟩
/-- an expression's state is a statement's -/
theorem PostN.st (p : PostN K pa T H0 σ H g H1 g1) : PostSt K pa pa T H0 σ H g σ H1 g1 :=
  ⟨p.rel, fun h => ⟨rfl, by rw [p.pen]; exact h⟩, fun v d q => (DR.ext p.ext (fun a z => .inr (.inl z)) q).mono p.sub, rfl⟩
theorem Rel.stSt (r : Rel K pa T H0 σ H g) {i : Nat} {v : V} {x : D} (hi : i < g.env.length) (hd : DR K (Nv pa T σ g) H v x) : PostSt K pa pa T H0 σ H g (σ.set i (some v)) H (setD g i x) := by
  obtain ⟨r1, s1⟩ := r.stD hi hd
  exact ⟨r1, fun h => ⟨rfl, h⟩, fun v d q => q.mono s1, List.length_set ..⟩
/-- a name takes a list of its own -/
theorem Rel.stOwn {q : Addr} {vs : List V} {xs : List D} {i : Nat} (r : Rel K pa (fun a => T a ∨ a = q) H0 σ H g) (hi : i < g.env.length) (hq : H q = some (.lst vs)) (hd : DRs K (fun a => Nv pa T σ g a ∨ a = q) H vs xs) (h0 : H0 q = none) (nT : ¬ T q) :
    Rel K pa T H0 (σ.set i (some (.ref q))) H (setOwn g i xs) ∧ ∀ a, Nv pa T (σ.set i (some (.ref q))) (setOwn g i xs) a → Nv pa T σ g a ∨ a = q := by
  have hiσ : i < σ.length := by rw [r.len]; exact hi
  have npm : ¬ pm pa g.pen q := fun z => by
    obtain ⟨ys, e⟩ := Option.isSome_iff_exists.mp z.1
    exact (r.pn ys e).1 (.inr z.2.symm)
  have at_ : ∀ j sv, (setOwn g i xs).env[j]? = some (some sv) → (j = i ∧ sv = .own xs) ∨ (j ≠ i ∧ g.env[j]? = some (some sv) ∧ (σ.set i (some (V.ref q)))[j]? = σ[j]?) := fun j sv h => by
    have h' : (g.env.set i (some (.own xs)))[j]? = some (some sv) := h
    by_cases hj : i = j
    · subst hj
      rw [List.getElem?_set_self hi] at h'
      cases h'
      exact .inl ⟨rfl, rfl⟩
    · rw [List.getElem?_set_ne hj] at h'
      exact .inr ⟨fun z => hj z.symm, h', List.getElem?_set_ne hj⟩
  have own : ∀ j a, Own (σ.set i (some (V.ref q))) (setOwn g i xs) j a → (j = i ∧ a = q) ∨ (j ≠ i ∧ Own σ g j a) := fun j a ⟨ys, h1, h2⟩ => by
    rcases at_ j _ h1 with ⟨rfl, _⟩ | ⟨q0, q1, q2⟩
    · rw [List.getElem?_set_self hiσ] at h2
      cases h2
      exact .inl ⟨rfl, rfl⟩
    · exact .inr ⟨q0, ys, q1, q2.symm.trans h2⟩
  have ownq : ∀ j, ¬ Own σ g j q := fun j ⟨ys, h1, h2⟩ => by
    obtain ⟨b, us, e1, _, _, _, e5, _⟩ := r.own h1
    rw [h2] at e1
    cases e1
    exact e5 (.inr rfl)
  have sub : ∀ a, Nv pa T (σ.set i (some (V.ref q))) (setOwn g i xs) a → Nv pa (fun a => T a ∨ a = q) σ g a := by
    rintro a (z | z | ⟨j, z⟩)
    · exact .inl (.inl z)
    · exact .inr (.inl z)
    · rcases own j a z with ⟨_, rfl⟩ | ⟨_, z⟩
      · exact .inl (.inr rfl)
      · exact .inr (.inr ⟨j, z⟩)
  have sub2 : ∀ a, Nv pa T (σ.set i (some (V.ref q))) (setOwn g i xs) a → Nv pa T σ g a ∨ a = q := fun a z => by
    rcases sub a z with (z | z) | z
    · exact .inl (.inl z)
    · exact .inr z
    · exact .inl (.inr z)
  -- the list's own items stand apart from it: they were there, or are read apart
  refine ⟨⟨by rw [List.length_set]; show σ.length = (g.env.set i (some (.own xs))).length; rw [List.length_set]; exact r.len, fun j sv e => ?_, fun j k a h1 h2 => ?_, fun ys e => ?_, fun a z => r.td a (.inl z), r.x0, r.tb⟩, sub2⟩
  · rcases at_ j sv e with ⟨rfl, rfl⟩ | ⟨_, q1, q2⟩
    · refine ⟨.ref q, List.getElem?_set_self hiσ, q, vs, rfl, hq, ?_, h0, nT, npm⟩
      exact hd.mono sub2
    · obtain ⟨u, e1, hh⟩ := r.sl j sv q1
      refine ⟨u, q2.trans e1, ?_⟩
      cases sv with
      | d x => exact DR.mono sub hh
      | own ys => obtain ⟨a, ws, q1, q2, q3, q4, q5, q6⟩ := hh; exact ⟨a, ws, q1, q2, q3.mono sub, q4, fun z => q5 (.inl z), q6⟩
      | scr ns => exact hh
      | pen => exact hh
  · rcases own j a h1 with ⟨j1, j2⟩ | ⟨_, f1⟩
    · rcases own k a h2 with ⟨k1, _⟩ | ⟨_, f2⟩
      · rw [j1, k1]
      · exact absurd (j2 ▸ f2) (ownq k)
    · rcases own k a h2 with ⟨k1, k2⟩ | ⟨_, f2⟩
      · exact absurd (k2 ▸ f1) (ownq j)
      · exact r.ap j k a f1 f2
  · obtain ⟨q1, ws, q2, q3⟩ := r.pn ys e
    exact ⟨fun z => q1 (.inl z), ws, q2, q3.mono sub⟩
theorem PostE.own {v : V} {xs : List D} {i : Nat} (rl : Rel K pa T H0 σ H g) (p : PostE K pa T H0 σ H g v H1 (.fr xs) g1) (hi : i < g1.env.length) : PostSt K pa pa T H0 σ H g (σ.set i (some v)) H1 (setOwn g1 i xs) := by
  obtain ⟨q, vs, rfl, e1, e2, e3, e4⟩ := p.vr
  have r0 : Rel K pa (fun a => T a ∨ a = q) H0 σ H1 g1 := p.rel.mono fun a z => z.imp id fun z => by rw [z]
  obtain ⟨r1, s1⟩ := r0.stOwn hi e2 e3 (rl.x0.d q e1) e4
  refine ⟨r1, fun h => ⟨rfl, by show g1.pen.isSome = true; rw [p.pen]; exact h⟩, fun v d z => ?_, List.length_set ..⟩
  refine (DR.ext (N := fun a => Nv pa T σ g a ∨ a = q) p.ext (fun a z => .inl (.inr (.inl z))) (z.grow e1)).mono fun a z => ?_
  exact (s1 a z).imp (p.sub a) id
theorem PostK.set {v : V} {x : D} {i : Nat} (p : PostK K pa T H0 σ H g v H1 x g1) (hi : i < g1.env.length) : PostSt K pa pa T H0 σ H g (σ.set i (some v)) H1 (setD g1 i x) :=
  p.n.st.trans (p.rel.stSt hi p.dr)
/-- an own list is changed -/
theorem Rel.stApp {i : Nat} {a : Addr} {xs ys : List D} {vs ws : List V} (r : Rel K pa T H0 σ H g) (e : g.env[i]? = some (some (.own xs))) (ea : σ[i]? = some (some (.ref a))) (ha : H a = some (.lst vs)) (hd : DRs K (Nv pa T σ g) H ws ys) :
    PostSt K pa pa T H0 σ H g σ (upd H a (.lst ws)) (setOwn g i ys) := by
  have hi : i < g.env.length := (List.getElem?_eq_some_iff.mp e).1
  obtain ⟨a', vs', e1, e2, e3, e4, e5, e6⟩ := r.own e
  rw [ea] at e1
  cases e1
  have at_ : ∀ j sv, (setOwn g i ys).env[j]? = some (some sv) → (j = i ∧ sv = .own ys) ∨ (j ≠ i ∧ g.env[j]? = some (some sv)) := fun j sv h => by
    have h' : (g.env.set i (some (.own ys)))[j]? = some (some sv) := h
    by_cases hj : i = j
    · subst hj
      rw [List.getElem?_set_self hi] at h'
      cases h'
      exact .inl ⟨rfl, rfl⟩
    · rw [List.getElem?_set_ne hj] at h'
      exact .inr ⟨fun z => hj z.symm, h'⟩
  have own : ∀ j b, Own σ (setOwn g i ys) j b → Own σ g j b := fun j b ⟨zs, h1, h2⟩ => by
    rcases at_ j _ h1 with ⟨rfl, _⟩ | ⟨_, q1⟩
    · exact ⟨xs, e, h2⟩
    · exact ⟨zs, q1, h2⟩
  have sub : ∀ b, Nv pa T σ (setOwn g i ys) b → Nv pa T σ g b := fun b z => z.imp id fun z => z.imp id fun ⟨j, z⟩ => ⟨j, own j b z⟩
  have hN : Nv pa T σ g a := .inr (.inr ⟨i, xs, e, ea⟩)
  have x1 : Ext (fun b => b = a) H (upd H a (.lst ws)) := .put rfl ha
  have hm : ∀ b, b = a → Nv pa T σ g b := fun b z => z ▸ hN
  refine ⟨⟨by show σ.length = (g.env.set i (some (.own ys))).length; rw [List.length_set]; exact r.len, fun j sv h => ?_, fun j k b h1 h2 => r.ap j k b (own j b h1) (own k b h2), fun zs h => ?_, fun b z => ?_, r.x0.skip e4 ha, r.tb⟩, fun h => ⟨rfl, h⟩, fun v d q => (DR.ext x1 hm q).mono sub, rfl⟩
  · rcases at_ j sv h with ⟨rfl, rfl⟩ | ⟨hj, q1⟩
    · exact ⟨.ref a, ea, a, ws, rfl, upd_same, (DRs.ext x1 hm hd).mono sub, e4, e5, e6⟩
    · obtain ⟨u, f1, f2⟩ := r.sl j sv q1
      refine ⟨u, f1, ?_⟩
      cases sv with
      | d x => exact (DR.ext x1 hm f2).mono sub
      | own zs =>
        obtain ⟨b, us, g1, g2, g3, g4, g5, g6⟩ := f2
        subst g1
        have nb : b ≠ a := fun z => hj (r.ap j i a ⟨zs, q1, by rw [f1, z]⟩ ⟨xs, e, ea⟩)
        exact ⟨b, us, rfl, (upd_ne nb).trans g2, (DRs.ext x1 hm g3).mono sub, g4, g5, g6⟩
      | scr ns =>
        obtain ⟨b, h1, h2⟩ := f2
        refine ⟨b, h1, h2.imp (fun ⟨f1, ob, f2⟩ => ⟨f1, ob, (upd_ne fun z => ?_).trans f2⟩) id⟩
        rw [z, ha] at f2
        cases f2
      | pen => exact f2
  · obtain ⟨q1, us, q2, q3⟩ := r.pn zs h
    have nb : pa ≠ a := fun z => e6 ⟨by rw [show g.pen = some zs from h]; rfl, z.symm⟩
    exact ⟨q1, us, (upd_ne nb).trans q2, (DRs.ext x1 hm q3).mono sub⟩
  · obtain ⟨o, h1, h2⟩ := r.td b z
    exact ⟨o, (upd_ne fun (w : b = a) => e5 (w ▸ z)).trans h1, h2⟩
/-- the pen is written -/
theorem Rel.stPenPut {xs ys : List D} {vs ws : List V} (r : Rel K pa T H0 σ H g) (e : g.pen = some xs) (ha : H pa = some (.lst vs)) (hd : DRs K (Nv pa T σ g) H ws ys) :
    PostSt K pa pa T H0 σ H g σ (upd H pa (.lst ws)) { g with pen := some ys } := by
  have hpm : pm pa g.pen pa := ⟨by rw [e]; rfl, rfl⟩
  have ep : pm pa (some ys) = pm pa g.pen := pm_eq (by rw [e]; rfl)
  have sub : ∀ b, Nv pa T σ { g with pen := some ys } b → Nv pa T σ g b := fun b z => z.imp id fun z => z.imp (fun z => by rw [← ep]; exact z) id
  have x1 : Ext (pm pa g.pen) H (upd H pa (.lst ws)) := .put hpm ha
  have hm : ∀ b, pm pa g.pen b → Nv pa T σ g b := fun b z => .inr (.inl z)
  refine ⟨⟨r.len, fun j sv h => ?_, r.ap, fun zs h => ?_, fun b z => ?_, (r.x0.trans x1).mono fun a z => by show pm pa (some ys) a; rw [ep]; exact z, r.tb⟩, fun _ => ⟨rfl, rfl⟩, fun v d q => (DR.ext x1 hm q).mono sub, rfl⟩
  · obtain ⟨u, f1, f2⟩ := r.sl j sv h
    refine ⟨u, f1, ?_⟩
    cases sv with
    | d x => exact (DR.ext x1 hm f2).mono sub
    | own zs =>
      obtain ⟨b, us, g1, g2, g3, g4, g5, g6⟩ := f2
      exact ⟨b, us, g1, x1.k _ _ g2 g6 fun _ => nofun, (DRs.ext x1 hm g3).mono sub, g4, g5, by show ¬ pm pa (some ys) b; rw [ep]; exact g6⟩
    | scr ns =>
      obtain ⟨b, h1, h2⟩ := f2
      refine ⟨b, h1, ?_⟩
      show ScR K (pm pa (some ys)) _ b ns
      rw [ep]
      exact h2.ext x1
    | pen => exact ⟨f2.1, rfl⟩
  · cases (show some ys = some zs from h)
    exact ⟨(r.pn xs e).1, ws, upd_same, (DRs.ext x1 hm hd).mono sub⟩
  · obtain ⟨o, h1, h2⟩ := r.td b z
    exact ⟨o, (upd_ne fun (w : b = pa) => (r.pn xs e).1 (w ▸ z)).trans h1, h2⟩
/-- the pen is made -/
theorem PostE.mkPen {v : V} {xs : List D} {i : Nat} (rl : Rel K pa T H0 σ H g) (p : PostE K pa T H0 σ H g v H1 (.fr xs) g1) (hi : i < g1.env.length) (hn : g1.pen = none) :
    ∃ pa', PostSt K pa pa' T H0 σ H g (σ.set i (some v)) H1 { env := g1.env.set i (some .pen), pen := some xs } := by
  obtain ⟨q, vs, rfl, e1, e2, e3, e4⟩ := p.vr
  have r : Rel K pa (fun a => T a ∨ a = q) H0 σ H1 g1 := p.rel.mono fun a z => z.imp id fun z => by rw [z]
  have hg : g.pen.isSome = false := by rw [← p.pen, hn]; rfl
  have hiσ : i < σ.length := by rw [r.len]; exact hi
  refine ⟨q, ?_⟩
  have nopm : ∀ a, ¬ pm pa g1.pen a := fun a z => by rw [hn] at z; cases z.1
  have at_ : ∀ j sv, (g1.env.set i (some Sv.pen))[j]? = some (some sv) → (j = i ∧ sv = .pen) ∨ (j ≠ i ∧ g1.env[j]? = some (some sv) ∧ (σ.set i (some (V.ref q)))[j]? = σ[j]?) := fun j sv h' => by
    by_cases hj : i = j
    · subst hj
      rw [List.getElem?_set_self hi] at h'
      cases h'
      exact .inl ⟨rfl, rfl⟩
    · rw [List.getElem?_set_ne hj] at h'
      exact .inr ⟨fun z => hj z.symm, h', List.getElem?_set_ne hj⟩
  have own : ∀ j a, Own (σ.set i (some (V.ref q))) { env := g1.env.set i (some .pen), pen := some xs } j a → Own σ g1 j a := fun j a ⟨ys, h1, h2⟩ => by
    rcases at_ j _ h1 with ⟨_, z⟩ | ⟨q0, q1, q2⟩
    · cases z
    · exact ⟨ys, q1, q2.symm.trans h2⟩
  have sub : ∀ a, Nv q T (σ.set i (some (V.ref q))) { env := g1.env.set i (some .pen), pen := some xs } a → Nv pa T σ g1 a ∨ a = q := by
    rintro a (z | z | ⟨j, z⟩)
    · exact .inl (.inl z)
    · exact .inr z.2
    · exact .inl (.inr (.inr ⟨j, own j a z⟩))
  have sub2 : ∀ a, Nv q T (σ.set i (some (V.ref q))) { env := g1.env.set i (some .pen), pen := some xs } a → Nv pa (fun a => T a ∨ a = q) σ g1 a := fun a z => by
    rcases sub a z with (z | z) | z
    · exact .inl (.inl z)
    · exact .inr z
    · exact .inl (.inr z)
  refine ⟨⟨by rw [List.length_set]; show σ.length = (g1.env.set i (some Sv.pen)).length; rw [List.length_set]; exact r.len, fun j sv h => ?_, fun j k a h1 h2 => r.ap j k a (own j a h1) (own k a h2), fun ys h => ?_, fun a z => r.td a (.inl z), r.x0.mono fun a z => absurd z (nopm a), r.tb⟩, (fun h => by rw [hg] at h; cases h), fun v d z => ?_, List.length_set ..⟩
  · rcases at_ j sv h with ⟨rfl, rfl⟩ | ⟨_, q1, q2⟩
    · exact ⟨.ref q, List.getElem?_set_self hiσ, rfl, rfl⟩
    · obtain ⟨u, f1, f2⟩ := r.sl j sv q1
      refine ⟨u, q2.trans f1, ?_⟩
      cases sv with
      | d x => exact DR.mono sub2 f2
      | own ys =>
        obtain ⟨b, us, g1, g2, g3, g4, g5, g6⟩ := f2
        exact ⟨b, us, g1, g2, g3.mono sub2, g4, fun z => g5 (.inl z), fun z => g5 (.inr z.2)⟩
      | scr ns =>
        obtain ⟨b, h1, h2⟩ := f2
        refine ⟨b, h1, h2.imp (fun ⟨f1, ob, f2⟩ => ⟨fun z => ?_, ob, f2⟩) id⟩
        rw [z.2, e2] at f2
        cases f2
      | pen => exact absurd f2.2 (by rw [hn]; decide)
  · cases (show some xs = some ys from h)
    exact ⟨e4, vs, e2, e3.mono sub⟩
  · refine (DR.ext (N := fun a => Nv pa T σ g a ∨ a = q) p.ext (fun a z => .inl (.inr (.inl z))) (z.grow e1)).mono fun a z => ?_
    exact (sub a z).imp (p.sub a) id
end
end DL
end
section
set_option Elab.async false
set_option linter.all false
set_option maxRecDepth 100000
set_option autoImplicit false
set_option maxHeartbeats 4000000
/-! DL, part r: statements checked and run. -/
namespace DL
open PySem PySem.Spec PyProof.Rows L2
variable [Tabs]

def isComp : Expr → Bool
  | .ListComp .. | .SetComp .. | .DictComp .. => true
  | _ => false
def isTupE : Expr → Bool
  | .Tuple .. => true
  | _ => false
/-- is the comprehension's list stored straight into the name? -/
def swB (sc : Scope) (x : Str) (px : Pos) (v : Expr) : Bool := match v with
  | .ListComp _ _ scope vpos => lclB sc x && (px.line == vpos.line) && !(scope.names.any fun (n, k) => n == x && (k == .local || k == .cell))
  | _ => false
def parB (sc : Scope) (x y : Str) (px py : Pos) (a b : Expr) : Bool :=
  lclB sc x && lclB sc y && !(x == y) && (py.line == px.line) && notStar a && notStar b && !([a, b].all (foldedForSure 8)) && !([a, b].all (constantsAlone 8))
def chkA (p : Pgm) (m : Nat) (c : Ct) (s : Stmt) (i : Nat) (e : IE) : Bool := match s with
  | .Assign [.Name x px] v _ => decide (c.N[i]? = some x) && locB c.sc x && chkE p m c v e && (match v with | .ListComp .. => true | v => !isComp v)
  | _ => false
def chkS (p : Pgm) (chkSs : Ct → List Stmt → List IS → Bool) (m : Nat) (c : Ct) (s : Stmt) (ir : IS) : Bool :=
  match ir with
  | .nev => true
  | .set i e => chkA p m c s i e
  | .own i e => chkA p m c s i e
  | .pen i e => chkA p m c s i e
  | .unp is e => (match s with
    | .Assign [.Tuple ts k tp] v _ => chkNm c ts is && chkE p m c v e && !isTupE v
    | _ => false)
  | .par i j _ _ a b => (match s with
    | .Assign [.Tuple [.Name x px, .Name y py] _ _] (.Tuple [ea, eb] _ _) _ => decide (c.N[i]? = some x) && decide (c.N[j]? = some y) && decide (i ≠ j) && parB c.sc x y px py ea eb && chkE p m c ea a && chkE p m c eb b
    | _ => false)
  | .app i e => (match s with
    | .Expr (.Call (.Attribute (.Name x _) mm apos) [v] [] cpos) _ => mm == ("append" : Str) && decide (c.N[i]? = some x) && visB c.sc x && okN x && notStar v && chkE p m c v e && (apos.endLine == cpos.line)
    | _ => false)
  | .sto i k e => (match s with
    | .Assign [.Subscript (.Name x _) ke _] v _ => decide (c.N[i]? = some x) && visB c.sc x && okN x && notSlice ke && chkE p m c ke k && chkE p m c v e
    | _ => false)
  | .exp e => (match s with
    | .Expr v _ => chkE p m c v e && !isComp v
    | _ => false)
  | .iff t a b => (match s with
    | .If te as bs _ => chkE p m c te t && chkSs c as a && chkSs c bs b
    | _ => false)
  | .for_ tg ik its body => (match s with
    | .For t it bs els _ => els.isEmpty && chkTg c t tg && chkIt (chkE p m c) c t ik its it && chkSs c bs body
    | _ => false)
  | .ret e => (match s with
    | .Return v _ => (match v with | some v => chkE p m c v e | none => false)
    | _ => false)
def chkSs (p : Pgm) : Nat → Ct → List Stmt → List IS → Bool
  | 0, _, _, _ => false
  | m + 1, c, ss, is => match ss, is with
    | [], [] => true
    | s :: ss, i :: is => chkS p (chkSs p m) m c s i && chkSs p m c ss is
    | _, _ => false

def SndS (P : Program) (w : World) (K : Fg) (mg : Str → Option Value) (base : Heap) (p : Pgm) (n : Nat) : Prop :=
  ∀ X c sts irs m, XO P w K mg base p n X c → XG X c → chkSs p m c sts irs = true → OKss X (wSs X sts) ((ev p.fns n).ss irs)
section
variable {P : Program} {w : World} {K : Fg} {mg : Str → Option Value} {base : Heap} {p : Pgm} {n m : Nat} {X : Cx} {c : Ct} {E : Ev}
theorem blockK {env : Env} (h : env.scope.kind = .function) : env.blockKind = .function := by
  unfold Env.blockKind
  rw [h]
  rfl
theorem swaps_no {v t : Expr} {line : Nat} {env : Env} (h : isComp v = false) : swapsWith v (some t) line env = pure false := by
  cases v <;> first | rfl | cases h
theorem swaps_lc {elt : Expr} {gs : List Comprehension} {scope : Scope} {vpos px : Pos} {x : Str} {line : Nat} {env : Env} (hk : env.scope.kind = .function) :
    swapsWith (.ListComp elt gs scope vpos) (some (.Name x px)) line env = pure (swB env.scope x px (.ListComp elt gs scope vpos)) := by
  have e : (env.blockKind == ScopeKind.function) = true := by rw [blockK hk]; rfl
  have e2 : (env.kindOf x == some NameKind.local) = lclB env.scope x := by
    unfold lclB
    show (env.scope.names.lookup x == some NameKind.local) = _
    cases q : env.scope.names.lookup x with
    | none => rfl
    | some k => cases k <;> rfl
  show (pure (env.blockKind == ScopeKind.function && env.kindOf x == some NameKind.local && px.line == vpos.line && !(scope.names.any fun (n, k) => n == x && (k == NameKind.local || k == NameKind.cell))) : Sem Bool) = _
  rw [e, e2]
  rfl
theorem lcl_of {sc : Scope} {s : Str} (h : lclB sc s = true) : sc.names.lookup s = some .local := by
  unfold lclB at h
  split at h
  · assumption
  · cases h
/-- name = value -/
theorem ok_assign (S : Snd P w K mg base p n) (O : XO P w K mg base p (n + 1) X c) (G1 : XG X c) {s : Stmt} {i : Nat} {ir : IE} (hc : chkA p m c s i ir = true) {g g1 : G} {r : R} (q : stE (ev p.fns n) ir g = some (r, g1))
    {pa : Addr} {T : AS} {H0 H : Hp} {σ : L2.St} {D : Ends} (hlen : σ.length = X.N.length) (rl : Rel X.K pa T H0 σ H g) (kk : i < σ.length → ∀ v H', PostE X.K pa T H0 σ H g v H' r g1 → D.nx (σ.set i (some v)) H') : wS X s D σ H := by
  unfold chkA at hc
  split at hc
  · rename_i x px v pos
    simp only [Bool.and_eq_true, decide_eq_true_eq] at hc
    obtain ⟨⟨⟨h1, h2⟩, h3⟩, h4⟩ := hc
    obtain ⟨l1, l2⟩ := G1.st x h2
    have hN : X.N[i]? = some x := by rw [← O.cN]; exact h1
    have hi : i < σ.length := by rw [hlen]; exact (List.getElem?_eq_some_iff.mp hN).1
    have O' : XO P w K mg base p n X c := O.le (Nat.le_succ n)
    have plain : swapsWith v (some (.Name x px)) pos.line X.env = pure false → wS X (.Assign [.Name x px] v pos) D σ H := fun hs =>
      wS_of (ps_set O.nd hN l1 pe_w hs l2) (snd_e S m X c v ir O h3 g r g1 q pa T H0 σ H _ rl fun v H' p1 => kk hi v H' p1)
    cases v with
    | ListComp elt gs scope vpos =>
      cases hsw : swB X.env.scope x px (.ListComp elt gs scope vpos) with
      | false => exact plain (by rw [swaps_lc O.kf, hsw])
      | true =>
        cases m with
        | zero => cases h3
        | succ m =>
          have hloc : X.env.scope.names.lookup x = some .local := by
            have h5 := hsw
            unfold swB at h5
            simp only [Bool.and_eq_true] at h5
            exact lcl_of h5.1.1
          cases ir with
          | lc ielt tg ik its cond own =>
            simp only [chkE] at h3
            split at h3
            · rename_i t it ifs
              have L := lc_parts (m := m) S O' h3
              have bk := L.bk O'
              have he : ∀ e i, chkE p m c e i = true → OKe X e ((ev p.fns n).e i) := fun e i q => S.e X c e i m O' q
              refine wS_of (ps_setLc (g := tgG X.K tg) O.calm O.nd hN hloc (by rw [swaps_lc O.kf, hsw]) pi_w bk (fun s H1 C cl fp => pg_tg (XG.blk O' s H1 C cl fp) L.htg) L.cnd (LcOk.el X scope elt) (folded L.set)) ?_
              rw [nmOf_ix]
              exact lc_read O' he bk.kind L.htg L.how L.hit L.hel L.hcn q hlen rl fun v H' p1 => kk hi v H' p1
            · cases h3
          | _ => cases h3
    | SetComp _ _ _ _ => cases h4
    | DictComp _ _ _ _ _ => cases h4
    | _ => exact plain (swaps_no rfl)
  · cases hc
theorem ok_S_set (S : Snd P w K mg base p n) (O : XO P w K mg base p (n + 1) X c) (G1 : XG X c) {s : Stmt} {i : Nat} {e : IE} (hc : chkA p m c s i e = true) : OKss X (wS X s) (stS (ev p.fns n) (.set i e)) := by
  intro g fl g' q pa T H0 σ H D hlen rl kn kr
  simp only [stS] at q
  cases e1 : stE (ev p.fns n) e g with
  | none => simp only [e1] at q; cases q
  | some rg =>
    obtain ⟨r, g1⟩ := rg
    simp only [e1] at q
    cases e2 : keepR r g1 with
    | none => simp only [e2] at q; cases q
    | some dg =>
      obtain ⟨d, g2⟩ := dg
      simp only [e2, Option.map_some, Option.some.injEq, Prod.mk.injEq] at q
      obtain ⟨rfl, rfl⟩ := q
      refine ok_assign S O G1 hc e1 hlen rl fun hi v H' p1 => ?_
      have k1 := p1.keep e2
      exact kn rfl _ _ _ (k1.set (by rw [← k1.rel.len]; exact hi))
theorem ok_S_own (S : Snd P w K mg base p n) (O : XO P w K mg base p (n + 1) X c) (G1 : XG X c) {s : Stmt} {i : Nat} {e : IE} (hc : chkA p m c s i e = true) : OKss X (wS X s) (stS (ev p.fns n) (.own i e)) := by
  intro g fl g' q pa T H0 σ H D hlen rl kn kr
  simp only [stS] at q
  split at q
  · rename_i xs g1 e1
    simp only [Option.some.injEq, Prod.mk.injEq] at q
    obtain ⟨rfl, rfl⟩ := q
    refine ok_assign S O G1 hc e1 hlen rl fun hi v H' p1 => ?_
    exact kn rfl _ _ _ (p1.own rl (by rw [← p1.rel.len]; exact hi))
  · cases q
theorem ok_S_pen (S : Snd P w K mg base p n) (O : XO P w K mg base p (n + 1) X c) (G1 : XG X c) {s : Stmt} {i : Nat} {e : IE} (hc : chkA p m c s i e = true) : OKss X (wS X s) (stS (ev p.fns n) (.pen i e)) := by
  intro g fl g' q pa T H0 σ H D hlen rl kn kr
  simp only [stS] at q
  split at q
  · rename_i xs g1 e1
    by_cases hp : g1.pen.isSome = true
    · rw [if_pos hp] at q; cases q
    · rw [if_neg hp] at q
      simp only [Option.some.injEq, Prod.mk.injEq] at q
      obtain ⟨rfl, rfl⟩ := q
      refine ok_assign S O G1 hc e1 hlen rl fun hi v H' p1 => ?_
      obtain ⟨pa', st⟩ := p1.mkPen (i := i) rl (by rw [← p1.rel.len]; exact hi) (by
        cases h : g1.pen with
        | none => rfl
        | some _ => rw [h] at hp; exact absurd rfl hp)
      exact kn rfl pa' _ _ st
  · cases q
theorem ok_S_unp (O : XO P w K mg base p n X c) (G1 : XG X c) (he : ∀ e i, chkE p m c e i = true → OKe X e (E.e i)) {ts : List Expr} {k : Nat} {tp pos : Pos} {v : Expr} {is : List Nat} {e : IE} (h1 : chkNm c ts is = true) (h2 : chkE p m c v e = true) (h3 : isTupE v = false) :
    OKss X (wS X (.Assign [.Tuple ts k tp] v pos)) (stS E (.unp is e)) := by
  intro g fl g' q pa T H0 σ H D hlen rl kn kr
  simp only [stS] at q
  cases e1 : E.e e g with
  | none => simp only [e1] at q; cases q
  | some rg =>
    obtain ⟨r, g1⟩ := rg
    simp only [e1] at q
    split at q
    · rename_i ds g2 e2
      cases e3 : setDs g2 is ds with
      | none => simp only [e3] at q; cases q
      | some g3 =>
        simp only [e3, Option.map_some, Option.some.injEq, Prod.mk.injEq] at q
        obtain ⟨rfl, rfl⟩ := q
        have hs : swapsWithSole [.Tuple ts k tp] v pos.line X.env = pure false := by
          show swapsWith v (some (.Tuple ts k tp)) pos.line X.env = pure false
          cases v <;> rfl
        have hw : swappedStores [.Tuple ts k tp] v X.env = pure none := by cases v <;> first | rfl | cases h3
        refine wS_of (ps_asg pe_w (pg_tg (t := .many is) G1 (e := .Tuple ts k tp) h1) hs hw rfl) (he v e h2 g r g1 e1 pa T H0 σ H _ rl fun v1 H1 p1 => ?_)
        have k1 := p1.keep e2
        refine asg_ok (t := .many is) (x := .tuple ds) (g := g2) (g' := g3) e3 (fun j hj => ?_) k1.rel k1.dr fun σ' r2 s2 w2 p2 => ?_
        · have h5 := chkTg_lt (c := c) (e := .Tuple ts k tp) (t := .many is) h1 j hj
          rw [← k1.rel.len, hlen, ← O.cN]
          exact h5
        · refine kn rfl pa σ' H1 (k1.n.st.trans ⟨r2, fun h => ⟨rfl, by rw [p2]; exact h⟩, fun v d z => z.mono s2, ?_⟩)
          have h6 := congrArg List.length w2
          rw [L2.wipe_length, L2.wipe_length] at h6
          exact h6
    · cases q
theorem ok_S_app (O : XO P w K mg base p n X c) (he : ∀ e i, chkE p m c e i = true → OKe X e (E.e i)) {x : Str} {i : Nat} {px apos cpos pos : Pos} {v : Expr} {e : IE} (h1 : c.N[i]? = some x) (h2 : visB c.sc x = true) (h3 : okN x = true) (h4 : notStar v = true) (h5 : chkE p m c v e = true) (h6 : (apos.endLine == cpos.line) = true) :
    OKss X (wS X (.Expr (.Call (.Attribute (.Name x px) "append" apos) [v] [] cpos) pos)) (stS E (.app i e)) := by
  intro g fl g' q pa T H0 σ H D hlen rl kn kr
  simp only [stS] at q
  split at q
  · rename_i xs0 e0
    cases e1 : E.e e g with
    | none => simp only [e1] at q; cases q
    | some rg =>
      obtain ⟨r, g1⟩ := rg
      simp only [e1] at q
      cases e2 : keepR r g1 with
      | none => simp only [e2] at q; cases q
      | some dg =>
        obtain ⟨d, g2⟩ := dg
        simp only [e2] at q
        split at q
        · rename_i xs e3
          by_cases hz : xs.length < szL
          · rw [if_pos hz] at q
            simp only [Option.some.injEq, Prod.mk.injEq] at q
            obtain ⟨rfl, rfl⟩ := q
            obtain ⟨n1, n2, _⟩ := okN_of h3
            have pv : PE X (.Name x px) (tVar i) := pe_var (by rw [← O.cN]; exact h1) (by rw [← O.cs]; exact vis_of h2) n1 n2
            obtain ⟨a, vs0, f1, f2, _⟩ := rl.own e0
            refine wS_of (ps_expr (pe_bm PySem.F.plainAttrs_list PySem.F.slot_list_append PySem.F.type_list_append mt_append pv (pa_cons pe_w pa_nil (star_cons h4)) rfl (few_one h4) h6 (star_cons h4) rfl)) ?_
            refine ⟨.ref a, f1, .inl ⟨rfl, vs0, .of f2⟩, ?_⟩
            refine he v e h5 g r g1 e1 pa T H0 σ H _ rl fun v1 H1 p1 => ?_
            have k1 := p1.keep e2
            obtain ⟨a', vs, b1, b2, b3, _⟩ := k1.rel.own e3
            rw [f1] at b1
            cases b1
            refine ⟨a, vs, v1, rfl, rfl, b2, by rw [b3.length, ← szL_eq]; exact hz, ?_⟩
            exact kn rfl pa σ _ (k1.n.st.trans (k1.rel.stApp e3 f1 b2 (b3.append (.cons k1.dr .nil))))
          · rw [if_neg hz] at q; cases q
        · cases q
  · cases q
theorem ok_S_sto (O : XO P w K mg base p n X c) (he : ∀ e i, chkE p m c e i = true → OKe X e (E.e i)) {x : Str} {i : Nat} {px ps pos : Pos} {v ke : Expr} {e k : IE} (h1 : c.N[i]? = some x) (h2 : visB c.sc x = true) (h3 : okN x = true) (h4 : notSlice ke = true) (h5 : chkE p m c ke k = true) (h6 : chkE p m c v e = true) :
    OKss X (wS X (.Assign [.Subscript (.Name x px) ke ps] v pos)) (stS E (.sto i k e)) := by
  intro g fl g' q pa T H0 σ H D hlen rl kn kr
  simp only [stS] at q
  cases e1 : E.e e g with
  | none => simp only [e1] at q; cases q
  | some rg =>
    obtain ⟨r, g1⟩ := rg
    simp only [e1] at q
    cases e2 : keepR r g1 with
    | none => simp only [e2] at q; cases q
    | some dg =>
      obtain ⟨d, g2⟩ := dg
      simp only [e2] at q
      split at q
      case h_2 => cases q
      rename_i sv0 e0
      cases e3 : rd1 E k g2 with
      | none => simp only [e3] at q; cases q
      | some t3 =>
        obtain ⟨j, g3⟩ := t3
        cases j with
        | int j =>
          simp only [e3] at q
          obtain ⟨n1, n2, _⟩ := okN_of h3
          have pv : PE X (.Name x px) (tVar i) := pe_var (by rw [← O.cN]; exact h1) (by rw [← O.cs]; exact vis_of h2) n1 n2
          have hs : swapsWithSole [.Subscript (.Name x px) ke ps] v pos.line X.env = pure false := by
            show swapsWith v (some (.Subscript (.Name x px) ke ps)) pos.line X.env = pure false
            cases v <;> rfl
          have hgsub : ∀ u, assign (.Subscript (.Name x px) ke ps) X.env u = (do
              let ov ← holding [u] (eval (.Name x px) X.env)
              let iv ← holding [u, ov] (eval ke X.env)
              standAt ps
              holding [u, ov, iv] (setItem ov iv u)
              release [u, ov, iv] []) := by
            intro u
            cases ke <;> first | rfl | cases h4
          refine wS_of (ps_asg pe_w (pg_sub pv pe_w set_list hgsub) hs rfl rfl) (he v e h6 g r g1 e1 pa T H0 σ H _ rl fun v1 H1 p1 => ?_)
          have k1 := p1.keep e2
          -- what the name holds at the end
          cases e4 : g3.env[i]? with
          | none => simp only [e4] at q; cases q
          | some o =>
            cases o with
            | none => simp only [e4] at q; cases q
            | some sv =>
              cases sv with
              | own xs =>
                simp only [e4] at q
                cases e5 : ixN xs.length j with
                | none => simp only [e5] at q; cases q
                | some nn =>
                  simp only [e5, Option.map_some, Option.some.injEq, Prod.mk.injEq] at q
                  obtain ⟨rfl, rfl⟩ := q
                  have hex : ∃ o, σ[i]? = some (some o) := by
                    obtain ⟨o, ho, _⟩ := k1.rel.sl i sv0 e0
                    exact ⟨o, ho⟩
                  obtain ⟨o, ho⟩ := hex
                  refine ⟨o, ho, OKe.rd (he ke k h5) g2 _ g3 e3 pa T H0 σ H1 _ k1.rel fun v2 H2 p2 => ?_⟩
                  obtain ⟨a, vs, b1, b2, b3, _⟩ := p2.rel.own e4
                  rw [ho] at b1
                  cases b1
                  have hx : DR X.K (Nv pa T σ g3) H2 v1 d := (DR.ext p2.ext (fun a z => .inr (.inl z)) k1.dr).mono p2.sub
                  refine ⟨a, vs, j, nn, rfl, p2.tr.int, b2, by rw [b3.length]; exact e5, ?_⟩
                  exact kn rfl pa σ _ ((k1.n.then p2.n).st.trans (p2.rel.stApp e4 ho b2 (b3.set nn hx)))
              | pen =>
                simp only [e4] at q
                cases e6 : g3.pen with
                | none => simp only [e6] at q; cases q
                | some xs =>
                  simp only [e6] at q
                  cases e5 : ixN xs.length j with
                  | none => simp only [e5] at q; cases q
                  | some nn =>
                    simp only [e5, Option.map_some, Option.some.injEq, Prod.mk.injEq] at q
                    obtain ⟨rfl, rfl⟩ := q
                    have hex : ∃ o, σ[i]? = some (some o) := by
                      obtain ⟨o, ho, _⟩ := k1.rel.sl i sv0 e0
                      exact ⟨o, ho⟩
                    obtain ⟨o, ho⟩ := hex
                    refine ⟨o, ho, OKe.rd (he ke k h5) g2 _ g3 e3 pa T H0 σ H1 _ k1.rel fun v2 H2 p2 => ?_⟩
                    obtain ⟨u, hu, hu2⟩ := p2.rel.sl i _ e4
                    rw [ho] at hu
                    cases hu
                    obtain ⟨rfl, _⟩ := hu2
                    obtain ⟨_, vs, b2, b3⟩ := p2.rel.pn xs e6
                    have hx : DR X.K (Nv pa T σ g3) H2 v1 d := (DR.ext p2.ext (fun a z => .inr (.inl z)) k1.dr).mono p2.sub
                    refine ⟨pa, vs, j, nn, rfl, p2.tr.int, b2, by rw [b3.length]; exact e5, ?_⟩
                    exact kn rfl pa σ _ ((k1.n.then p2.n).st.trans (p2.rel.stPenPut e6 b2 (b3.set nn hx)))
              | _ => simp only [e4] at q; cases q
        | _ => simp only [e3] at q; cases q
end
end DL
end
section
set_option Elab.async false
set_option linter.all false
set_option maxRecDepth 100000
set_option autoImplicit false
set_option maxHeartbeats 4000000
/-! DL, part s: two names at once, branches, loops, blocks. -/
namespace DL
open PySem PySem.Spec PyProof.Rows L2
variable [Tabs]
section
variable {P : Program} {w : World} {K : Fg} {mg : Str → Option Value} {base : Heap} {p : Pgm} {n m : Nat} {X : Cx} {c : Ct} {E : Ev}
theorem swapped_par {x y : Str} {px py p1 p2 : Pos} {k1 k2 : Nat} {a b : Expr} {env : Env} (hk : env.scope.kind = .function) (h : parB env.scope x y px py a b = true) :
    swappedStores [.Tuple [.Name x px, .Name y py] k1 p1] (.Tuple [a, b] k2 p2) env = pure (some [x, y]) := by
  unfold parB at h
  simp only [Bool.and_eq_true, Bool.not_eq_true'] at h
  obtain ⟨⟨⟨⟨⟨⟨⟨h1, h2⟩, h3⟩, h4⟩, h5⟩, h6⟩, h7⟩, h8⟩ := h
  have l1 : env.kindOf x = some .local := lcl_of h1
  have l2 : env.kindOf y = some .local := lcl_of h2
  have hst : ([a, b].any fun | .Starred .. => true | _ => false) = false := by
    rw [List.any_cons, List.any_cons]
    cases a <;> first | (cases h5; done) | (cases b <;> first | (cases h6; done) | rfl)
  have hp : (py.line == px.line) = true := h4
  have hxy : (y == x) = false := by
    cases q : (y == x) with
    | false => rfl
    | true =>
      have := eq_of_beq q
      subst this
      simp at h3
  unfold swappedStores
  simp only [pure_bind, blockK hk, List.length_cons, List.length_nil, h7, h8, List.filterMap_cons, List.filterMap_nil, l1, l2, List.head?_cons, Option.map_some, Option.getD_some, Expr.pos]
  cases a <;> first | (cases h5; done) | (cases b <;> first | (cases h6; done) | (simp [List.eraseDups_cons, hp, hxy, h4]; done))

/-! ### what is about to be stored -/
def ownQ (v : V) : Sv → AS
  | .own _ => fun a => v = .ref a
  | _ => fun _ => False
def PdV (K : Fg) (pa : Addr) (T : AS) (H0 : Hp) (σ : L2.St) (H : Hp) (g : G) (v : V) : Sv → Prop
  | .d x => DR K (Nv pa T σ g) H v x
  | .own xs => ∃ q vs, v = .ref q ∧ H q = some (.lst vs) ∧ DRs K (fun a => Nv pa T σ g a ∨ a = q) H vs xs ∧ H0 q = none ∧ ¬ T q
  | _ => False
structure PostP (K : Fg) (pa : Addr) (T : AS) (H0 : Hp) (σ : L2.St) (H : Hp) (g : G) (v : V) (H' : Hp) (sv : Sv) (g' : G) : Prop where
  ext : Ext (pm pa g.pen) H H'
  rel : Rel K pa (fun a => T a ∨ ownQ v sv a) H0 σ H' g'
  vr : PdV K pa T H0 σ H' g' v sv
  pen : g'.pen.isSome = g.pen.isSome
  sub : ∀ a, Nv pa T σ g' a → Nv pa T σ g a
  fr : ∀ a, ownQ v sv a → H a = none
def setSv (g : G) (i : Nat) (sv : Sv) : G := { g with env := g.env.set i (some sv) }
section
variable {pa : Addr} {T : AS} {H0 H H1 H2 : Hp} {σ : L2.St} {g g1 g2 g3 : G} {v v1 v2 : V} {r : R} {s1 s2 sv : Sv}
theorem PostE.pd (rl : Rel K pa T H0 σ H g) (q : PostE K pa T H0 σ H g v H1 r g1) {o : Bool} (e : keepO o r g1 = some (sv, g2)) : PostP K pa T H0 σ H g v H1 sv g2 := by
  cases o with
  | true =>
    cases r with
    | fr xs =>
      cases e
      obtain ⟨a, vs, e0, e1, e2, e3, e4⟩ := q.vr
      refine ⟨q.ext, q.rel, ⟨a, vs, e0, e2, e3, rl.x0.d a e1, e4⟩, q.pen, q.sub, fun b z => ?_⟩
      have z' : v = .ref b := z
      rw [e0] at z'
      cases z'
      exact e1
    | _ => cases e
  | false =>
    have e' : (keepR r g1).map (fun dg => (Sv.d dg.1, dg.2)) = some (sv, g2) := by cases r <;> exact e
    cases k : keepR r g1 with
    | none => rw [k] at e'; cases e'
    | some dg =>
      obtain ⟨d, g3⟩ := dg
      rw [k] at e'
      cases e'
      have kk := q.keep k
      exact ⟨kk.ext, kk.rel.mono fun a z => z.elim id fun z => z.elim, kk.dr, kk.pen, kk.sub, fun a z => z.elim⟩
/-- kept aside while the rest goes on -/
theorem PdV.move {pa : Addr} {σ' : L2.St} (h : PdV K pa T H0 σ H1 g1 v sv) (r1 : Rel K pa (fun a => T a ∨ ownQ v sv a) H0 σ H1 g1) (x : Ext (pm pa g1.pen) H1 H2) {s2 : Sv} {v2 : V} (hf : ∀ a, ownQ v2 s2 a → H1 a = none)
    (sub : ∀ a, Nv pa T σ' g2 a → (Nv pa T σ g1 a ∨ ownQ v sv a) ∨ ownQ v2 s2 a) : PdV K pa T H0 σ' H2 g2 v sv := by
  have gr : ∀ {N : AS} {u : V} {d : D}, DR K N H1 u d → DR K (fun a => N a ∨ ownQ v2 s2 a) H1 u d := fun {N u d} q => by
    cases s2 with
    | own ys =>
      cases v2 with
      | ref b => exact (q.grow (hf b rfl)).mono fun a z => z.imp id fun z => (V.ref.inj z).symm
      | _ => exact q.mono fun a z => z.elim id fun z => by cases (show _ = V.ref a from z)
    | _ => exact q.mono fun a z => z.elim id fun z => z.elim
  have grs : ∀ {N : AS} {u : List V} {d : List D}, DRs K N H1 u d → DRs K (fun a => N a ∨ ownQ v2 s2 a) H1 u d := fun {N u d} q => by
    cases s2 with
    | own ys =>
      cases v2 with
      | ref b => exact (q.grow (hf b rfl)).mono fun a z => z.imp id fun z => (V.ref.inj z).symm
      | _ => exact q.mono fun a z => z.elim id fun z => by cases (show _ = V.ref a from z)
    | _ => exact q.mono fun a z => z.elim id fun z => z.elim
  have hm : ∀ {N : AS} a, pm pa g1.pen a → (Nv pa T σ g1 a ∨ N a) := fun {N} a z => .inl (.inr (.inl z))
  cases sv with
  | d d =>
    have h0 : DR K (Nv pa T σ g1) H1 v d := h
    show DR K (Nv pa T σ' g2) H2 v d
    exact (DR.ext x (fun a z => .inl (.inr (.inl z))) (gr h0)).mono fun a z => (sub a z).imp (fun z => z.elim id fun z => z.elim) id
  | own xs =>
    obtain ⟨q, vs, rfl, e1, e2, e3, e4⟩ := h
    have nn := Rel.not_nv (T := T) (v := .ref q) r1 rfl e4
    refine ⟨q, vs, rfl, x.k _ _ e1 (fun z => nn (.inr (.inl z))) fun _ => nofun, ?_, e3, e4⟩
    refine (DRs.ext x (fun a z => .inl (.inl (.inr (.inl z)))) (grs e2)).mono fun a z => ?_
    rcases z with z | z
    · exact (sub a z).imp (fun z => z.imp id fun z => (V.ref.inj z).symm) id
    · exact .inl (.inr z)
  | _ => exact h.elim
/-- it is stored -/
theorem PdV.store {i : Nat} (h : PdV K pa T H0 σ H g v sv) (rl : Rel K pa (fun a => T a ∨ ownQ v sv a) H0 σ H g) (hi : i < g.env.length) :
    Rel K pa T H0 (σ.set i (some v)) H (setSv g i sv) ∧ ∀ a, Nv pa T (σ.set i (some v)) (setSv g i sv) a → Nv pa T σ g a ∨ ownQ v sv a := by
  cases sv with
  | d x =>
    obtain ⟨r1, s1⟩ := (rl.mono (T' := T) fun a z => .inl z).stD hi h
    exact ⟨r1, fun a z => .inl (s1 a z)⟩
  | own xs =>
    obtain ⟨q, vs, rfl, e1, e2, e3, e4⟩ := h
    have r0 : Rel K pa (fun a => T a ∨ a = q) H0 σ H g := rl.mono fun a z => z.imp id fun z => by show V.ref q = .ref a; rw [z]
    obtain ⟨r1, s1⟩ := r0.stOwn hi e1 e2 e3 e4
    exact ⟨r1, fun a z => (s1 a z).imp id fun z => by show V.ref q = .ref a; rw [z]⟩
  | _ => exact h.elim
theorem PostP.two {i j : Nat} (p1 : PostP K pa T H0 σ H g v1 H1 s1 g1) (p2 : PostP K pa (fun a => T a ∨ ownQ v1 s1 a) H0 σ H1 g1 v2 H2 s2 g2) (hi : i < g2.env.length) (hj : j < g2.env.length) (hij : i ≠ j) :
    PostSt K pa pa T H0 σ H g ((σ.set i (some v1)).set j (some v2)) H2 { g2 with env := (g2.env.set i (some s1)).set j (some s2) } := by
  obtain ⟨rj, sj⟩ := PdV.store (i := j) p2.vr p2.rel hj
  have e1 : pm pa g1.pen = pm pa g.pen := pm_eq p1.pen
  have sub2 : ∀ a, Nv pa T (σ.set j (some v2)) (setSv g2 j s2) a → (Nv pa T σ g1 a ∨ ownQ v1 s1 a) ∨ ownQ v2 s2 a := fun a z => by
    have z1 : Nv pa (fun a => T a ∨ ownQ v1 s1 a) (σ.set j (some v2)) (setSv g2 j s2) a := z.imp .inl id
    rcases sj a z1 with z2 | z2
    · rcases p2.sub a z2 with (z3 | z3) | z3
      · exact .inl (.inl (.inl z3))
      · exact .inl (.inr z3)
      · exact .inl (.inl (.inr z3))
    · exact .inr z2
  have v1j : PdV K pa T H0 (σ.set j (some v2)) H2 (setSv g2 j s2) v1 s1 := p1.vr.move p1.rel p2.ext p2.fr sub2
  obtain ⟨ri, si⟩ := PdV.store (i := i) v1j rj (by show i < (g2.env.set j (some s2)).length; rw [List.length_set]; exact hi)
  have eσ : (σ.set j (some v2)).set i (some v1) = (σ.set i (some v1)).set j (some v2) := List.set_comm _ _ (Ne.symm hij)
  have eg : setSv (setSv g2 j s2) i s1 = { g2 with env := (g2.env.set i (some s1)).set j (some s2) } := by
    show ({ g2 with env := (g2.env.set j (some s2)).set i (some s1) } : G) = _
    rw [List.set_comm _ _ (Ne.symm hij)]
  rw [eσ, eg] at ri si
  refine ⟨ri, fun h => ⟨rfl, by show g2.pen.isSome = true; rw [p2.pen, p1.pen]; exact h⟩, fun v d z => ?_, by rw [List.length_set, List.length_set]⟩
  have gr : ∀ {N : AS} {H : Hp} {v2 u : V} {s2 : Sv} {d : D}, (∀ a, ownQ v2 s2 a → H a = none) → DR K N H u d → DR K (fun a => N a ∨ ownQ v2 s2 a) H u d := fun {N H v2 u s2 d} hf q => by
    cases s2 with
    | own ys =>
      cases v2 with
      | ref b => exact (q.grow (hf b rfl)).mono fun a z => z.imp id fun z => (V.ref.inj z).symm
      | _ => exact q.mono fun a z => z.elim id fun z => by cases (show _ = V.ref a from z)
    | _ => exact q.mono fun a z => z.elim id fun z => z.elim
  have z2 := gr (v2 := v2) (s2 := s2) (fun a y => p1.ext.d a (p2.fr a y)) (gr p1.fr z)
  have z3 := DR.ext p1.ext (fun a y => .inl (.inl (.inr (.inl y)))) z2
  have z4 := DR.ext p2.ext (fun a y => .inl (.inl (.inr (.inl (by rw [← e1]; exact y))))) z3
  refine z4.mono fun a y => ?_
  rcases si a y with y | y
  · exact (sub2 a y).imp (fun y => y.imp (p1.sub a) id) id
  · exact .inl (.inr y)
end
theorem ok_S_par (O : XO P w K mg base p n X c) (he : ∀ e i, chkE p m c e i = true → OKe X e (E.e i)) {x y : Str} {px py p1 p2 pos : Pos} {k1 k2 : Nat} {a b : Expr} {i j : Nat} {oi oj : Bool} {ia ib : IE}
    (h1 : c.N[i]? = some x) (h2 : c.N[j]? = some y) (h3 : i ≠ j) (h4 : parB c.sc x y px py a b = true) (h5 : chkE p m c a ia = true) (h6 : chkE p m c b ib = true) :
    OKss X (wS X (.Assign [.Tuple [.Name x px, .Name y py] k1 p1] (.Tuple [a, b] k2 p2) pos)) (stS E (.par i j oi oj ia ib)) := by
  intro g fl g' q pa T H0 σ H D hlen rl kn kr
  simp only [stS] at q
  cases e1 : E.e ia g with
  | none => simp only [e1] at q; cases q
  | some rg =>
    obtain ⟨r1, g0⟩ := rg
    simp only [e1] at q
    cases e2 : keepO oi r1 g0 with
    | none => simp only [e2] at q; cases q
    | some sg =>
      obtain ⟨s1, g1⟩ := sg
      simp only [e2] at q
      cases e3 : E.e ib g1 with
      | none => simp only [e3] at q; cases q
      | some rg2 =>
        obtain ⟨r2, g2⟩ := rg2
        simp only [e3] at q
        cases e4 : keepO oj r2 g2 with
        | none => simp only [e4] at q; cases q
        | some sg3 =>
          obtain ⟨s2, g3⟩ := sg3
          simp only [e4, Option.some.injEq, Prod.mk.injEq] at q
          obtain ⟨rfl, rfl⟩ := q
          rw [O.cs] at h4
          have hq := h4
          unfold parB at hq
          simp only [Bool.and_eq_true] at hq
          obtain ⟨⟨⟨⟨⟨⟨⟨l1, l2⟩, _⟩, _⟩, n1⟩, n2⟩, _⟩, _⟩ := hq
          have hN1 : X.N[i]? = some x := by rw [← O.cN]; exact h1
          have hN2 : X.N[j]? = some y := by rw [← O.cN]; exact h2
          refine wS_of (ps_par O.calm O.nd hN1 hN2 h3 (lcl_of l1) (lcl_of l2) (pa_cons pe_w (pa_cons pe_w pa_nil (star_cons n2)) (star_cons n1)) (swapped_par O.kf h4)) ?_
          refine he a ia h5 g r1 g0 e1 pa T H0 σ H _ rl fun v1 H1 q1 => ?_
          have P1 := q1.pd rl e2
          refine he b ib h6 g1 r2 g2 e3 pa _ H0 σ H1 _ P1.rel fun v2 H2 q2 => ?_
          have P2 := q2.pd P1.rel e4
          refine ⟨v1, v2, rfl, kn rfl pa _ _ (P1.two P2 ?_ ?_ h3)⟩
          · rw [← P2.rel.len, hlen]; exact (List.getElem?_eq_some_iff.mp hN1).1
          · rw [← P2.rel.len, hlen]; exact (List.getElem?_eq_some_iff.mp hN2).1
theorem ok_S_exp (he : ∀ e i, chkE p m c e i = true → OKe X e (E.e i)) {v : Expr} {pos : Pos} {e : IE} (h1 : chkE p m c v e = true) (h2 : isComp v = false) : OKss X (wS X (.Expr v pos)) (stS E (.exp e)) := by
  intro g fl g' q pa T H0 σ H D hlen rl kn kr
  simp only [stS] at q
  cases e1 : E.e e g with
  | none => simp only [e1] at q; cases q
  | some rg =>
    obtain ⟨r, g1⟩ := rg
    simp only [e1, Option.map_some, Option.some.injEq, Prod.mk.injEq] at q
    obtain ⟨rfl, rfl⟩ := q
    refine wS_of (ps_expr pe_w (by cases v <;> first | rfl | cases h2)) ?_
    exact he v e h1 g r g1 e1 pa T H0 σ H _ rl fun u H1 p1 => kn rfl pa σ H1 p1.n.st
theorem ok_S_ret (he : ∀ e i, chkE p m c e i = true → OKe X e (E.e i)) {v : Expr} {pos : Pos} {e : IE} (h1 : chkE p m c v e = true) : OKss X (wS X (.Return (some v) pos)) (stS E (.ret e)) := by
  intro g fl g' q pa T H0 σ H D hlen rl kn kr
  simp only [stS] at q
  cases e1 : E.e e g with
  | none => simp only [e1] at q; cases q
  | some rg =>
    obtain ⟨r, g1⟩ := rg
    simp only [e1, Option.map_some, Option.some.injEq, Prod.mk.injEq] at q
    obtain ⟨rfl, rfl⟩ := q
    exact wS_of (ps_ret pe_w) (he v e h1 g r g1 e1 pa T H0 σ H _ rl fun u H1 p1 => kr r rfl pa σ H g u H1 (.refl rl) p1)
theorem ok_S_iff {t : Expr} {as bs : List Stmt} {pos : Pos} {it : IE} {ia ib : List IS} (ht : OKt X t (E.t it)) (ha : OKss X (wSs X as) (E.ss ia)) (hb : OKss X (wSs X bs) (E.ss ib)) : OKss X (wS X (.If t as bs pos)) (stS E (.iff it ia ib)) := by
  intro g fl g' q pa T H0 σ H D hlen rl kn kr
  simp only [stS] at q
  cases e1 : E.t it g with
  | none => simp only [e1] at q; cases q
  | some bg =>
    obtain ⟨b, g1⟩ := bg
    refine wS_of (ps_if pt_w pss_w pss_w) (ht g b g1 e1 pa T H0 σ H _ rl fun H1 pn => ?_)
    simp only [e1] at q
    cases b with
    | true =>
      rw [if_pos rfl]
      exact ha g1 fl g' q pa T H0 σ H1 D hlen pn.rel (fun h pa' σ' H' p' => kn h pa' σ' H' (pn.st.trans p')) fun r h pa' σ' H2 g2 v H' p' pe => kr r h pa' σ' H2 g2 v H' (pn.st.trans p') pe
    | false =>
      rw [if_neg (by decide)]
      exact hb g1 fl g' q pa T H0 σ H1 D hlen pn.rel (fun h pa' σ' H' p' => kn h pa' σ' H' (pn.st.trans p')) fun r h pa' σ' H2 g2 v H' p' pe => kr r h pa' σ' H2 g2 v H' (pn.st.trans p') pe
theorem ok_S_for (O : XO P w K mg base p n X c) (G1 : XG X c) (he : ∀ e i, chkE p m c e i = true → OKe X e (E.e i)) {t it : Expr} {bs : List Stmt} {pos : Pos} {tg : Tg} {ik : Ik} {its : List IE} {body : List IS} (htg : chkTg c t tg = true) (hit : chkIt (chkE p m c) c t ik its it = true)
    (hb : OKss X (wSs X bs) (E.ss body)) : OKss X (wS X (.For t it bs [] pos)) (stS E (.for_ tg ik its body)) := by
  intro g fl g' q pa T H0 σ H D hlen rl kn kr
  simp only [stS] at q
  cases e1 : itsD E ik its g with
  | none => simp only [e1] at q; cases q
  | some dg =>
    obtain ⟨ds, g1⟩ := dg
    simp only [e1] at q
    have hset : notSet it = true := by
      unfold chkIt at hit
      rw [Bool.and_eq_true] at hit
      exact hit.1
    refine wS_of (ps_for (by rw [O.xe]; exact PassesOwn.never) O.calm pi_w (pg_tg G1 htg) pss_w (folded hset)) ?_
    refine walk_ok O he hit e1 pa T H0 σ H _ rl fun J H1 L pn S hL => ?_
    let W : Nat → Nat → L2.St → Hp → Prop := fun i m σi Hi => m = ds.length - i ∧ i ≤ ds.length ∧ ∃ pai gi, evFor E tg body (ds.drop i) gi = some (fl, g') ∧ PostSt X.K pa pai T H0 σ H g σi Hi gi ∧ ∀ q ∈ L, DR X.K (Nv pai T σi gi) Hi q.1 q.2
    refine ⟨W, ⟨_, rfl, Nat.zero_le _, pa, g1, by rw [List.drop_zero]; exact q, pn.st, hL⟩, ?_⟩
    rintro i m σi Hi ⟨rfl, hi, pai, gi, ev1, ps, hLi⟩
    by_cases hlt : i < ds.length
    · refine .inr ⟨S.go _ Hi i hlt hLi, W (i + 1) (ds.length - (i + 1)), fun σ' H' z => ⟨_, by omega, z⟩, fun x H' y => ?_⟩
      have hd : ds[i]? = some ds[i] := List.getElem?_eq_getElem hlt
      obtain ⟨hH', hxd⟩ := S.yld _ Hi i ds[i] x H' hd hLi y
      have rli := ps.rel
      have hx := hxd fun a z => let ⟨o, h1, _⟩ := rli.nv a z; ⟨o, h1⟩
      have rl' : Rel X.K pai T H0 σi H' gi := by
        rcases hH' with rfl | ⟨q, ws, hq, rfl⟩
        · exact rli
        · exact rli.lay hq
      have x' : Ext (pm pai gi.pen) Hi H' := by
        rcases hH' with rfl | ⟨q, ws, hq, rfl⟩
        · exact .refl _ _
        · exact .new hq
      rw [List.drop_eq_getElem_cons hlt] at ev1
      unfold evFor at ev1
      cases f1 : asgT tg ds[i] gi with
      | none => rw [f1] at ev1; cases ev1
      | some ga =>
        simp only [f1] at ev1
        have lenN : ∀ j ∈ tgIs tg, j < gi.env.length := fun j hj => by
          have h1 := chkTg_lt htg j hj
          rw [← rl'.len, ps.len, hlen, ← O.cN]
          exact h1
        refine asg_ok f1 lenN rl' hx fun σ2 ra suba wpa pena => ?_
        have psa : PostSt X.K pai pai T H0 σi Hi gi σ2 H' ga := by
          refine ⟨ra, fun h => ⟨rfl, by rw [pena]; exact h⟩, fun v d z => (DR.ext x' (fun a z => .inr (.inl z)) z).mono suba, ?_⟩
          have h6 := congrArg List.length wpa
          rw [L2.wipe_length, L2.wipe_length] at h6
          exact h6
        have psb := ps.trans psa
        cases f2 : E.ss body ga with
        | none => simp only [f2] at ev1; cases ev1
        | some fg =>
          obtain ⟨fl2, gb⟩ := fg
          simp only [f2] at ev1
          refine hb ga fl2 gb f2 pai T H0 σ2 H' _ (by rw [psb.len]; exact hlen) ra (fun hfl pa' σ' H'' p' => ?_) (fun r hfl pa' σ' H1' g1' v H'' p' pe => ?_)
          · subst hfl
            exact ⟨rfl, hlt, pa', gb, ev1, psb.trans p', fun q hq => p'.pres _ _ (psa.pres _ _ (hLi q hq))⟩
          · subst hfl
            simp only [Option.some.injEq, Prod.mk.injEq] at ev1
            obtain ⟨rfl, rfl⟩ := ev1
            exact kr r rfl pa' σ' H1' g1' v H'' (psb.trans p') pe
    · have ei : i = ds.length := by omega
      subst ei
      rw [List.drop_length] at ev1
      simp only [evFor, Option.some.injEq, Prod.mk.injEq] at ev1
      obtain ⟨rfl, rfl⟩ := ev1
      exact .inl ⟨S.stop _ Hi hLi, kn rfl pai σi Hi ps⟩
theorem OKss.none {t : Ends → L2.St → Hp → Prop} {f : G → Option (Fl × G)} (h : ∀ g, f g = none) : OKss X t f := by
  intro g fl g' q
  rw [h] at q
  cases q
theorem ok_stmt (S : Snd P w K mg base p n) (SS : SndS P w K mg base p n) (O : XO P w K mg base p (n + 1) X c) (G1 : XG X c) {s : Stmt} {ir : IS} (hc : chkS p (chkSs p m) m c s ir = true) : OKss X (wS X s) (stS (ev p.fns n) ir) := by
  have O' : XO P w K mg base p n X c := O.le (Nat.le_succ n)
  have he : ∀ e i, chkE p m c e i = true → OKe X e ((ev p.fns n).e i) := fun e i h => S.e X c e i m O' h
  have hs : ∀ sts irs, chkSs p m c sts irs = true → OKss X (wSs X sts) ((ev p.fns n).ss irs) := fun sts irs h => SS X c sts irs m O' G1 h
  unfold chkS at hc
  cases ir with
  | nev => exact .none fun _ => rfl
  | set i e => exact ok_S_set S O G1 hc
  | own i e => exact ok_S_own S O G1 hc
  | pen i e => exact ok_S_pen S O G1 hc
  | unp is e =>
    simp only at hc
    split at hc
    · simp only [Bool.and_eq_true, Bool.not_eq_true'] at hc
      exact ok_S_unp O' G1 he hc.1.1 hc.1.2 hc.2
    · cases hc
  | par i j oi oj a b =>
    simp only at hc
    split at hc
    · simp only [Bool.and_eq_true, decide_eq_true_eq] at hc
      obtain ⟨⟨⟨⟨⟨h1, h2⟩, h3⟩, h4⟩, h5⟩, h6⟩ := hc
      exact ok_S_par O' he h1 h2 h3 h4 h5 h6
    · cases hc
  | app i e =>
    simp only at hc
    split at hc
    · simp only [Bool.and_eq_true, decide_eq_true_eq] at hc
      obtain ⟨⟨⟨⟨⟨⟨h0, h1⟩, h2⟩, h3⟩, h4⟩, h5⟩, h6⟩ := hc
      have hm := eq_of_beq h0
      subst hm
      exact ok_S_app O' he h1 h2 h3 h4 h5 h6
    · cases hc
  | sto i k e =>
    simp only at hc
    split at hc
    · simp only [Bool.and_eq_true, decide_eq_true_eq] at hc
      obtain ⟨⟨⟨⟨⟨h1, h2⟩, h3⟩, h4⟩, h5⟩, h6⟩ := hc
      exact ok_S_sto O' he h1 h2 h3 h4 h5 h6
    · cases hc
  | exp e =>
    simp only at hc
    split at hc
    · simp only [Bool.and_eq_true, Bool.not_eq_true'] at hc
      exact ok_S_exp he hc.1 hc.2
    · cases hc
  | iff t a b =>
    simp only at hc
    split at hc
    · simp only [Bool.and_eq_true] at hc
      exact ok_S_iff (S.t X c _ _ m O' hc.1.1) (hs _ _ hc.1.2) (hs _ _ hc.2)
    · cases hc
  | for_ tg ik its body =>
    simp only at hc
    split at hc
    · rename_i t it bs els pos
      simp only [Bool.and_eq_true] at hc
      obtain ⟨⟨⟨h1, h2⟩, h3⟩, h4⟩ := hc
      cases els with
      | nil => exact ok_S_for O' G1 he h2 h3 (hs _ _ h4)
      | cons _ _ => cases h1
    · cases hc
  | ret e =>
    simp only at hc
    split at hc
    · split at hc
      · exact ok_S_ret he hc
      · cases hc
    · cases hc
theorem snd_ss (S : Snd P w K mg base p n) (SS : SndS P w K mg base p n) : SndS P w K mg base p (n + 1) := by
  intro X c sts irs m O G1 hc
  cases m with
  | zero => cases hc
  | succ m =>
    unfold chkSs at hc
    split at hc
    · intro g fl g' q pa T H0 σ H D hlen rl kn kr
      have q' : some (Fl.nx, g) = some (fl, g') := q
      cases q'
      exact wSs_of pss_nil (kn rfl pa σ H (.refl rl))
    · rename_i s ss i is
      rw [Bool.and_eq_true] at hc
      obtain ⟨h1, h2⟩ := hc
      have a := ok_stmt S SS O G1 h1
      have b : OKss X (wSs X ss) ((ev p.fns n).ss is) := SS X c ss is m (O.le (Nat.le_succ n)) G1 h2
      intro g fl g' q pa T H0 σ H D hlen rl kn kr
      have q' : (match stS (ev p.fns n) i g with
        | none => none
        | some (.nx, g1) => (ev p.fns n).ss is g1
        | some (.ret r, g1) => some (.ret r, g1)) = some (fl, g') := q
      cases e1 : stS (ev p.fns n) i g with
      | none => rw [e1] at q'; cases q'
      | some fg =>
        obtain ⟨f1, g1⟩ := fg
        rw [e1] at q'
        refine wSs_of (pss_cons ps_w pss_w) ?_
        refine a g f1 g1 e1 pa T H0 σ H _ hlen rl (fun hf pa' σ' H' p' => ?_) (fun r hf pa' σ' H2 g2 v H' p' pe => ?_)
        · subst hf
          exact b g1 fl g' q' pa' T H0 σ' H' D (by rw [p'.len]; exact hlen) p'.rel (fun h pa2 σ2 H2 p2 => kn h pa2 σ2 H2 (p'.trans p2)) fun r h pa2 σ2 H2 g2 v H3 p2 pe => kr r h pa2 σ2 H2 g2 v H3 (p'.trans p2) pe
        · subst hf
          cases q'
          exact kr r rfl pa' σ' H2 g2 v H' p' pe
    · cases hc
end
end DL
end
section
set_option Elab.async false
set_option linter.all false
set_option maxRecDepth 100000
set_option autoImplicit false
set_option maxHeartbeats 4000000
/-! DL, part t: defs. -/
namespace DL
open PySem PySem.Spec PyProof.Rows L2
variable [Tabs]

/-- a def of the text, as it stands behind the top -/
structure DefOk (K : Fg) (mg : Str → Option Value) (p : Pgm) (fd : FnD) : Prop where
  ex : ∃ (f : Addr) (qual : Str) (params : Arguments) (body : List Stmt) (scope : Scope) (dV kV doc pm cdv ct oc : Value) (an od : Option Addr) (osl : Array (Option Value)) (N ps : List Str) (m : Nat),
    K.lookup f = some ⟨oc, od, .func (PySem.W.fnOf fd.name qual params body scope dV kV doc pm an cdv ct), osl⟩ ∧ PySem.W.codeIn K cdv qual = true ∧ C8.scC N ps scope = true ∧ ps.length = fd.ps ∧ N.length = fd.n ∧
    mg fd.name = some (.ref f) ∧ PySem.W.keepIn K (.ref f) = true ∧ (∀ us : List Value, us.length = ps.length → bindArgs (PySem.W.fnOf fd.name qual params body scope dV kV doc pm an cdv ct) ⟨us, []⟩ = pure (ps.zip us)) ∧
    chkSs p m ⟨N, scope⟩ body fd.body = true ∧ (N ∈ p.tabs → ∃ c P, cdv = .ref c ∧ (c, P) ∈ Tabs.l)
structure Glob (mg : Str → Option Value) (p : Pgm) : Prop where
  bl : ∀ x, x ∈ bnames → mg x = none
  cst : ∀ x d, p.cs.lookup x = some d → scalD d = true → ∃ u, mg x = some u ∧ RelV (dV d) u
section
variable {P : Program} {w : World} {K : Fg} {mg : Str → Option Value} {base : Heap} {p : Pgm} {n m : Nat} {c : Ct} {E : Ev}
def frR : R → R
  | .bo _ xs => .fr xs
  | r => r
theorem retC_inv {p : Option (List D)} {r r' : R} {g : G} {q : Option (List D)} (h : retC p r g = some (r', q)) : q = g.pen ∧ g.pen.isSome = p.isSome ∧ r' = frR r := by
  unfold retC at h
  by_cases e : g.pen.isSome = p.isSome
  · rw [if_pos e] at h
    simp only [Option.some.injEq, Prod.mk.injEq] at h
    obtain ⟨h1, h2⟩ := h
    refine ⟨h2.symm, e, h1.symm.trans ?_⟩
    cases r <;> rfl
  · rw [if_neg e] at h
    cases h
theorem pairs_len {α β : Type} {R : α → β → Prop} : ∀ {xs : List α} {ys : List β}, Paired R xs ys → xs.length = ys.length
  | [], [], _ => rfl
  | _ :: _, _ :: _, .cons _ q => by rw [List.length_cons, List.length_cons, pairs_len q]
theorem pairs_get {α β : Type} {R : α → β → Prop} : ∀ {xs : List α} {ys : List β} {i : Nat} {y : β}, Paired R xs ys → ys[i]? = some y → ∃ x, xs[i]? = some x ∧ R x y
  | _ :: _, _ :: _, 0, _, .cons h _, e => by cases e; exact ⟨_, rfl, h⟩
  | _ :: _, _ :: _, i + 1, _, .cons _ q, e => pairs_get (i := i) q (by simpa using e)
  | [], [], _, _, _, e => by simp at e
/-- the state at the entry -/
theorem ArgR.start {pa : Addr} {T : AS} {H : Hp} {pen : Option (List D)} {vs : List V} {as : List Sv} {N : List Str} {k : Nat} (a : ArgR K pa T H pen vs as) (hk : N.length - vs.length = k) :
    Rel K pa T H (L2.start N vs) H { env := as.map some ++ List.replicate k none, pen := pen } := by
  have hl := pairs_len a.a
  have at_ : ∀ (i : Nat) (sv : Sv), (as.map some ++ List.replicate k none)[i]? = some (some sv) → as[i]? = some sv := fun i sv h => by
    by_cases hi : i < as.length
    · rw [List.getElem?_append_left (by simpa using hi), List.getElem?_map] at h
      cases e : as[i]? with
      | none => rw [e] at h; cases h
      | some x => rw [e] at h; cases h; rfl
    · rw [List.getElem?_append_right (by simpa using hi), List.getElem?_replicate] at h
      split at h <;> cases h
  have got : ∀ (i : Nat) (sv : Sv), as[i]? = some sv → ∃ v, (L2.start N vs)[i]? = some (some v) ∧ (match sv with
    | .d x => DR K (fun a => T a ∨ pm pa pen a) H v x
    | .own _ => False
    | .scr ns => ∃ a, v = V.ref a ∧ ScR K (pm pa pen) H a ns
    | .pen => v = .ref pa ∧ pen.isSome = true) := fun i sv h => by
    obtain ⟨v, h1, h2⟩ := pairs_get a.a h
    refine ⟨v, ?_, h2⟩
    unfold L2.start
    rw [List.getElem?_append_left (by rw [List.length_map]; exact (List.getElem?_eq_some_iff.mp h1).1), List.getElem?_map, h1]
    rfl
  have noOwn : ∀ i b, ¬ Own (L2.start N vs) { env := as.map some ++ List.replicate k none, pen := pen } i b := fun i b ⟨xs, h1, h2⟩ => by
    obtain ⟨v, _, h3⟩ := got i _ (at_ i _ h1)
    exact h3
  have hN : ∀ b, Nv pa T (L2.start N vs) { env := as.map some ++ List.replicate k none, pen := pen } b → T b ∨ pm pa pen b := by
    rintro b (z | z | ⟨i, z⟩)
    · exact .inl z
    · exact .inr z
    · exact absurd z (noOwn i b)
  refine ⟨?_, fun i sv h => ?_, fun i j b h1 _ => absurd h1 (noOwn i b), fun xs h => ?_, a.td, .refl _ _, a.tb⟩
  · unfold L2.start
    show _ = (as.map some ++ List.replicate k none).length
    rw [List.length_append, List.length_append, List.length_map, List.length_map, List.length_replicate, List.length_replicate, hl, ← hk, hl]
  · obtain ⟨v, h1, h2⟩ := got i sv (at_ i sv h)
    refine ⟨v, h1, ?_⟩
    cases sv with
    | d x => exact DR.mono hN h2
    | own xs => exact h2.elim
    | scr ns => exact h2
    | pen => exact h2
  · obtain ⟨h1, ws, h2, h3⟩ := a.pn xs h
    exact ⟨h1, ws, h2, h3.mono hN⟩
/-- the state behind a call -/
theorem PostE.ret {pa pa' : Addr} {T : AS} {H H1 H' : Hp} {σ σ' : L2.St} {g0 g1 g' : G} {v : V} {r r' : R} {pen q : Option (List D)} (hp : g0.pen = pen) (st : PostSt K pa pa' T H σ H g0 σ' H1 g1) (pe : PostE K pa' T H σ' H1 g1 v H' r g')
    (h : retC pen r g' = some (r', q)) : PostC K pa T H pen v H' r' q := by
  obtain ⟨rfl, hs, rfl⟩ := retC_inv h
  subst hp
  have hpa : g'.pen.isSome = true → pa' = pa := fun z => (st.pas (by rw [← hs]; exact z)).1
  have epm : ∀ a, pm pa g'.pen a → pm pa' g'.pen a := fun a z => ⟨z.1, by rw [hpa z.1]; exact z.2⟩
  have epm2 : ∀ a, pm pa' g'.pen a → pm pa g'.pen a := fun a z => ⟨z.1, by rw [← hpa z.1]; exact z.2⟩
  have rel0 : Rel K pa' T H σ' H' g' := pe.rel.mono (ownT_of T v r)
  have hN : ∀ a, (T a ∨ pm pa g'.pen a) → Nv pa' T σ' g' a := fun a z => z.elim .inl fun z => .inr (.inl (epm a z))
  refine ⟨rel0.x0.mono fun a z => ⟨by rw [← hs]; exact z.1, (epm2 a z).2⟩, hs, fun xs e => ?_, ?_⟩
  · obtain ⟨_, ws, h2, h3⟩ := rel0.pn xs e
    rw [hpa (by rw [e]; rfl)] at h2
    exact ⟨ws, h2, h3.mono hN⟩
  · have vr := pe.vr
    cases r with
    | d x => exact DR.mono hN vr
    | fr xs =>
      obtain ⟨a, vs, rfl, e1, e2, e3, e4⟩ := vr
      have hH1 : H a = none := st.rel.x0.d a e1
      refine ⟨a, vs, rfl, hH1, e2, e3.mono fun b z => z.imp (hN b) id, fun ys e => ?_⟩
      have rl := pe.rel
      obtain ⟨h1, ws, h2, h3⟩ := rl.pn ys e
      have ep := hpa (by rw [e]; rfl)
      refine ⟨fun z => h1 (.inr (by rw [ep, z])), ws, by rw [← ep]; exact h2, h3.mono fun b z => ?_⟩
      rcases z with z | z
      · rcases hN b z with z | z
        · exact .inl (.inl z)
        · exact .inr z
      · exact .inl (.inr (by rw [z]))
    | bo i xs =>
      obtain ⟨a, rfl, e1, e2⟩ := vr
      obtain ⟨b, vs, f1, f2, f3, f4, f5, f6⟩ := rel0.own e2
      rw [e1] at f1
      cases f1
      have own : Own σ' g' i a := ⟨xs, e2, e1⟩
      have hN2 : ∀ b, ((T b ∨ pm pa g'.pen b) ∨ b = a) → Nv pa' T σ' g' b := fun b z => z.elim (hN b) fun z => by rw [z]; exact .inr (.inr ⟨i, own⟩)
      refine ⟨a, vs, rfl, f4, f2, f3.mono hN2, fun ys e => ?_⟩
      obtain ⟨_, ws, h2, h3⟩ := rel0.pn ys e
      have ep := hpa (by rw [e]; rfl)
      refine ⟨fun z => f6 ⟨by rw [e]; rfl, by rw [ep, z]⟩, ws, by rw [← ep]; exact h2, h3.mono hN2⟩
    | scr ns =>
      obtain ⟨a, rfl, h2⟩ := vr
      refine ⟨a, rfl, ?_⟩
      exact h2.imp (fun ⟨h3, ob, h4⟩ => ⟨fun z => h3 (epm a z), ob, h4⟩) id
    | pen => exact ⟨by rw [← hpa vr.2]; exact vr.1, vr.2⟩
/-- falling off the end gives None -/
theorem PostSt.ret {pa pa' : Addr} {T : AS} {H H1 : Hp} {σ σ' : L2.St} {g0 g1 : G} {r' : R} {pen q : Option (List D)} (hp : g0.pen = pen) (st : PostSt K pa pa' T H σ H g0 σ' H1 g1)
    (h : retC pen (.d .none) g1 = some (r', q)) : PostC K pa T H pen .non H1 r' q :=
  PostE.ret hp st (v := .non) (r := .d .none) ⟨.refl _ _, st.rel, .non, rfl, fun _ z => z⟩ h
/-- a def's body run by the small language -/
theorem def_run (G0 : Glob mg p) (hT : ∀ q, q ∈ Tabs.l → GxR.TabB base mg q.1 q.2) (SS : SndS P w K mg base p n) {fd : FnD} (D0 : DefOk K mg p fd) : ∃ a, mg fd.name = some (.ref a) ∧ PySem.W.keepIn K (.ref a) = true ∧
    ∀ (A : Around) (outer : List Env) (s : Shared) (H : Hp) (us : List Value) (vs : List V) (Q : VK) (pa : Addr) (T : AS) (as : List Sv) (pen : Option (List D)) (fl : Fl) (g' : G),
      Room (n + 1) A → A.guards = some [] → Env0 P w K mg base A outer s H → Vals vs us → ArgR K pa T H pen vs as → as.length = fd.ps →
      (ev p.fns n).ss fd.body { env := as.map some ++ List.replicate (fd.n - fd.ps) none, pen := pen } = some (fl, g') →
      (fl = .nx → ∀ pa' σ σ' H', PostSt K pa pa' T H σ H { env := as.map some ++ List.replicate (fd.n - fd.ps) none, pen := pen } σ' H' g' → Q .non H') →
      (∀ r, fl = .ret r → ∀ pa' σ σ' H1 g1 v H', PostSt K pa pa' T H σ H { env := as.map some ++ List.replicate (fd.n - fd.ps) none, pen := pen } σ' H1 g1 → PostE K pa' T H σ' H1 g1 v H' r g' → Q v H') →
      codeAny (model P w) A (.call (.ref a) ⟨us, []⟩) (CR CX0 outer P w H s Q E0) s := by
  obtain ⟨a, qual, params, body, scope, dV, kV, doc, pm', cdv, ct, oc, an, od, osl, N, ps, m, lk, hcd, hsc, hps, hN, hmg, hkp, hbind, hchk, hcT⟩ := D0.ex
  refine ⟨a, hmg, hkp, fun A outer s H us vs Q pa T as pen fl g' hr hg e0 rv ar hlen eb kn kr => ?_⟩
  have S : FnScope N ps scope := C8.fnScope_by hsc
  have hvl : vs.length = ps.length := by rw [pairs_len ar.a, hlen, hps]
  have KX : K.In s.heap := e0.mod.kin.keeps fun b o e => (e0.bs b o e).1
  have lim : s.heap.NoLimit := e0.mod.nolimit.keeps fun b o e => (e0.bs b o e).1
  have hkind : ∀ y ∈ ps.zip us, scope.names.lookup y.1 = some .local ∨ (scope.names.lookup y.1 = some .cell ∧ ((cellsFrom (s.heap.objs.size + 1) scope.names []).lookup y.1).isSome = true) := fun ⟨n, v⟩ hy => by
    rcases S.par n (List.of_mem_zip hy).1 with q | q
    · exact .inl q
    · exact .inr ⟨q, PySem.W.cellsFrom_some _ _ _ (.inl q)⟩
  refine codeAny_call_function hr.depth (KX _ _ lk) rfl S.co S.gen rfl (PySem.W.codeRec_of KX hcd) (BindsTo.of_eq (hbind us (by rw [← rv.length]; exact hvl)) _ _ _ _ ?_)
  refine wpAny_newFunctionEnv_cells S.kind hkind fun env he s1 x => ?_
  subst he
  refine ⟨lim.keeps x.toInCall.keep, codeAny_func ?_⟩
  let X0 : Cx := cxOf CX0 P w K mg base N qual scope a cdv A outer s H E0
  have I0 : Inv X0 [] (start N vs) H s1 := inv_start S hr.hd e0 hvl rv x
  have I : Inv X0.nox [] (start N vs) H s1 := I0.wish _
  have O : XO P w K mg base p n X0.nox ⟨N, scope⟩ := {
    eP := rfl, ew := rfl, eK := rfl, em := rfl, eb := rfl, room := hr.deeper _, gd := hg, calm := rfl, nd := S.nd, cN := rfl, cs := rfl, kf := S.kind, xe := rfl, cd := hcT, tbs := hT, bl := G0.bl, cst := G0.cst }
  have G1 : XG X0.nox ⟨N, scope⟩ := ⟨rfl, S.nd, rfl, fun x hx => ⟨loc_of hx, .inl rfl⟩⟩
  have rl : Rel K pa T H (start N vs) H { env := as.map some ++ List.replicate (fd.n - fd.ps) none, pen := pen } := ar.start (by rw [hN, hvl, hps])
  have hl0 : (start N vs).length = N.length := by
    rw [rl.len]
    show (as.map some ++ List.replicate (fd.n - fd.ps) none).length = _
    rw [List.length_append, List.length_map, List.length_replicate, hlen, hN]
    have : ps.length ≤ N.length := by have := congrArg List.length S.pre; rw [List.length_take] at this; omega
    omega
  have hw := SS X0.nox ⟨N, scope⟩ body fd.body m O G1 hchk
  have fin : ∀ {σ' : L2.St} {H' : Hp} {v : V} {u : Value} {s' : Shared}, Inv X0.nox [] σ' H' s' → RelV v u → Q v H' → CE outer P w H s Q u s' :=
    fun {σ' H' v u s'} J rv q => ⟨v, H', J.os, J.bare, J.base, J.hok, rv, q⟩
  have run : wpAny (model P w) X0.A (execs body X0.env) (SP X0.nox [] { nx := fun _ H' => Q .non H', rt := Q }) (fun _ _ => False) s1 :=
    hw _ fl g' eb pa T H (start N vs) H _ hl0 rl (fun hfl pa' σ' H' st => kn hfl pa' _ σ' H' st) (fun rr hfl pa' σ' H1 g1 v H' st pe => kr rr hfl pa' _ σ' H1 g1 v H' st pe) [] s1 I
  refine wpAny_mono run (fun fl s' hs => ?_) fun e s' hs => hs.elim
  cases fl with
  | ret u =>
    obtain ⟨v, σ', H', J, rv, q⟩ := hs
    exact fin J rv q
  | next =>
    obtain ⟨σ', H', J, q⟩ := hs
    exact fin (v := V.non) (u := Value.none) J rfl q
  | brk =>
    obtain ⟨_, _, _, q⟩ := hs
    exact False.elim q
  | cont =>
    obtain ⟨_, _, _, q⟩ := hs
    exact False.elim q
theorem call_ok (G0 : Glob mg p) (hT : ∀ q, q ∈ Tabs.l → GxR.TabB base mg q.1 q.2) (hd : ∀ fd, fd ∈ p.fns → DefOk K mg p fd) (SS : SndS P w K mg base p n) : CallOk P w K mg base p (n + 1) := by
  intro f as pen r pen' q fd hf
  obtain ⟨a, hmg, hkp, run⟩ := def_run (P := P) (w := w) (base := base) G0 hT SS (hd fd (List.mem_of_getElem? hf))
  refine ⟨a, hmg, hkp, fun A outer s H us vs Q pa T hr hg e0 rv ar kk => ?_⟩
  have q' : stC p.fns (ev p.fns n) f as pen = some (r, pen') := q
  unfold stC at q'
  rw [hf] at q'
  simp only at q'
  by_cases hlen : as.length = fd.ps
  case neg => rw [if_neg hlen] at q'; cases q'
  rw [if_pos hlen] at q'
  cases eb : (ev p.fns n).ss fd.body { env := as.map some ++ List.replicate (fd.n - fd.ps) none, pen := pen } with
  | none => rw [eb] at q'; cases q'
  | some fg =>
    obtain ⟨fl, g'⟩ := fg
    rw [eb] at q'
    refine run A outer s H us vs Q pa T as pen fl g' hr hg e0 rv ar hlen eb (fun hfl pa' σ σ' H' st => ?_) (fun rr hfl pa' σ σ' H1 g1 v H' st pe => ?_)
    · subst hfl
      exact kk _ _ (st.ret rfl q')
    · subst hfl
      exact kk _ _ (pe.ret rfl st q')
/-- every depth -/
theorem snd_all (G0 : Glob mg p) (hT : ∀ q, q ∈ Tabs.l → GxR.TabB base mg q.1 q.2) (hd : ∀ fd, fd ∈ p.fns → DefOk K mg p fd) : ∀ n, Snd P w K mg base p n ∧ SndS P w K mg base p n
  | 0 => by
    refine ⟨⟨?_, ?_, ?_⟩, ?_⟩
    · intro X c e ir m O h g r g' q
      cases q
    · intro X c e ir m O h g r g' q
      cases q
    · intro f as pen r pen' q
      cases q
    · intro X c sts irs m O G1 h g fl g' q
      cases q
  | n + 1 => by
    obtain ⟨S, SS⟩ := snd_all G0 hT hd n
    exact ⟨⟨fun X c e ir m O h => snd_e S m X c e ir O h, fun X c e ir m O h => snd_t S m X c e ir O h, call_ok G0 hT hd SS⟩, snd_ss S SS⟩
end
end DL
end
section
set_option Elab.async false
set_option linter.all false
set_option maxRecDepth 100000
set_option autoImplicit false
set_option maxHeartbeats 4000000
/-! DL, part u: from the small language to the law's own claim. -/
namespace DL
open PySem PySem.Spec PyProof.Rows L2
variable [Tabs]
/-- the heap that knows nothing but the script -/
def scrHp (a : Addr) (ob : Obj) (ns : List Int) : Hp := fun b => if b = a then some (.frz ob (.lst (ns.map V.int))) else none
/-- what is known of the tables at the law's call -/
structure TabsAtK (K : Fg) (h : Heap) : Prop where
  hd : ∀ q, q ∈ Tabs.l → PySem.W.CodeHd h q.1 q.2
  at_ : ∀ q, q ∈ Tabs.l → h.get? q.2 = some { cls := .none, data := .fields #[] }
  no : ∀ q, q ∈ Tabs.l → K.lookup q.2 = none
def MainB (mg : Str → Option Value) (h : Heap) : Prop := ∃ (bm : Addr) (ob : Obj), mg "__builtins__" = some (.ref bm) ∧ bm ≠ builtinsNs ∧ h.get? bm = some ob ∧ ob.cls = .type "module" ∧ ob.dict = some builtinsNs ∧ ob.data = .plain
section
variable {P : Program} {w : World} {K : Fg} {mg mb : Str → Option Value} {p : Pgm} {n : Nat}
/-- what the small language says of the law's body is what the call gives -/
theorem law_core {fd : FnD} {s : Shared} {a fa : Addr} {ns : List Int} {H : Hp} {g' : G} (G0 : Glob mg p) (hd : ∀ fd, fd ∈ p.fns → DefOk K mg p fd) (hfd : fd ∈ p.fns) (hfa : mg fd.name = some (.ref fa)) (hps : fd.ps = 1)
    (hr : Room (n + 1) callerA) (hev : (ev p.fns n).ss fd.body { env := some (.scr ns) :: List.replicate (fd.n - 1) none, pen := none } = some (.ret (.d (.bool true)), g'))
    (KX : K.In s.heap) (hns : s.heap.Ns mainGlobals mg) (hb : s.heap.Ns builtinsNs mb) (hbb : ∀ x : Str, x ≠ "__name__" → mb x = bootBuiltins x) (hlim : s.heap.NoLimit) (hg : s.gens = #[])
    (hok : HOk P w H s.heap) (hS : ScR K (fun _ => False) H a ns) (T : TabsAtK K s.heap) (hbm : MainB mg s.heap) (hHt : ∀ q, q ∈ Tabs.l → H q.2 = some (.tbl #[]))
    (only : ∀ b u, H b = some u → K.lookup b = none ∧ ((∃ ob its k, u = .frz ob (.lst (ns.map V.int)) ∧ s.heap.get? b = some ob ∧ ob.data = .seq its k) ∨ ∃ q, q ∈ Tabs.l ∧ q.2 = b ∧ u = .tbl #[])) :
    codeAny (model P w) callerA (.call (.ref fa) ⟨[.ref a], []⟩) (fun r s' => r = .ok (.ret (.bool true)) ∧ OldK s.heap s'.heap ∧ s'.os = s.os ∧ AllBare s'.gens) s := by
  -- what is tracked is a list or an empty table
  have noH : ∀ {b : Addr} {o : Obj}, s.heap.get? b = some o → (∀ vs n, o.data ≠ .seq vs n) → o.data ≠ .fields #[] → H b = none := by
    intro b o e e1 e2
    cases hH : H b with
    | none => rfl
    | some u =>
      rcases (only b u hH).2 with ⟨ob, its, k, _, e4, e5⟩ | ⟨q, hq, rfl, _⟩
      · rw [e] at e4
        cases e4
        exact absurd e5 (e1 _ _)
      · rw [T.at_ q hq] at e
        cases e
        exact absurd rfl e2
  have keepNs : ∀ {b : Addr} {m : Str → Option Value}, s.heap.Ns b m → (hidT s.heap H).Ns b m := by
    rintro b m ⟨o, es, ep, e1, e2, e3⟩
    exact ⟨o, es, ep, hidT_get e1 (noH e1 (by intro vs n z; rw [e2] at z; cases z) (by intro z; rw [e2] at z; cases z)), e2, e3⟩
  have inB : K.In (hidT s.heap H) := by
    intro b o e
    refine hidT_get (KX b o e) ?_
    cases hH : H b with
    | none => rfl
    | some u => rw [(only b u hH).1] at e; cases e
  obtain ⟨mc, l1, l2⟩ := hlim
  have e0 : Env0 P w K mg (hidT s.heap H) callerA [] s H := {
    frames := rfl
    mod := ⟨inB, keepNs hns, ⟨mb, keepNs hb, hbb⟩, ⟨mc, keepNs l1, l2⟩⟩
    bs := fun b o e => of_hidT e
    bsz := by rw [hidT_size]; exact Nat.le_refl _
    funs := trivial
    frf := fun b hb => by cases (show b ∈ ([] : List Addr) from hb)
    hok := hok
    bare := .of_eq hg }
  have TB : ∀ q, q ∈ Tabs.l → GxR.TabB (hidT s.heap H) mg q.1 q.2 := by
    intro q hq
    refine ⟨?_, ?_, ?_⟩
    · obtain ⟨o, vs, file, tf, flags, tg, inF, text, tt, h1, h2, h3, h4, r⟩ := T.hd q hq
      refine ⟨o, vs, file, tf, flags, tg, inF, text, tt, hidT_get h1 (noH h1 (by intro vs n z; rw [h3] at z; cases z) ?_), h2, h3, h4, r⟩
      intro z
      rw [h3] at z
      cases z
      cases h4
    · obtain ⟨bm, ob, b1, b2, b3, b4, b5, b6⟩ := hbm
      refine ⟨bm, ob, b1, b2, ?_, ?_, hidT_get b3 (noH b3 (by intro vs n z; rw [b6] at z; cases z) (by intro z; rw [b6] at z; cases z)), b4, b5, b6⟩
      · rintro rfl
        obtain ⟨o, es, ep, e, ed, _⟩ := hns
        rw [e] at b3
        cases b3
        rw [ed] at b6
        cases b6
      · rintro rfl
        rw [T.at_ q hq] at b3
        cases b3
        cases b6
    · intro z
      obtain ⟨o, es, ep, e, ed, _⟩ := hns
      rw [z, T.at_ q hq] at e
      cases e
      cases ed
  obtain ⟨a', e1, _, run⟩ := def_run (P := P) (w := w) (base := hidT s.heap H) G0 TB ((snd_all G0 TB hd n).2) (hd fd hfd)
  rw [hfa] at e1
  cases e1
  have ar : ArgR K 0 (fun _ => False) H none [V.ref a] [Sv.scr ns] := {
    a := .cons ⟨a, rfl, hS.imp (fun ⟨_, h⟩ => ⟨fun z => absurd z.1 (by decide), h⟩) id⟩ .nil
    pn := fun xs e => by cases e
    td := fun b z => z.elim
    tb := fun q hq => ⟨#[], hHt q hq, trivial⟩ }
  have hev' : (ev p.fns n).ss fd.body { env := [Sv.scr ns].map some ++ List.replicate (fd.n - fd.ps) none, pen := none } = some (.ret (.d (.bool true)), g') := by rw [hps]; exact hev
  refine codeAny_mono (run callerA [] s H [.ref a] [.ref a] (fun v _ => v = .bl true) 0 _ _ none _ g' hr rfl e0 (.cons rfl .nil) ar (by rw [hps]; rfl) hev' (fun h => by cases h) fun r hfl pa' σ σ' H1 g1 v H' st pe => ?_) fun r s' hq => ?_
  · cases hfl
    have vr : DR K (Nv pa' (fun _ => False) σ' g') H' v (.bool true) := pe.vr
    cases vr
    rfl
  · cases r with
    | error e => exact hq.elim
    | ok fl =>
      cases fl with
      | next => exact hq.elim
      | brk => exact hq.elim
      | cont => exact hq.elim
      | ret u =>
        obtain ⟨v, H', os, bare, un, hok', rv, q⟩ := hq
        have q' : v = .bl true := q
        subst q'
        have hu : u = Value.bool true := rv
        subst hu
        have was : ∀ b o, s.heap.get? b = some o → s'.heap.get? b = some o ∨ ∃ q, q ∈ Tabs.l ∧ q.2 = b ∧ ∃ more : Array Value, s'.heap.get? b = some { cls := .none, data := .fields more } := by
          intro b o e
          cases hH : H b with
          | none => exact .inl (un.keep b o e hH (fun z => by cases (show b ∈ ([] : List Addr) from z)) (fun z => by cases z))
          | some u =>
            rcases (only b u hH).2 with ⟨ob, its, k, rfl, e4, _⟩ | ⟨q, hq, rfl, rfl⟩
            · rw [e] at e4
              cases e4
              exact .inl (hok' b _ (un.frzs b _ _ hH)).1
            · obtain ⟨more, z⟩ := un.tbls q.2 #[] hH
              exact .inr ⟨q, hq, rfl, _, hok' q.2 _ z⟩
        refine ⟨rfl, ⟨fun b o e => ?_, fun b o e => ?_⟩, os, bare⟩
        · rcases was b o e with z | ⟨q, hq, rfl, more, z⟩
          · exact .inl z
          · rw [T.at_ q hq] at e
            cases e
            exact .inr (.inl ⟨((T.hd q hq).tab (T.at_ q hq)).isCodeTable, rfl, #[], more, rfl, by rw [Array.empty_append]; exact z⟩)
        · rcases was b o e with z | ⟨q, hq, rfl, more, z⟩ <;> exact ⟨_, z⟩
/-- the heap that knows the tables and, if told, the script -/
noncomputable def lawHp (sc : Option (Addr × HO)) : Hp := fun b => match sc with
  | some (a, o) => if b = a then some o else if b ∈ (Tabs.l.map (·.2)) then some (.tbl #[]) else none
  | none => if b ∈ (Tabs.l.map (·.2)) then some (.tbl #[]) else none
theorem tab_mem {b : Addr} (h : b ∈ (Tabs.l.map (·.2))) : ∃ q, q ∈ Tabs.l ∧ q.2 = b := by
  obtain ⟨q, h1, h2⟩ := List.mem_map.mp h
  exact ⟨q, h1, h2⟩
theorem law_run {fd : FnD} {s : Shared} {a fa : Addr} {ns : List Int} {vs : List Value} {g' : G} (G0 : Glob mg p) (hd : ∀ fd, fd ∈ p.fns → DefOk K mg p fd) (hfd : fd ∈ p.fns) (hfa : mg fd.name = some (.ref fa)) (hps : fd.ps = 1)
    (hr : Room (n + 1) callerA) (hev : (ev p.fns n).ss fd.body { env := some (.scr ns) :: List.replicate (fd.n - 1) none, pen := none } = some (.ret (.d (.bool true)), g'))
    (KX : K.In s.heap) (hns : s.heap.Ns mainGlobals mg) (hb : s.heap.Ns builtinsNs mb) (hbb : ∀ x : Str, x ≠ "__name__" → mb x = bootBuiltins x) (hlim : s.heap.NoLimit) (hg : s.gens = #[])
    (T : TabsAtK K s.heap) (hbm : MainB mg s.heap)
    (ha : s.heap.get? a = some { cls := .type "list", data := .seq vs.toArray }) (hi : IntsAre vs ns) (hl : ns.length ≤ sizeLine) :
    codeAny (model P w) callerA (.call (.ref fa) ⟨[.ref a], []⟩) (fun r s' => r = .ok (.ret (.bool true)) ∧ OldK s.heap s'.heap ∧ s'.os = s.os ∧ AllBare s'.gens) s := by
  have rv := L2.vals_ints hi
  have isT : ∀ b, b ∈ (Tabs.l.map (·.2)) → s.heap.get? b = some { cls := .none, data := .fields #[] } := fun b h => by
    obtain ⟨q, h1, rfl⟩ := tab_mem h
    exact T.at_ q h1
  have aT : a ∉ (Tabs.l.map (·.2)) := fun h => by
    have := isT a h
    rw [ha] at this
    cases this
  cases hk : K.lookup a with
  | some o =>
    have hobj := KX a o hk
    rw [ha] at hobj
    cases hobj
    have inv : ∀ b u, lawHp none b = some u → b ∈ (Tabs.l.map (·.2)) ∧ u = .tbl #[] := fun b u z => by
      simp only [lawHp] at z
      by_cases e : b ∈ (Tabs.l.map (·.2))
      · rw [if_pos e] at z
        exact ⟨e, (Option.some.inj z).symm⟩
      · rw [if_neg e] at z
        cases z
    refine law_core (H := lawHp none) G0 hd hfd hfa hps hr hev KX hns hb hbb hlim hg (fun b u z => ?_) (.inr ⟨_, vs.toArray, _, hk, rfl, rfl, rfl, ?_, ?_⟩) T hbm (fun q hq => if_pos (List.mem_map.mpr ⟨q, hq, rfl⟩)) fun b u z => ?_
    · obtain ⟨h1, rfl⟩ := inv b u z
      exact isT b h1
    · rw [List.size_toArray, hi.length]
      exact hl
    · simpa using rv
    · obtain ⟨h1, rfl⟩ := inv b u z
      obtain ⟨q, hq, rfl⟩ := tab_mem h1
      exact ⟨T.no q hq, .inr ⟨q, hq, rfl, rfl⟩⟩
  | none =>
    have inv : ∀ b u, lawHp (some (a, .frz { cls := .type "list", data := .seq vs.toArray } (.lst (ns.map V.int)))) b = some u → (b = a ∧ u = .frz { cls := .type "list", data := .seq vs.toArray } (.lst (ns.map V.int))) ∨ (b ∈ (Tabs.l.map (·.2)) ∧ u = .tbl #[]) := fun b u z => by
      simp only [lawHp] at z
      by_cases e0 : b = a
      · rw [if_pos e0] at z
        exact .inl ⟨e0, (Option.some.inj z).symm⟩
      · rw [if_neg e0] at z
        by_cases e : b ∈ (Tabs.l.map (·.2))
        · rw [if_pos e] at z
          exact .inr ⟨e, (Option.some.inj z).symm⟩
        · rw [if_neg e] at z
          cases z
    refine law_core (H := lawHp (some (a, .frz { cls := .type "list", data := .seq vs.toArray } (.lst (ns.map V.int))))) G0 hd hfd hfa hps hr hev KX hns hb hbb hlim hg (fun b u z => ?_) (.inl ⟨id, _, if_pos rfl⟩) T hbm (fun q hq => ?_) fun b u z => ?_
    · rcases inv b u z with ⟨rfl, rfl⟩ | ⟨h1, rfl⟩
      · exact ⟨ha, by rw [List.length_map]; exact hl, vs, _, rv, ha⟩
      · exact isT b h1
    · have hm : q.2 ∈ (Tabs.l.map (·.2)) := List.mem_map.mpr ⟨q, hq, rfl⟩
      exact (if_neg (show ¬ q.2 = a from fun z => aT (z ▸ hm))).trans (if_pos hm)
    · rcases inv b u z with ⟨rfl, rfl⟩ | ⟨h1, rfl⟩
      · exact ⟨hk, .inl ⟨_, _, _, rfl, ha, rfl⟩⟩
      · obtain ⟨q, hq, rfl⟩ := tab_mem h1
        exact ⟨T.no q hq, .inr ⟨q, hq, rfl, rfl⟩⟩
end
/-- THE END: what is left of a law, once its program stands as the small language's text -/
theorem walk_dl {l : PySem.W.OpenLaw} {n : Nat} {q : Program} {loose : List Str} {XP : (Str → Option Value) → Heap → Prop} {YP : World → Heap → Prop} {d : DefRec} {K : Params → PySem.W.Frag} {p : Pgm} {fd : FnD}
    (hn : l.most = some 63) (hdf : d.params.defaults = []) (hr : Room (n + 1) callerA) (hY : ∀ (w : World) (h : Heap), YP w h → (K w.params).In h) (hfd : fd ∈ p.fns) (hname : d.name = fd.name) (hps : fd.ps = 1)
    (F : ∀ (w : World) (lo : List Str) (mean : ExcName → Option Value) (mg mb : Str → Option Value) (h : Heap), (K w.params).In h → h.Ns mainGlobals mg → Top q lo mean mg mb h → (Glob mg p ∧ ∀ fd, fd ∈ p.fns → DefOk (K w.params) mg p fd) ∧ TabsAtK (K w.params) h)
    (hev : ∀ ns : List Int, ns.length ≤ 63 → (∀ z ∈ ns, Builtin.Int.intBits z ≤ 1048576) → ∃ g', (ev p.fns n).ss fd.body { env := some (.scr ns) :: List.replicate (fd.n - 1) none, pen := none } = some (.ret (.d (.bool true)), g')) :
    PySem.W.WalkO q loose XP YP l.row.toRowW d [] (fun f vs => PySem.call f vs) := by
  refine Att.attach_callB hn hdf fun w s₀ s₁ mg mb fa o pm cd doc a vs ns G Y ho hd hcd hmg hobj hints hlen hbits hg => ?_
  have KX := hY w _ Y
  obtain ⟨⟨G0, hds⟩, TT⟩ := F w _ _ mg mb _ KX G.T.g G.T
  obtain ⟨g', hg'⟩ := hev ns hlen hbits
  exact law_run G0 hds hfd (hname ▸ hmg) hps hr hg' KX G.T.g G.T.b G.T.builtins G.T.nolimit hg TT G.T.bmain hobj hints (Nat.le_trans hlen (by decide))

/-! ### the premises, def by def -/
def defC (p : Pgm) (fd : FnD) (st : Stmt) (N ps : List Str) (m : Nat) : Bool :=
  C8.scC N ps (C8.fnScope st) && decide (ps.length = fd.ps) && decide (N.length = fd.n) && chkSs p m ⟨N, C8.fnScope st⟩ (C8.fnBody st) fd.body
theorem def_mk {K : Fg} {mg : Str → Option Value} {h : Heap} {p : Pgm} {fd : FnD} {st : Stmt} {N ps : List Str} {m : Nat} {f : Addr} {kV doc pm cdv ct oc : Value} {an od : Option Addr} {osl : Array (Option Value)} (X : K.In h) (G : h.Ns mainGlobals mg)
    (chk : defC p fd st N ps m = true) (hb : ∀ (kV doc pm cdv ct : Value) (an : Option Addr) (us : List Value), us.length = ps.length → bindArgs (PySem.W.fnOf fd.name fd.name (C8.fnArgs st) (C8.fnBody st) (C8.fnScope st) .none kV doc pm an cdv ct) ⟨us, []⟩ = pure (ps.zip us))
    (a : PySem.W.nsIn K mainGlobals fd.name = some (some (.ref f))) (l : K.lookup f = some ⟨oc, od, .func (PySem.W.fnOf fd.name fd.name (C8.fnArgs st) (C8.fnBody st) (C8.fnScope st) .none kV doc pm an cdv ct), osl⟩)
    (c : PySem.W.codeIn K cdv fd.name = true) (k : PySem.W.keepIn K (.ref f) = true) (t : N ∈ p.tabs → ∃ c P, cdv = .ref c ∧ (c, P) ∈ Tabs.l) : DefOk K mg p fd := by
  unfold defC at chk
  simp only [Bool.and_eq_true, decide_eq_true_eq] at chk
  obtain ⟨⟨⟨h1, h2⟩, h3⟩, h4⟩ := chk
  exact ⟨f, fd.name, _, _, _, .none, kV, doc, pm, cdv, ct, oc, an, od, osl, N, ps, m, l, c, h1, h2, h3, PySem.W.mg_of X G a, k, hb kV doc pm cdv ct an, h4, t⟩
theorem defs_nil {K : Fg} {mg : Str → Option Value} {p : Pgm} : ∀ fd, fd ∈ ([] : List FnD) → DefOk K mg p fd := fun _ h => by cases h
theorem defs_cons {K : Fg} {mg : Str → Option Value} {p : Pgm} {fd : FnD} {fs : List FnD} (h : DefOk K mg p fd) (t : ∀ x, x ∈ fs → DefOk K mg p x) : ∀ x, x ∈ fd :: fs → DefOk K mg p x := fun x hx => by
  rcases List.mem_cons.mp hx with e | e
  · rw [e]; exact h
  · exact t x e
/-- built-in names that the module leaves alone -/
def BlIn (K : Fg) : List Str → Prop
  | [] => True
  | x :: r => PySem.W.nsIn K mainGlobals x = some none ∧ BlIn K r
theorem bl_all {K : Fg} {h : Heap} {mg : Str → Option Value} (X : K.In h) (G : h.Ns mainGlobals mg) : ∀ {l : List Str}, BlIn K l → ∀ x, x ∈ l → mg x = none
  | [], _, _, hx => by cases hx
  | y :: r, ⟨h1, h2⟩, x, hx => by
    rcases List.mem_cons.mp hx with e | e
    · rw [e]; exact PySem.W.mg_none_of X G h1
    · exact bl_all X G h2 x e
/-- constants of the module -/
def CsIn (K : Fg) : List (Str × D) → Prop
  | [] => True
  | (x, d) :: r => (∃ u, PySem.W.nsIn K mainGlobals x = some (some u) ∧ RelV (dV d) u) ∧ CsIn K r
theorem cs_nil {K : Fg} : CsIn K [] := trivial
theorem cs_cons {K : Fg} {x : Str} {d : D} {r : List (Str × D)} {u : Value} (h1 : PySem.W.nsIn K mainGlobals x = some (some u)) (h2 : RelV (dV d) u) (h3 : CsIn K r) : CsIn K ((x, d) :: r) := ⟨⟨u, h1, h2⟩, h3⟩
theorem cs_all {K : Fg} {h : Heap} {mg : Str → Option Value} (X : K.In h) (G : h.Ns mainGlobals mg) : ∀ {l : List (Str × D)}, CsIn K l → ∀ x d, l.lookup x = some d → scalD d = true → ∃ u, mg x = some u ∧ RelV (dV d) u
  | [], _, _, _, hx, _ => by cases hx
  | (y, e) :: r, ⟨⟨u, h1, h2⟩, h3⟩, x, d, hx, hs => by
    rw [List.lookup_cons] at hx
    cases q : x == y with
    | true =>
      rw [q] at hx
      cases hx
      have := eq_of_beq q
      subst this
      exact ⟨u, PySem.W.mg_of X G h1, h2⟩
    | false =>
      rw [q] at hx
      exact cs_all X G h3 x d hx hs
theorem glob_mk {K : Fg} {h : Heap} {mg : Str → Option Value} {p : Pgm} (X : K.In h) (G : h.Ns mainGlobals mg) (h1 : BlIn K bnames) (h2 : CsIn K p.cs) : Glob mg p := ⟨bl_all X G h1, cs_all X G h2⟩
theorem tabs_nil {K : Fg} {h : Heap} (e : (Tabs.l : List (Addr × Addr)) = []) : TabsAtK K h := ⟨fun q hq => (by rw [e] at hq; cases hq), fun q hq => (by rw [e] at hq; cases hq), fun q hq => (by rw [e] at hq; cases hq)⟩
/-- one table, as the top left it -/
theorem tabs_one {K : Fg} {h : Heap} {q : Program} {lo : List Str} {mean : ExcName → Option Value} {mg mb : Str → Option Value} {d : DefRec} {x : Str} {c P : Addr} (T : Top q lo mean mg mb h) (X : K.In h) (e : (Tabs.l : List (Addr × Addr)) = [(c, P)])
    (hr : (recsOf q).find? (fun e => e.name == x) = some d) (ht : PySem.W.tabIn K x = some (c, P)) (hn : K.lookup P = none) : TabsAtK K h := by
  obtain ⟨h1, h2⟩ := PySem.W.tab_of T X hr ht
  have one : ∀ q, q ∈ Tabs.l → q = (c, P) := fun q hq => by
    rw [e] at hq
    exact List.mem_singleton.mp hq
  exact ⟨fun q hq => (by rw [one q hq]; exact h1), fun q hq => (by rw [one q hq]; exact h2), fun q hq => (by rw [one q hq]; exact hn)⟩
end DL
end
section
set_option Elab.async false
set_option linter.all false
set_option maxRecDepth 100000
set_option autoImplicit false
set_option maxHeartbeats 4000000
/-! DL, part w: what a run gives, said forwards: rules that rewrite. -/
namespace DL
open PySem PySem.Spec L2

def Wo {α β : Type} (o : Option (α × β)) (Q : α → β → Prop) : Prop := ∃ a b, o = some (a, b) ∧ Q a b
section
variable {α β γ δ : Type}
theorem wo_none {Q : α → β → Prop} : Wo none Q ↔ False := ⟨fun ⟨_, _, h, _⟩ => (by cases h), False.elim⟩
theorem wo_some {a : α} {b : β} {Q : α → β → Prop} : Wo (some (a, b)) Q ↔ Q a b := ⟨fun ⟨_, _, h, q⟩ => by cases h; exact q, fun q => ⟨_, _, rfl, q⟩⟩
theorem wo_map {o : Option γ} {f : γ → α × β} {Q : α → β → Prop} : Wo (o.map f) Q ↔ ∃ c, o = some c ∧ Q (f c).1 (f c).2 := by
  cases o with
  | none => exact ⟨fun ⟨_, _, h, _⟩ => (by cases h), fun ⟨_, h, _⟩ => (by cases h)⟩
  | some c => exact ⟨fun ⟨a, b, h, q⟩ => ⟨c, rfl, by rw [show f c = (a, b) from Option.some.inj h]; exact q⟩, fun ⟨_, h, q⟩ => by cases h; exact ⟨_, _, rfl, q⟩⟩
theorem wo_imp {o : Option (α × β)} {Q Q' : α → β → Prop} (h : Wo o Q) (k : ∀ a b, Q a b → Q' a b) : Wo o Q' := let ⟨a, b, e, q⟩ := h; ⟨a, b, e, k a b q⟩
/-- some, then -/
def So {α : Type} (o : Option α) (Q : α → Prop) : Prop := ∃ a, o = some a ∧ Q a
theorem so_none {Q : α → Prop} : So none Q ↔ False := ⟨fun ⟨_, h, _⟩ => (by cases h), False.elim⟩
theorem so_some {a : α} {Q : α → Prop} : So (some a) Q ↔ Q a := ⟨fun ⟨_, h, q⟩ => by cases h; exact q, fun q => ⟨_, rfl, q⟩⟩
theorem so_map {o : Option γ} {f : γ → α} {Q : α → Prop} : So (o.map f) Q ↔ So o fun c => Q (f c) := by
  cases o with
  | none => exact ⟨fun ⟨_, h, _⟩ => (by cases h), fun ⟨_, h, _⟩ => (by cases h)⟩
  | some c => exact ⟨fun ⟨_, h, q⟩ => by cases h; exact ⟨c, rfl, q⟩, fun ⟨_, h, q⟩ => by cases h; exact ⟨_, rfl, q⟩⟩
theorem so_if {c : Prop} [Decidable c] {a : α} {Q : α → Prop} : So (if c then some a else none) Q ↔ c ∧ Q a := by
  by_cases h : c
  · rw [if_pos h, so_some]; exact ⟨fun q => ⟨h, q⟩, fun q => q.2⟩
  · rw [if_neg h, so_none]; exact ⟨False.elim, fun q => h q.1⟩
end
section
variable {tb : List FnD} {n : Nat} {g : G}
def WE (tb : List FnD) (n : Nat) (ir : IE) (g : G) (Q : R → G → Prop) : Prop := Wo ((ev tb n).e ir g) Q
def WT (tb : List FnD) (n : Nat) (ir : IE) (g : G) (Q : Bool → G → Prop) : Prop := Wo ((ev tb n).t ir g) Q
def WC (tb : List FnD) (n : Nat) (f : Nat) (as : List Sv) (p : Option (List D)) (Q : R → Option (List D) → Prop) : Prop := Wo ((ev tb n).c f as p) Q
def WB (tb : List FnD) (n : Nat) (b : List IS) (g : G) (Q : Fl → G → Prop) : Prop := Wo ((ev tb n).ss b g) Q
/-- one read as data -/
def WR (tb : List FnD) (n : Nat) (ir : IE) (g : G) (Q : D → G → Prop) : Prop := WE tb n ir g fun r g1 => So (rdR r) fun x => Q x g1
def WKp (tb : List FnD) (n : Nat) (ir : IE) (g : G) (Q : D → G → Prop) : Prop := WE tb n ir g fun r g1 => Wo (keepR r g1) Q
def WDs (tb : List FnD) (n : Nat) (es : List IE) (g : G) (Q : List D → G → Prop) : Prop := Wo (evDs (ev tb n) es g) Q
def WAs (tb : List FnD) (n : Nat) (es : List IE) (g : G) (Q : List Sv → G → Prop) : Prop := Wo (evAs (ev tb n) es g) Q
def WFor (tb : List FnD) (n : Nat) (tg : Tg) (body : List IS) (ds : List D) (g : G) (Q : Fl → G → Prop) : Prop := Wo (evFor (ev tb n) tg body ds g) Q
def WLc (tb : List FnD) (n : Nat) (elt : IE) (tg : Tg) (cond : Option IE) (own : List Nat) (ds acc : List D) (g : G) (Q : List D → G → Prop) : Prop := Wo (evLc (ev tb n) elt tg cond own ds acc g) Q
def WIts (tb : List FnD) (n : Nat) (ik : Ik) (its : List IE) (g : G) (Q : List D → G → Prop) : Prop := Wo (itsD (ev tb n) ik its g) Q
theorem wr_iff {ir : IE} {Q : D → G → Prop} : WR tb n ir g Q ↔ Wo (rd1 (ev tb n) ir g) Q := by
  unfold WR WE rd1
  cases (ev tb n).e ir g with
  | none => simp only [wo_none]
  | some rg =>
    obtain ⟨r, g1⟩ := rg
    rw [wo_some]
    show _ ↔ Wo ((rdR r).map fun x => (x, g1)) Q
    cases rdR r <;> simp only [Option.map_none, Option.map_some, wo_none, wo_some, so_none, so_some]
theorem wkp_iff {ir : IE} {Q : D → G → Prop} : WKp tb n ir g Q ↔ Wo (kp1 (ev tb n) ir g) Q := by
  unfold WKp WE kp1
  cases (ev tb n).e ir g with
  | none => simp only [wo_none]
  | some rg => obtain ⟨r, g1⟩ := rg; rw [wo_some]
theorem wr2_iff {a b : IE} {Q : D → D → G → Prop} : (∃ x y g', rd2 (ev tb n) a b g = some (x, y, g') ∧ Q x y g') ↔ WE tb n a g fun r1 g1 => WE tb n b g1 fun r2 g2 => So (rdR r1) fun x => So (rdR r2) fun y => Q x y g2 := by
  unfold WE rd2
  cases (ev tb n).e a g with
  | none => simp only [wo_none]; exact ⟨fun ⟨_, _, _, h, _⟩ => (by cases h), False.elim⟩
  | some rg =>
    obtain ⟨r1, g1⟩ := rg
    simp only [wo_some]
    cases (ev tb n).e b g1 with
    | none => simp only [wo_none]; exact ⟨fun ⟨_, _, _, h, _⟩ => (by cases h), False.elim⟩
    | some rg2 =>
      obtain ⟨r2, g2⟩ := rg2
      simp only [wo_some]
      cases rdR r1 with
      | none => simp only [so_none]; exact ⟨fun ⟨_, _, _, h, _⟩ => (by cases h), False.elim⟩
      | some x =>
        cases rdR r2 with
        | none => simp only [so_none, so_some]; exact ⟨fun ⟨_, _, _, h, _⟩ => (by cases h), False.elim⟩
        | some y => simp only [so_some]; exact ⟨fun ⟨_, _, _, h, q⟩ => by cases h; exact q, fun q => ⟨_, _, _, rfl, q⟩⟩
/-! ### expressions -/
def slotP (g : G) (i : Nat) (Q : R → G → Prop) : Prop := match g.env[i]? with
    | some (some (.d x)) => Q (.d x) g
    | some (some (.own xs)) => Q (.bo i xs) g
    | some (some (.scr xs)) => Q (.scr xs) g
    | some (some .pen) => g.pen.isSome = true ∧ Q .pen g
    | _ => False
theorem we_slot {i : Nat} {Q : R → G → Prop} : WE tb (n + 1) (.slot i) g Q ↔ slotP g i Q := by
  show Wo (stE (ev tb n) (.slot i) g) Q ↔ _
  unfold slotP
  simp only [stE]
  generalize g.env[i]? = o
  match o with
  | some (some (.d x)) => exact wo_some
  | some (some (.own xs)) => exact wo_some
  | some (some (.scr xs)) => exact wo_some
  | some (some .pen) =>
    by_cases h : g.pen.isSome = true
    · simp only [if_pos h, wo_some]; exact ⟨fun q => ⟨h, q⟩, fun q => q.2⟩
    · simp only [if_neg h, wo_none]; exact ⟨False.elim, fun q => h q.1⟩
  | some none => exact wo_none
  | none => exact wo_none
theorem we_cst {d : D} {Q : R → G → Prop} : WE tb (n + 1) (.cst d) g Q ↔ Q (.d d) g := wo_some
theorem we_tup {es : List IE} {Q : R → G → Prop} : WE tb (n + 1) (.tup es) g Q ↔ WDs tb n es g fun ds g1 => Q (.d (.tuple ds)) g1 := by
  show Wo (stE (ev tb n) (.tup es) g) Q ↔ Wo _ _
  simp only [stE]
  rw [wo_map]
  exact ⟨fun ⟨c, h, q⟩ => ⟨c.1, c.2, h, q⟩, fun ⟨a, b, h, q⟩ => ⟨(a, b), h, q⟩⟩
theorem we_lst {es : List IE} {Q : R → G → Prop} : WE tb (n + 1) (.lst es) g Q ↔ WDs tb n es g fun ds g1 => Q (.fr ds) g1 := by
  show Wo (stE (ev tb n) (.lst es) g) Q ↔ Wo _ _
  simp only [stE]
  rw [wo_map]
  exact ⟨fun ⟨c, h, q⟩ => ⟨c.1, c.2, h, q⟩, fun ⟨a, b, h, q⟩ => ⟨(a, b), h, q⟩⟩
theorem we_bin {op : Operator} {a b : IE} {Q : R → G → Prop} : WE tb (n + 1) (.bin op a b) g Q ↔ WE tb n a g fun r1 g1 => WE tb n b g1 fun r2 g2 => So (rdR r1) fun x => So (rdR r2) fun y => So (binD op x y) fun r => Q r g2 := by
  show Wo (stE (ev tb n) (.bin op a b) g) Q ↔ _
  rw [← wr2_iff (Q := fun x y g2 => So (binD op x y) fun r => Q r g2)]
  simp only [stE]
  cases rd2 (ev tb n) a b g with
  | none => simp only [wo_none]; exact ⟨False.elim, fun ⟨_, _, _, h, _⟩ => (by cases h)⟩
  | some t =>
    obtain ⟨x, y, g1⟩ := t
    simp only [wo_map]
    exact ⟨fun ⟨c, h, q⟩ => ⟨_, _, _, rfl, c, h, q⟩, fun ⟨_, _, _, e, c, h, q⟩ => by cases e; exact ⟨c, h, q⟩⟩
theorem we_neg {a : IE} {Q : R → G → Prop} : WE tb (n + 1) (.neg a) g Q ↔ WR tb n a g fun x g1 => match x with | .int i => Q (.d (.int (-i))) g1 | _ => False := by
  rw [wr_iff]
  show Wo (stE (ev tb n) (.neg a) g) Q ↔ _
  simp only [stE]
  cases rd1 (ev tb n) a g with
  | none => simp only [wo_none]
  | some t => obtain ⟨x, g1⟩ := t; cases x <;> simp only [wo_some, wo_none]
theorem we_not {a : IE} {Q : R → G → Prop} : WE tb (n + 1) (.notE a) g Q ↔ WR tb n a g fun x g1 => match x with | .bool i => Q (.d (.bool (!i))) g1 | _ => False := by
  rw [wr_iff]
  show Wo (stE (ev tb n) (.notE a) g) Q ↔ _
  simp only [stE]
  cases rd1 (ev tb n) a g with
  | none => simp only [wo_none]
  | some t => obtain ⟨x, g1⟩ := t; cases x <;> simp only [wo_some, wo_none]
theorem we_bop {c : Bool} {a b : IE} {Q : R → G → Prop} : WE tb (n + 1) (.bop c a b) g Q ↔ WR tb n a g fun x g1 => match x with | .bool k => if k = c then WE tb n b g1 Q else Q (.d (.bool k)) g1 | _ => False := by
  rw [wr_iff]
  show Wo (stE (ev tb n) (.bop c a b) g) Q ↔ _
  simp only [stE]
  cases rd1 (ev tb n) a g with
  | none => simp only [wo_none]
  | some t =>
    obtain ⟨x, g1⟩ := t
    cases x <;> simp only [wo_some, wo_none]
    split <;> simp only [wo_some, WE]
theorem we_cmp {op : CmpOp} {a b : IE} {Q : R → G → Prop} : WE tb (n + 1) (.cmp op a b) g Q ↔ WE tb n a g fun r1 g1 => WE tb n b g1 fun r2 g2 => So (rdR r1) fun x => So (rdR r2) fun y => So (cmpD op x y) fun r => Q (.d (.bool r)) g2 := by
  show Wo (stE (ev tb n) (.cmp op a b) g) Q ↔ _
  rw [← wr2_iff (Q := fun x y g2 => So (cmpD op x y) fun r => Q (.d (.bool r)) g2)]
  simp only [stE]
  cases rd2 (ev tb n) a b g with
  | none => simp only [wo_none]; exact ⟨False.elim, fun ⟨_, _, _, h, _⟩ => (by cases h)⟩
  | some t =>
    obtain ⟨x, y, g1⟩ := t
    simp only [wo_map]
    exact ⟨fun ⟨c, h, q⟩ => ⟨_, _, _, rfl, c, h, q⟩, fun ⟨_, _, _, e, c, h, q⟩ => by cases e; exact ⟨c, h, q⟩⟩
theorem we_chn {op op' : CmpOp} {a b c : IE} {Q : R → G → Prop} : WE tb (n + 1) (.chn op op' a b c) g Q ↔ WE tb n a g fun r1 g1 => WE tb n b g1 fun r2 g2 => So (rdR r1) fun x => So (rdR r2) fun y => match y with
    | .int j => So (cmpD op x (.int j)) fun k => if k = true then WR tb n c g2 fun z g3 => So (cmpD op' (.int j) z) fun r => Q (.d (.bool r)) g3 else Q (.d (.bool false)) g2
    | _ => False := by
  show Wo (stE (ev tb n) (.chn op op' a b c) g) Q ↔ _
  rw [← wr2_iff (Q := fun x y g2 => match y with
    | .int j => So (cmpD op x (.int j)) fun k => if k = true then WR tb n c g2 fun z g3 => So (cmpD op' (.int j) z) fun r => Q (.d (.bool r)) g3 else Q (.d (.bool false)) g2
    | _ => False)]
  simp only [stE]
  cases rd2 (ev tb n) a b g with
  | none => simp only [wo_none]; exact ⟨False.elim, fun ⟨_, _, _, h, _⟩ => (by cases h)⟩
  | some t =>
    obtain ⟨x, y, g1⟩ := t
    have one : ∀ {P : D → D → G → Prop}, (∃ x' y' g', some (x, y, g1) = some (x', y', g') ∧ P x' y' g') ↔ P x y g1 := fun {P} => ⟨fun ⟨_, _, _, e, q⟩ => by cases e; exact q, fun q => ⟨_, _, _, rfl, q⟩⟩
    rw [one]
    cases y <;> simp only [wo_none]
    rename_i j
    cases cmpD op x (.int j) with
    | none => simp only [wo_none, so_none]
    | some k =>
      cases k with
      | false => simp only [wo_some, so_some, Bool.false_eq_true, if_false]
      | true =>
        simp only [so_some, if_true, wr_iff]
        cases rd1 (ev tb n) c g1 with
        | none => simp only [wo_none]
        | some t => obtain ⟨z, g2⟩ := t; simp only [wo_some, wo_map]; rfl
theorem we_ife {t a b : IE} {Q : R → G → Prop} : WE tb (n + 1) (.ife t a b) g Q ↔ WT tb n t g fun k g1 => if k = true then WE tb n a g1 Q else WE tb n b g1 Q := by
  show Wo (stE (ev tb n) (.ife t a b) g) Q ↔ Wo _ _
  simp only [stE]
  cases (ev tb n).t t g with
  | none => simp only [wo_none]
  | some kg => obtain ⟨k, g1⟩ := kg; cases k <;> simp only [wo_some, WE, Bool.false_eq_true, if_false, if_true]
theorem we_call {f : Nat} {es : List IE} {Q : R → G → Prop} : WE tb (n + 1) (.call f es) g Q ↔ WAs tb n es g fun as g1 => WC tb n f as g1.pen fun r p => Q r { g1 with pen := p } := by
  show Wo (stE (ev tb n) (.call f es) g) Q ↔ Wo _ _
  simp only [stE]
  cases evAs (ev tb n) es g with
  | none => simp only [wo_none]
  | some t =>
    obtain ⟨as, g1⟩ := t
    simp only [wo_some, wo_map, WC]
    exact ⟨fun ⟨c, h, q⟩ => ⟨c.1, c.2, h, q⟩, fun ⟨a, b, h, q⟩ => ⟨(a, b), h, q⟩⟩
theorem we_bi1 {b : Bi} {a : IE} {Q : R → G → Prop} : WE tb (n + 1) (.bi1 b a) g Q ↔ WR tb n a g fun x g1 => So (bi1D b x) fun r => Q r g1 := by
  rw [wr_iff]
  show Wo (stE (ev tb n) (.bi1 b a) g) Q ↔ _
  simp only [stE]
  cases rd1 (ev tb n) a g with
  | none => simp only [wo_none]
  | some t => obtain ⟨x, g1⟩ := t; simp only [wo_some, wo_map]; rfl
theorem we_bi2 {bb : Bi} {a b : IE} {Q : R → G → Prop} : WE tb (n + 1) (.bi2 bb a b) g Q ↔ WE tb n a g fun r1 g1 => WE tb n b g1 fun r2 g2 => So (rdR r1) fun x => So (rdR r2) fun y => So (bi2D bb x y) fun r => Q r g2 := by
  show Wo (stE (ev tb n) (.bi2 bb a b) g) Q ↔ _
  rw [← wr2_iff (Q := fun x y g2 => So (bi2D bb x y) fun r => Q r g2)]
  simp only [stE]
  cases rd2 (ev tb n) a b g with
  | none => simp only [wo_none]; exact ⟨False.elim, fun ⟨_, _, _, h, _⟩ => (by cases h)⟩
  | some t =>
    obtain ⟨x, y, g1⟩ := t
    simp only [wo_map]
    exact ⟨fun ⟨c, h, q⟩ => ⟨_, _, _, rfl, c, h, q⟩, fun ⟨_, _, _, e, c, h, q⟩ => by cases e; exact ⟨c, h, q⟩⟩
theorem we_rngL {k : Bool} {es : List IE} {Q : R → G → Prop} : WE tb (n + 1) (.rngL k es) g Q ↔ WDs tb n es g fun ds g1 => So (rngD ds) fun xs => xs.length ≤ szL ∧ Q (if k then .d (.tuple xs) else .fr xs) g1 := by
  show Wo (stE (ev tb n) (.rngL k es) g) Q ↔ Wo _ _
  simp only [stE]
  cases evDs (ev tb n) es g with
  | none => simp only [wo_none]
  | some t =>
    obtain ⟨ds, g1⟩ := t
    simp only [wo_some]
    cases rngD ds with
    | none => simp only [wo_none, so_none]
    | some xs =>
      simp only [so_some]
      by_cases h : xs.length ≤ szL
      · rw [if_pos h, wo_some]; exact ⟨fun q => ⟨h, q⟩, fun q => q.2⟩
      · rw [if_neg h, wo_none]; exact ⟨False.elim, fun q => h q.1⟩
theorem we_idx {a i : IE} {Q : R → G → Prop} : WE tb (n + 1) (.idx a i) g Q ↔ WE tb n a g fun r g1 => WR tb n i g1 fun y g2 => match r with
    | .pen => So g2.pen fun xs => So (idxD (.list xs) y) fun d => Q (.d d) g2
    | r => So (rdR r) fun x => So (idxD x y) fun d => Q (.d d) g2 := by
  show Wo (stE (ev tb n) (.idx a i) g) Q ↔ Wo _ _
  simp only [stE, wr_iff]
  cases (ev tb n).e a g with
  | none => simp only [wo_none]
  | some rg =>
    obtain ⟨r, g1⟩ := rg
    simp only [wo_some]
    cases rd1 (ev tb n) i g1 with
    | none => simp only [wo_none]
    | some t =>
      obtain ⟨y, g2⟩ := t
      simp only [wo_some]
      cases r with
      | pen =>
        simp only
        cases g2.pen with
        | none => simp only [wo_none, so_none]
        | some xs => simp only [wo_map, so_some]; rfl
      | d x => simp only [rdR, wo_map, so_some]; rfl
      | fr xs => simp only [rdR, wo_map, so_some]; rfl
      | bo j xs => simp only [rdR, wo_map, so_some]; rfl
      | scr ns => simp only [rdR, wo_none, so_none]
def WP (tb : List FnD) (n : Nat) (o : Option IE) (g : G) (Q : Option Int → G → Prop) : Prop := match o with
  | none => Q none g
  | some e => WR tb n e g fun x g1 => match x with | .int i => Q (some i) g1 | _ => False
theorem wp_iff {o : Option IE} {Q : Option Int → G → Prop} : WP tb n o g Q ↔ Wo (evP (ev tb n) o g) fun l g1 => So (partD l) fun l => Q l g1 := by
  unfold WP
  cases o with
  | none => simp only [evP, wo_some, partD, so_some]
  | some e =>
    simp only [wr_iff, evP]
    cases rd1 (ev tb n) e g with
    | none => simp only [wo_none, Option.map_none]
    | some t => obtain ⟨x, g1⟩ := t; simp only [wo_some, Option.map_some]; cases x <;> simp only [partD, so_none, so_some]
theorem we_slc {a : IE} {lo hi : Option IE} {Q : R → G → Prop} : WE tb (n + 1) (.slc a lo hi) g Q ↔ WE tb n a g fun r g1 => WP tb n lo g1 fun l g2 => WP tb n hi g2 fun h g3 => match r with
    | .scr ns => Q (.fr (cutD (ns.map PyData.int) l h)) g3
    | r => So (rdR r) fun x => So (slcD x l h) fun r => Q r g3 := by
  show Wo (stE (ev tb n) (.slc a lo hi) g) Q ↔ Wo _ _
  simp only [stE, wp_iff]
  cases (ev tb n).e a g with
  | none => simp only [wo_none]
  | some rg =>
    obtain ⟨r, g1⟩ := rg
    simp only [wo_some]
    cases evP (ev tb n) lo g1 with
    | none => simp only [wo_none]
    | some t =>
      obtain ⟨l, g2⟩ := t
      simp only [wo_some]
      cases evP (ev tb n) hi g2 with
      | none => 
        simp only [wo_none]
        refine ⟨False.elim, fun ⟨_, _, h⟩ => h.elim⟩
      | some t =>
        obtain ⟨h, g3⟩ := t
        simp only [wo_some]
        cases hl : partD l with
        | none => simp only [wo_none, so_none]
        | some l =>
          cases hh : partD h with
          | none => simp only [wo_none, so_none, so_some]
          | some h =>
            simp only [so_some]
            cases r with
            | scr ns => simp only [wo_some]
            | d x => simp only [rdR, wo_map, so_some]; rfl
            | fr xs => simp only [rdR, wo_map, so_some]; rfl
            | bo j xs => simp only [rdR, wo_map, so_some]; rfl
            | pen => simp only [rdR, wo_none, so_none]
theorem we_rev {a : IE} {Q : R → G → Prop} : WE tb (n + 1) (.rev a) g Q ↔ WR tb n a g fun x g1 => match x with | .list xs => Q (.fr xs.reverse) g1 | .tuple xs => Q (.d (.tuple xs.reverse)) g1 | _ => False := by
  rw [wr_iff]
  show Wo (stE (ev tb n) (.rev a) g) Q ↔ _
  simp only [stE]
  cases rd1 (ev tb n) a g with
  | none => simp only [wo_none]
  | some t => obtain ⟨x, g1⟩ := t; cases x <;> simp only [wo_some, wo_none]
theorem we_lc {elt : IE} {tg : Tg} {ik : Ik} {its : List IE} {cond : Option IE} {own : List Nat} {Q : R → G → Prop} : WE tb (n + 1) (.lc elt tg ik its cond own) g Q ↔ WIts tb n ik its g fun ds g1 => WLc tb n elt tg cond own ds [] g1 fun acc g2 => Q (.fr acc) g2 := by
  show Wo (stE (ev tb n) (.lc elt tg ik its cond own) g) Q ↔ Wo _ _
  simp only [stE]
  cases itsD (ev tb n) ik its g with
  | none => simp only [wo_none]
  | some t =>
    obtain ⟨ds, g1⟩ := t
    simp only [wo_some, wo_map, WLc]
    exact ⟨fun ⟨c, h, q⟩ => ⟨c.1, c.2, h, q⟩, fun ⟨a, b, h, q⟩ => ⟨(a, b), h, q⟩⟩
theorem we_idxS {a b : IE} {Q : R → G → Prop} : WE tb (n + 1) (.idxS a b) g Q ↔ WE tb n a g fun r1 g1 => WE tb n b g1 fun r2 g2 => So (rdR r1) fun x => So (rdR r2) fun y => match x, y with
    | .str x, .str y => So (Txt.index0 x y) fun i => Q (.d (.int (i : Int))) g2
    | _, _ => False := by
  show Wo (stE (ev tb n) (.idxS a b) g) Q ↔ _
  rw [← wr2_iff (Q := fun x y g2 => match x, y with
    | .str x, .str y => So (Txt.index0 x y) fun i => Q (.d (.int (i : Int))) g2
    | _, _ => False)]
  simp only [stE]
  cases rd2 (ev tb n) a b g with
  | none => simp only [wo_none]; exact ⟨False.elim, fun ⟨_, _, _, h, _⟩ => (by cases h)⟩
  | some t =>
    obtain ⟨x, y, g1⟩ := t
    have one : ∀ {P : D → D → G → Prop}, (∃ x' y' g', some (x, y, g1) = some (x', y', g') ∧ P x' y' g') ↔ P x y g1 := fun {P} => ⟨fun ⟨_, _, _, e, q⟩ => by cases e; exact q, fun q => ⟨_, _, _, rfl, q⟩⟩
    rw [one]
    cases x <;> cases y <;> simp only [wo_none, wo_map]
    rename_i s1 s2
    cases Txt.index0 s1 s2 with
    | none => simp only [so_none]; exact ⟨fun ⟨_, h, _⟩ => (by cases h), False.elim⟩
    | some k => simp only [so_some]; exact ⟨fun ⟨_, h, q⟩ => by cases h; exact q, fun q => ⟨_, rfl, q⟩⟩
/-! ### tests -/
theorem wt_bop {c : Bool} {a b : IE} {Q : Bool → G → Prop} : WT tb (n + 1) (.bop c a b) g Q ↔ WT tb n a g fun k g1 => if k = c then WT tb n b g1 Q else Q k g1 := by
  show Wo (stT (ev tb n) (.bop c a b) g) Q ↔ Wo _ _
  simp only [stT]
  cases (ev tb n).t a g with
  | none => simp only [wo_none]
  | some t =>
    obtain ⟨k, g1⟩ := t
    simp only [wo_some]
    split <;> simp only [wo_some, WT]
theorem wt_not {a : IE} {Q : Bool → G → Prop} : WT tb (n + 1) (.notE a) g Q ↔ WT tb n a g fun k g1 => Q (!k) g1 := by
  show Wo (stT (ev tb n) (.notE a) g) Q ↔ Wo _ _
  simp only [stT, wo_map]
  exact ⟨fun ⟨c, h, q⟩ => ⟨c.1, c.2, h, q⟩, fun ⟨a, b, h, q⟩ => ⟨(a, b), h, q⟩⟩
theorem wt_cmp {op : CmpOp} {a b : IE} {Q : Bool → G → Prop} : WT tb (n + 1) (.cmp op a b) g Q ↔ WE tb (n + 1) (.cmp op a b) g fun r g1 => match r with | .d (.bool k) => Q k g1 | _ => False := by
  show Wo (stT (ev tb n) (.cmp op a b) g) Q ↔ Wo (stE (ev tb n) (.cmp op a b) g) _
  simp only [stT]
  cases stE (ev tb n) (.cmp op a b) g with
  | none => simp only [wo_none]
  | some t =>
    obtain ⟨r, g1⟩ := t
    simp only [wo_some]
    cases r <;> (try simp only [wo_none])
    rename_i x
    cases x <;> (try simp only [wo_none, wo_some])
theorem wt_chn {op op' : CmpOp} {a b c : IE} {Q : Bool → G → Prop} : WT tb (n + 1) (.chn op op' a b c) g Q ↔ WE tb (n + 1) (.chn op op' a b c) g fun r g1 => match r with | .d (.bool k) => Q k g1 | _ => False := by
  show Wo (stT (ev tb n) (.chn op op' a b c) g) Q ↔ Wo (stE (ev tb n) (.chn op op' a b c) g) _
  simp only [stT]
  cases stE (ev tb n) (.chn op op' a b c) g with
  | none => simp only [wo_none]
  | some t =>
    obtain ⟨r, g1⟩ := t
    simp only [wo_some]
    cases r <;> (try simp only [wo_none])
    rename_i x
    cases x <;> (try simp only [wo_none, wo_some])
def plainIE : IE → Bool
  | .bop .. | .notE .. | .cmp .. | .chn .. | .ife .. => false
  | _ => true
theorem wt_any {a : IE} {Q : Bool → G → Prop} (h : plainIE a = true) : WT tb (n + 1) a g Q ↔ WR tb n a g fun x g1 => So (truD x) fun k => Q k g1 := by
  rw [wr_iff]
  have e : stT (ev tb n) a g = (match rd1 (ev tb n) a g with
    | none => none
    | some (x, g1) => (truD x).map fun b => (b, g1)) := by cases a <;> first | rfl | cases h
  show Wo (stT (ev tb n) a g) Q ↔ _
  rw [e]
  cases rd1 (ev tb n) a g with
  | none => simp only [wo_none]
  | some t => obtain ⟨x, g1⟩ := t; simp only [wo_some, wo_map]; rfl
theorem wt_call {f : Nat} {es : List IE} {Q : Bool → G → Prop} : WT tb (n + 1) (.call f es) g Q ↔ WR tb n (.call f es) g fun x g1 => So (truD x) fun k => Q k g1 := wt_any rfl
theorem wt_bi1 {b : Bi} {a : IE} {Q : Bool → G → Prop} : WT tb (n + 1) (.bi1 b a) g Q ↔ WR tb n (.bi1 b a) g fun x g1 => So (truD x) fun k => Q k g1 := wt_any rfl
theorem wt_slot {i : Nat} {Q : Bool → G → Prop} : WT tb (n + 1) (.slot i) g Q ↔ WR tb n (.slot i) g fun x g1 => So (truD x) fun k => Q k g1 := wt_any rfl
theorem wt_idx {a i : IE} {Q : Bool → G → Prop} : WT tb (n + 1) (.idx a i) g Q ↔ WR tb n (.idx a i) g fun x g1 => So (truD x) fun k => Q k g1 := wt_any rfl
/-! ### lists of expressions -/
theorem wds_nil {Q : List D → G → Prop} : WDs tb n [] g Q ↔ Q [] g := wo_some
theorem wds_cons {e : IE} {es : List IE} {Q : List D → G → Prop} : WDs tb n (e :: es) g Q ↔ WKp tb n e g fun d g1 => WDs tb n es g1 fun ds g2 => Q (d :: ds) g2 := by
  rw [wkp_iff]
  show Wo (evDs (ev tb n) (e :: es) g) Q ↔ _
  unfold evDs kp1
  cases (ev tb n).e e g with
  | none => simp only [wo_none]
  | some rg =>
    obtain ⟨r, g1⟩ := rg
    simp only
    cases keepR r g1 with
    | none => simp only [wo_none]
    | some t =>
      obtain ⟨d, g2⟩ := t
      simp only [wo_some, WDs]
      cases evDs (ev tb n) es g2 with
      | none => simp only [wo_none]
      | some t => obtain ⟨ds, g3⟩ := t; simp only [wo_some]
theorem was_nil {Q : List Sv → G → Prop} : WAs tb n [] g Q ↔ Q [] g := wo_some
theorem was_cons {e : IE} {es : List IE} {Q : List Sv → G → Prop} : WAs tb n (e :: es) g Q ↔ WE tb n e g fun r g1 => Wo (keepS r g1) fun t g2 => WAs tb n es g2 fun ds g3 => Q (t :: ds) g3 := by
  show Wo (evAs (ev tb n) (e :: es) g) Q ↔ Wo _ _
  unfold evAs
  cases (ev tb n).e e g with
  | none => simp only [wo_none]
  | some rg =>
    obtain ⟨r, g1⟩ := rg
    simp only [wo_some]
    cases keepS r g1 with
    | none => simp only [wo_none]
    | some t =>
      obtain ⟨d, g2⟩ := t
      simp only [wo_some, WAs]
      cases evAs (ev tb n) es g2 with
      | none => simp only [wo_none]
      | some t => obtain ⟨ds, g3⟩ := t; simp only [wo_some]
/-! ### what is walked -/
theorem wits_seq {e : IE} {Q : List D → G → Prop} : WIts tb n .seq [e] g Q ↔ WKp tb n e g fun x g1 => So (seqD x) fun ds => Q ds g1 := by
  rw [wkp_iff]
  show Wo (itsD (ev tb n) .seq [e] g) Q ↔ _
  simp only [itsD]
  cases kp1 (ev tb n) e g with
  | none => simp only [wo_none]
  | some t => obtain ⟨x, g1⟩ := t; simp only [wo_some, wo_map]; rfl
theorem wits_rng {es : List IE} {Q : List D → G → Prop} : WIts tb n .rng es g Q ↔ WDs tb n es g fun ds g1 => So (rngD ds) fun xs => Q xs g1 := by
  show Wo (itsD (ev tb n) .rng es g) Q ↔ Wo _ _
  simp only [itsD]
  cases evDs (ev tb n) es g with
  | none => simp only [wo_none]
  | some t => obtain ⟨x, g1⟩ := t; simp only [wo_some, wo_map]; rfl
theorem wits_enu {e : IE} {Q : List D → G → Prop} : WIts tb n .enu [e] g Q ↔ WKp tb n e g fun x g1 => match x with | .list ds => Q (enuD ds) g1 | .tuple ds => Q (enuD ds) g1 | _ => False := by
  rw [wkp_iff]
  show Wo (itsD (ev tb n) .enu [e] g) Q ↔ _
  simp only [itsD]
  cases kp1 (ev tb n) e g with
  | none => simp only [wo_none]
  | some t => obtain ⟨x, g1⟩ := t; cases x <;> simp only [wo_some, wo_none]
theorem wits_zip {a b : IE} {Q : List D → G → Prop} : WIts tb n .zip [a, b] g Q ↔ WDs tb n [a, b] g fun ds g1 => match ds with | [.list xs, .list ys] => Q (zipD xs ys) g1 | [.tuple xs, .tuple ys] => Q (zipD xs ys) g1 | _ => False := by
  show Wo (itsD (ev tb n) .zip [a, b] g) Q ↔ Wo _ _
  simp only [itsD]
  cases evDs (ev tb n) [a, b] g with
  | none => simp only [wo_none]
  | some t =>
    obtain ⟨ds, g1⟩ := t
    simp only [wo_some]
    split <;> rename_i h
    · cases h; simp only [wo_some]
    · cases h; simp only [wo_some]
    · rename_i h2
      rw [wo_none]
      split
      · exact absurd rfl (h2 _ _ _)
      · exact absurd rfl (h _ _ _)
      · exact Iff.rfl
/-! ### calls -/
theorem wc_def {f : Nat} {as : List Sv} {p : Option (List D)} {fd : FnD} {Q : R → Option (List D) → Prop} (hf : tb[f]? = some fd) (hl : as.length = fd.ps) :
    WC tb (n + 1) f as p Q ↔ WB tb n fd.body { env := as.map some ++ List.replicate (fd.n - fd.ps) none, pen := p } fun fl g => g.pen.isSome = p.isSome ∧ match fl with
      | .nx => Q (.d .none) g.pen
      | .ret r => Q (match r with | .bo _ xs => .fr xs | r => r) g.pen := by
  show Wo (stC tb (ev tb n) f as p) Q ↔ Wo _ _
  unfold stC
  simp only [hf, if_pos hl]
  cases (ev tb n).ss fd.body { env := as.map some ++ List.replicate (fd.n - fd.ps) none, pen := p } with
  | none => simp only [wo_none]
  | some t =>
    obtain ⟨fl, g⟩ := t
    simp only [wo_some]
    cases fl with
    | nx =>
      show Wo (retC p (.d .none) g) Q ↔ _
      unfold retC
      by_cases h : g.pen.isSome = p.isSome
      · rw [if_pos h, wo_some]; exact ⟨fun q => ⟨h, q⟩, fun q => q.2⟩
      · rw [if_neg h, wo_none]; exact ⟨False.elim, fun q => h q.1⟩
    | ret r =>
      show Wo (retC p r g) Q ↔ _
      unfold retC
      by_cases h : g.pen.isSome = p.isSome
      · rw [if_pos h, wo_some]; exact ⟨fun q => ⟨h, q⟩, fun q => q.2⟩
      · rw [if_neg h, wo_none]; exact ⟨False.elim, fun q => h q.1⟩
theorem wc_imp {f : Nat} {as : List Sv} {p : Option (List D)} {Q Q' : R → Option (List D) → Prop} (h : WC tb n f as p Q) (k : ∀ r q, Q r q → Q' r q) : WC tb n f as p Q' := wo_imp h k
/-! ### statements -/
theorem wb_nil {Q : Fl → G → Prop} : WB tb (n + 1) [] g Q ↔ Q .nx g := wo_some
def WS (tb : List FnD) (n : Nat) (s : IS) (g : G) (Q : Fl → G → Prop) : Prop := Wo (stS (ev tb n) s g) Q
theorem wb_cons {s : IS} {ss : List IS} {Q : Fl → G → Prop} : WB tb (n + 1) (s :: ss) g Q ↔ WS tb n s g fun fl g1 => match fl with | .nx => WB tb n ss g1 Q | .ret r => Q (.ret r) g1 := by
  show Wo (stSs (ev tb n) (s :: ss) g) Q ↔ Wo _ _
  have e : stSs (ev tb n) (s :: ss) g = (match stS (ev tb n) s g with
    | none => none
    | some (.nx, g1) => (ev tb n).ss ss g1
    | some (.ret r, g1) => some (.ret r, g1)) := rfl
  rw [e]
  generalize stS (ev tb n) s g = o
  match o with
  | none => simp only [wo_none]
  | some (.nx, g1) => simp only [wo_some, WB]
  | some (.ret r, g1) => simp only [wo_some]
theorem ws_set {i : Nat} {e : IE} {Q : Fl → G → Prop} : WS tb n (.set i e) g Q ↔ WE tb (n + 1) e g fun r g1 => Wo (keepR r g1) fun d g2 => Q .nx (setD g2 i d) := by
  show Wo (stS (ev tb n) (.set i e) g) Q ↔ Wo (stE (ev tb n) e g) _
  simp only [stS]
  cases stE (ev tb n) e g with
  | none => simp only [wo_none]
  | some t =>
    obtain ⟨r, g1⟩ := t
    simp only [wo_some, wo_map]
    exact ⟨fun ⟨c, h, q⟩ => ⟨c.1, c.2, h, q⟩, fun ⟨a, b, h, q⟩ => ⟨(a, b), h, q⟩⟩
theorem ws_own {i : Nat} {e : IE} {Q : Fl → G → Prop} : WS tb n (.own i e) g Q ↔ WE tb (n + 1) e g fun r g1 => match r with | .fr xs => Q .nx (setOwn g1 i xs) | _ => False := by
  show Wo (stS (ev tb n) (.own i e) g) Q ↔ Wo (stE (ev tb n) e g) _
  simp only [stS]
  cases stE (ev tb n) e g with
  | none => simp only [wo_none]
  | some t => obtain ⟨r, g1⟩ := t; cases r <;> simp only [wo_some, wo_none]
theorem ws_pen {i : Nat} {e : IE} {Q : Fl → G → Prop} : WS tb n (.pen i e) g Q ↔ WE tb (n + 1) e g fun r g1 => match r with | .fr xs => g1.pen = none ∧ Q .nx { env := g1.env.set i (some .pen), pen := some xs } | _ => False := by
  show Wo (stS (ev tb n) (.pen i e) g) Q ↔ Wo (stE (ev tb n) e g) _
  simp only [stS]
  cases stE (ev tb n) e g with
  | none => simp only [wo_none]
  | some t =>
    obtain ⟨r, g1⟩ := t
    cases r <;> simp only [wo_some, wo_none]
    cases h : g1.pen with
    | none => simp only [Option.isSome_none, Bool.false_eq_true, if_false, wo_some, true_and]
    | some q => simp only [Option.isSome_some, if_true, wo_none, reduceCtorEq, false_and]
theorem ws_unp {is : List Nat} {e : IE} {Q : Fl → G → Prop} : WS tb n (.unp is e) g Q ↔ WKp tb n e g fun x g1 => match x with | .tuple ds => So (setDs g1 is ds) fun g2 => Q .nx g2 | _ => False := by
  rw [wkp_iff]
  show Wo (stS (ev tb n) (.unp is e) g) Q ↔ _
  simp only [stS]
  unfold kp1
  cases (ev tb n).e e g with
  | none => simp only [wo_none]
  | some t =>
    obtain ⟨r, g1⟩ := t
    simp only
    cases keepR r g1 with
    | none => simp only [wo_none]
    | some t => obtain ⟨x, g2⟩ := t; cases x <;> simp only [wo_some, wo_none, wo_map] <;> rfl
theorem ws_par {i j : Nat} {oi oj : Bool} {a b : IE} {Q : Fl → G → Prop} : WS tb n (.par i j oi oj a b) g Q ↔ WE tb n a g fun r1 g0 => Wo (keepO oi r1 g0) fun s1 g1 => WE tb n b g1 fun r2 g2 => Wo (keepO oj r2 g2) fun s2 g3 => Q .nx { g3 with env := (g3.env.set i (some s1)).set j (some s2) } := by
  show Wo (stS (ev tb n) (.par i j oi oj a b) g) Q ↔ Wo _ _
  simp only [stS]
  cases (ev tb n).e a g with
  | none => simp only [wo_none]
  | some t =>
    obtain ⟨r1, g0⟩ := t
    simp only [wo_some]
    cases keepO oi r1 g0 with
    | none => simp only [wo_none]
    | some t =>
      obtain ⟨s1, g1⟩ := t
      simp only [wo_some, WE]
      cases (ev tb n).e b g1 with
      | none => simp only [wo_none]
      | some t =>
        obtain ⟨r2, g2⟩ := t
        simp only [wo_some]
        cases keepO oj r2 g2 with
        | none => simp only [wo_none]
        | some t => obtain ⟨s2, g3⟩ := t; simp only [wo_some]
def isOwn : Option (Option Sv) → Prop
  | some (some (.own _)) => True
  | _ => False
theorem ws_app {i : Nat} {e : IE} {Q : Fl → G → Prop} : WS tb n (.app i e) g Q ↔ isOwn g.env[i]? ∧ WKp tb n e g fun d g2 => match g2.env[i]? with | some (some (.own xs)) => xs.length < szL ∧ Q .nx (setOwn g2 i (xs ++ [d])) | _ => False := by
  rw [wkp_iff]
  show Wo (stS (ev tb n) (.app i e) g) Q ↔ _
  simp only [stS]
  unfold kp1
  generalize g.env[i]? = o
  match o with
  | some (some (.d x)) => simp only [wo_none, isOwn, false_and]
  | some (some (.scr x)) => simp only [wo_none, isOwn, false_and]
  | some (some .pen) => simp only [wo_none, isOwn, false_and]
  | some none => simp only [wo_none, isOwn, false_and]
  | none => simp only [wo_none, isOwn, false_and]
  | some (some (.own x)) =>
    simp only [isOwn, true_and]
    cases (ev tb n).e e g with
    | none => simp only [wo_none]
    | some t =>
      obtain ⟨r, g1⟩ := t
      simp only
      cases keepR r g1 with
      | none => simp only [wo_none]
      | some t =>
        obtain ⟨d, g2⟩ := t
        simp only [wo_some]
        generalize g2.env[i]? = o
        match o with
        | some (some (.d x)) => simp only [wo_none]
        | some (some (.scr x)) => simp only [wo_none]
        | some (some .pen) => simp only [wo_none]
        | some none => simp only [wo_none]
        | none => simp only [wo_none]
        | some (some (.own xs)) =>
          simp only
          by_cases h : xs.length < szL
          · rw [if_pos h, wo_some]; exact ⟨fun q => ⟨h, q⟩, fun q => q.2⟩
          · rw [if_neg h, wo_none]; exact ⟨False.elim, fun q => h q.1⟩
theorem ws_exp {e : IE} {Q : Fl → G → Prop} : WS tb n (.exp e) g Q ↔ WE tb n e g fun _ g1 => Q .nx g1 := by
  show Wo (stS (ev tb n) (.exp e) g) Q ↔ Wo _ _
  simp only [stS, wo_map]
  exact ⟨fun ⟨c, h, q⟩ => ⟨c.1, c.2, h, q⟩, fun ⟨a, b, h, q⟩ => ⟨(a, b), h, q⟩⟩
theorem ws_ret {e : IE} {Q : Fl → G → Prop} : WS tb n (.ret e) g Q ↔ WE tb n e g fun r g1 => Q (.ret r) g1 := by
  show Wo (stS (ev tb n) (.ret e) g) Q ↔ Wo _ _
  simp only [stS, wo_map]
  exact ⟨fun ⟨c, h, q⟩ => ⟨c.1, c.2, h, q⟩, fun ⟨a, b, h, q⟩ => ⟨(a, b), h, q⟩⟩
theorem ws_iff {t : IE} {a b : List IS} {Q : Fl → G → Prop} : WS tb n (.iff t a b) g Q ↔ WT tb n t g fun k g1 => if k = true then WB tb n a g1 Q else WB tb n b g1 Q := by
  show Wo (stS (ev tb n) (.iff t a b) g) Q ↔ Wo _ _
  simp only [stS]
  cases (ev tb n).t t g with
  | none => simp only [wo_none]
  | some kg => obtain ⟨k, g1⟩ := kg; cases k <;> simp only [wo_some, WB, Bool.false_eq_true, if_false, if_true]
theorem ws_for {tg : Tg} {ik : Ik} {its : List IE} {body : List IS} {Q : Fl → G → Prop} : WS tb n (.for_ tg ik its body) g Q ↔ WIts tb n ik its g fun ds g1 => WFor tb n tg body ds g1 Q := by
  show Wo (stS (ev tb n) (.for_ tg ik its body) g) Q ↔ Wo _ _
  simp only [stS]
  cases itsD (ev tb n) ik its g with
  | none => simp only [wo_none]
  | some t => obtain ⟨ds, g1⟩ := t; simp only [wo_some, WFor]
theorem ws_sto {i : Nat} {k e : IE} {Q : Fl → G → Prop} : WS tb n (.sto i k e) g Q ↔ WKp tb n e g fun d g2 => (∃ v, g2.env[i]? = some (some v)) ∧ WR tb n k g2 fun y g3 => match y with
    | .int j => (match g3.env[i]? with
      | some (some (.own xs)) => So (ixN xs.length j) fun n => Q .nx (setOwn g3 i (xs.set n d))
      | some (some .pen) => So g3.pen fun xs => So (ixN xs.length j) fun n => Q .nx { g3 with pen := some (xs.set n d) }
      | _ => False)
    | _ => False := by
  rw [wkp_iff]
  show Wo (stS (ev tb n) (.sto i k e) g) Q ↔ _
  simp only [stS, wr_iff]
  unfold kp1
  cases (ev tb n).e e g with
  | none => simp only [wo_none]
  | some t =>
    obtain ⟨r, g1⟩ := t
    simp only
    cases keepR r g1 with
    | none => simp only [wo_none]
    | some t =>
      obtain ⟨d, g2⟩ := t
      simp only [wo_some]
      have go : ∀ v, g2.env[i]? = some (some v) → (Wo (match rd1 (ev tb n) k g2 with
          | some (.int j, g3) => (match g3.env[i]? with
            | some (some (.own xs)) => (ixN xs.length j).map fun n => (Fl.nx, setOwn g3 i (xs.set n d))
            | some (some .pen) => (match g3.pen with
              | none => none
              | some xs => (ixN xs.length j).map fun n => (Fl.nx, { g3 with pen := some (xs.set n d) }))
            | _ => none)
          | _ => none) Q ↔ Wo (rd1 (ev tb n) k g2) fun y g3 => match y with
            | .int j => (match g3.env[i]? with
              | some (some (.own xs)) => So (ixN xs.length j) fun n => Q .nx (setOwn g3 i (xs.set n d))
              | some (some .pen) => So g3.pen fun xs => So (ixN xs.length j) fun n => Q .nx { g3 with pen := some (xs.set n d) }
              | _ => False)
            | _ => False) := fun v _ => by
        cases rd1 (ev tb n) k g2 with
        | none => simp only [wo_none]
        | some t =>
          obtain ⟨y, g3⟩ := t
          cases y <;> simp only [wo_none, wo_some]
          generalize g3.env[i]? = o
          match o with
          | some (some (.d x)) => simp only [wo_none]
          | some (some (.scr x)) => simp only [wo_none]
          | some none => simp only [wo_none]
          | none => simp only [wo_none]
          | some (some (.own xs)) => simp only [wo_map]; rfl
          | some (some .pen) =>
            simp only
            cases g3.pen with
            | none => simp only [wo_none, so_none]
            | some xs => simp only [wo_map, so_some]; rfl
      cases ho : g2.env[i]? with
      | none => simp only [wo_none, reduceCtorEq, exists_false, false_and]
      | some o =>
        cases o with
        | none => simp only [wo_none, Option.some.injEq, reduceCtorEq, exists_false, false_and]
        | some v =>
          have e1 : (∃ v', some (some v) = some (some v')) := ⟨v, rfl⟩
          simp only [e1, true_and]
          exact go v ho
theorem wfor_nil {tg : Tg} {body : List IS} {Q : Fl → G → Prop} : WFor tb n tg body [] g Q ↔ Q .nx g := wo_some
theorem wfor_cons {tg : Tg} {body : List IS} {x : D} {xs : List D} {Q : Fl → G → Prop} : WFor tb n tg body (x :: xs) g Q ↔ So (asgT tg x g) fun g1 => WB tb n body g1 fun fl g2 => match fl with | .nx => WFor tb n tg body xs g2 Q | .ret r => Q (.ret r) g2 := by
  show Wo (evFor (ev tb n) tg body (x :: xs) g) Q ↔ _
  unfold evFor
  cases asgT tg x g with
  | none => simp only [wo_none, so_none]
  | some g1 =>
    simp only [so_some, WB]
    cases (ev tb n).ss body g1 with
    | none => simp only [wo_none]
    | some t => obtain ⟨fl, g2⟩ := t; cases fl <;> simp only [wo_some, WFor]
theorem wlc_nil {elt : IE} {tg : Tg} {cond : Option IE} {own : List Nat} {acc : List D} {Q : List D → G → Prop} : WLc tb n elt tg cond own [] acc g Q ↔ Q acc { g with env := wipeE g.env own } := wo_some
def WCnd (tb : List FnD) (n : Nat) (cond : Option IE) (g : G) (Q : Bool → G → Prop) : Prop := match cond with
  | none => Q true g
  | some c => WT tb n c g Q
theorem wlc_cons {elt : IE} {tg : Tg} {cond : Option IE} {own : List Nat} {x : D} {xs acc : List D} {Q : List D → G → Prop} : WLc tb n elt tg cond own (x :: xs) acc g Q ↔ So (asgT tg x { g with env := wipeE g.env own }) fun g1 => WCnd tb n cond g1 fun k g2 => if k = true then
      WKp tb n elt g2 fun d g4 => acc.length < szL ∧ WLc tb n elt tg cond own xs (acc ++ [d]) g4 Q
    else WLc tb n elt tg cond own xs acc g2 Q := by
  show Wo (evLc (ev tb n) elt tg cond own (x :: xs) acc g) Q ↔ _
  unfold evLc
  cases asgT tg x { g with env := wipeE g.env own } with
  | none => simp only [wo_none, so_none]
  | some g1 =>
    simp only [so_some, wkp_iff]
    have tail : ∀ g2, Wo (match (ev tb n).e elt g2 with
        | none => none
        | some (r, g3) => match keepR r g3 with
          | none => none
          | some (d, g4) => if acc.length < szL then evLc (ev tb n) elt tg cond own xs (acc ++ [d]) g4 else none) Q ↔ Wo (kp1 (ev tb n) elt g2) fun d g4 => acc.length < szL ∧ WLc tb n elt tg cond own xs (acc ++ [d]) g4 Q := fun g2 => by
      unfold kp1
      cases (ev tb n).e elt g2 with
      | none => simp only [wo_none]
      | some t =>
        obtain ⟨r, g3⟩ := t
        simp only
        cases keepR r g3 with
        | none => simp only [wo_none]
        | some t =>
          obtain ⟨d, g4⟩ := t
          simp only [wo_some, WLc]
          by_cases h : acc.length < szL
          · rw [if_pos h]; exact ⟨fun q => ⟨h, q⟩, fun q => q.2⟩
          · rw [if_neg h, wo_none]; exact ⟨False.elim, fun q => h q.1⟩
    cases cond with
    | none =>
      simp only [WCnd, if_true]
      exact tail g1
    | some c =>
      simp only [WCnd, WT]
      cases (ev tb n).t c g1 with
      | none => simp only [wo_none]
      | some t =>
        obtain ⟨k, g2⟩ := t
        cases k with
        | true => simp only [wo_some, if_true]; exact tail g2
        | false => simp only [wo_some, Bool.false_eq_true, if_false, WLc]
end
end DL
end
section
set_option Elab.async false
set_option linter.all false
set_option maxRecDepth 100000
set_option autoImplicit false
set_option maxHeartbeats 4000000
/-! DL, part x: one step of a run. -/
namespace DL
open PySem PySem.Spec L2
theorem slot_d {g : G} {i : Nat} {x : D} {Q : R → G → Prop} (h : g.env[i]? = some (some (.d x))) (q : Q (.d x) g) : slotP g i Q := by unfold slotP; rw [h]; exact q
theorem slot_own {g : G} {i : Nat} {x : List D} {Q : R → G → Prop} (h : g.env[i]? = some (some (.own x))) (q : Q (.bo i x) g) : slotP g i Q := by unfold slotP; rw [h]; exact q
theorem slot_scr {g : G} {i : Nat} {x : List Int} {Q : R → G → Prop} (h : g.env[i]? = some (some (.scr x))) (q : Q (.scr x) g) : slotP g i Q := by unfold slotP; rw [h]; exact q
theorem slot_pen {g : G} {i : Nat} {Q : R → G → Prop} (h : g.env[i]? = some (some .pen)) (hp : g.pen.isSome = true) (q : Q .pen g) : slotP g i Q := by unfold slotP; rw [h]; exact ⟨hp, q⟩
theorem so_rfl {α : Type} {o : Option α} {a : α} {Q : α → Prop} (h : o = some a) (q : Q a) : So o Q := ⟨a, h, q⟩
theorem so_ite {α : Type} {c : Prop} {inst : Decidable c} {a : α} {Q : α → Prop} (h : c) (q : Q a) : So (@ite _ c inst (some a) none) Q := so_if.mpr ⟨h, q⟩
theorem ite_t {A B : Prop} (h : A) : if true = true then A else B := by rw [if_pos rfl]; exact h
theorem ite_f {A B : Prop} (h : B) : if false = true then A else B := by rw [if_neg Bool.false_ne_true]; exact h
theorem ite_d {p A B : Prop} [Decidable p] (h1 : p → A) (h2 : ¬ p → B) : if decide p = true then A else B := by
  by_cases h : p
  · rw [if_pos (decide_eq_true h)]; exact h1 h
  · rw [if_neg (by rw [decide_eq_false h]; exact Bool.false_ne_true)]; exact h2 h
theorem ite_b {b : Bool} {A B : Prop} (h1 : b = true → A) (h2 : b = false → B) : if b = true then A else B := by
  cases b with
  | true => exact ite_t (h1 rfl)
  | false => exact ite_f (h2 rfl)
theorem wr_of {tb : List FnD} {n : Nat} {g : G} {ir : IE} {Q : D → G → Prop} (h : WE tb n ir g fun r g1 => So (rdR r) fun x => Q x g1) : WR tb n ir g Q := h
theorem wkp_of {tb : List FnD} {n : Nat} {g : G} {ir : IE} {Q : D → G → Prop} (h : WE tb n ir g fun r g1 => Wo (keepR r g1) Q) : WKp tb n ir g Q := h
theorem wo_rfl {α β : Type} {o : Option (α × β)} {a : α} {b : β} {Q : α → β → Prop} (h : o = some (a, b)) (q : Q a b) : Wo o Q := ⟨a, b, h, q⟩
theorem wp_n {tb : List FnD} {n : Nat} {g : G} {Q : Option Int → G → Prop} (h : Q none g) : WP tb n none g Q := h
theorem wp_s {tb : List FnD} {n : Nat} {g : G} {e : IE} {Q : Option Int → G → Prop} (h : WR tb n e g fun x g1 => match x with | .int i => Q (some i) g1 | _ => False) : WP tb n (some e) g Q := h
theorem rows_at {P : Int → Prop} {l : List D} {i : Int} (hl : ∀ d ∈ l, ∃ z, d = .int z ∧ P z) (h0 : 0 ≤ i) (h1 : i < l.length) : ∃ z, L2.atI l i = some (.int z) ∧ P z := by
  obtain ⟨k, rfl⟩ := Int.eq_ofNat_of_zero_le h0
  have hk : k < l.length := by omega
  obtain ⟨z, e, hz⟩ := hl l[k] (List.getElem_mem hk)
  exact ⟨z, L2.atI_nat (by rw [List.getElem?_eq_getElem hk, e]), hz⟩
theorem log_lt {i : Int} {k : Nat} (h0 : i.natAbs < 2 ^ k) (hk : 0 < k) : i.natAbs.log2 < k := by
  by_cases h : i.natAbs = 0
  · rw [h]; exact hk
  · exact (Nat.log2_lt h).mpr h0
theorem log_int {i : Int} {k : Nat} (h0 : 0 ≤ i) (h : i < 2 ^ k) (hk : 0 < k) : i.natAbs.log2 < k := by
  refine log_lt ?_ hk
  have e : ((i.natAbs : Nat) : Int) = i := Int.natAbs_of_nonneg h0
  have : ((i.natAbs : Nat) : Int) < ((2 ^ k : Nat) : Int) := by rw [e]; simpa using h
  exact Int.ofNat_lt.mp this
theorem sto_pen {tb : List FnD} {n : Nat} {g : G} {i : Nat} {k e : IE} {Q : Fl → G → Prop} (h : WKp tb n e g fun d g2 => g2.env[i]? = some (some .pen) ∧ WR tb n k g2 fun y g3 => ∃ j xs m, y = .int j ∧ g3.env[i]? = some (some .pen) ∧ g3.pen = some xs ∧ ixN xs.length j = some m ∧ Q .nx { g3 with pen := some (xs.set m d) }) : WS tb n (.sto i k e) g Q := by
  rw [ws_sto]
  refine wo_imp h fun r g1 q => wo_imp q fun d g2 ⟨h1, q⟩ => ⟨⟨_, h1⟩, wo_imp q fun r2 g3 ⟨y, e1, j, xs, m, e2, e3, e4, e5, q⟩ => ⟨y, e1, ?_⟩⟩
  subst e2
  simp only [e3, e4]
  exact ⟨xs, rfl, m, e5, q⟩
theorem sto_own {tb : List FnD} {n : Nat} {g : G} {i : Nat} {k e : IE} {Q : Fl → G → Prop} (h : WKp tb n e g fun d g2 => (∃ xs, g2.env[i]? = some (some (.own xs))) ∧ WR tb n k g2 fun y g3 => ∃ j xs m, y = .int j ∧ g3.env[i]? = some (some (.own xs)) ∧ ixN xs.length j = some m ∧ Q .nx (setOwn g3 i (xs.set m d))) : WS tb n (.sto i k e) g Q := by
  rw [ws_sto]
  refine wo_imp h fun r g1 q => wo_imp q fun d g2 ⟨⟨_, h1⟩, q⟩ => ⟨⟨_, h1⟩, wo_imp q fun r2 g3 ⟨y, e1, j, xs, m, e2, e3, e5, q⟩ => ⟨y, e1, ?_⟩⟩
  subst e2
  simp only [e3]
  exact ⟨m, e5, q⟩
theorem app_own {tb : List FnD} {n : Nat} {g : G} {i : Nat} {e : IE} {Q : Fl → G → Prop} (h0 : isOwn g.env[i]?) (h : WKp tb n e g fun d g2 => ∃ xs, g2.env[i]? = some (some (.own xs)) ∧ xs.length < szL ∧ Q .nx (setOwn g2 i (xs ++ [d]))) : WS tb n (.app i e) g Q := by
  rw [ws_app]
  refine ⟨h0, wo_imp h fun r g1 q => wo_imp q fun d g2 ⟨xs, e1, q⟩ => ?_⟩
  simp only [e1]
  exact q
theorem wfor_inv {tb : List FnD} {n : Nat} {tg : Tg} {body : List IS} {Q : Fl → G → Prop} (I : List D → G → Prop)
    (step : ∀ d ds g, I (d :: ds) g → So (asgT tg d g) fun g1 => WB tb n body g1 fun fl g2 => match fl with | .nx => I ds g2 | .ret r => Q (.ret r) g2) (hq : ∀ g, I [] g → Q .nx g) : ∀ {ds : List D} {g : G}, I ds g → WFor tb n tg body ds g Q
  | [], g, h => wfor_nil.mpr (hq g h)
  | d :: ds, g, h => by
    rw [wfor_cons]
    obtain ⟨g1, e, q⟩ := step d ds g h
    refine ⟨g1, e, wo_imp q fun fl g2 z => ?_⟩
    cases fl with
    | nx => exact wfor_inv I step hq z
    | ret r => exact z
theorem ite_nd {p A B : Prop} [Decidable p] (h1 : ¬ p → A) (h2 : p → B) : if (!decide p) = true then A else B := by
  by_cases h : p
  · rw [decide_eq_true h]; exact ite_f (h2 h)
  · rw [decide_eq_false h]; exact ite_t (h1 h)
theorem ite_ndf {p A B : Prop} [Decidable p] (h1 : ¬ p → B) (h2 : p → A) : if (!decide p) = false then A else B := by
  by_cases h : p
  · rw [decide_eq_true h, if_pos (show (!true) = false from rfl)]; exact h2 h
  · rw [decide_eq_false h, if_neg (show ¬ (!false) = false by decide)]; exact h1 h
theorem ite_df {p A B : Prop} [Decidable p] (h1 : p → B) (h2 : ¬ p → A) : if decide p = false then A else B := by
  by_cases h : p
  · rw [decide_eq_true h, if_neg (show ¬ true = false by decide)]; exact h1 h
  · rw [decide_eq_false h, if_pos (show false = false from rfl)]; exact h2 h
theorem ite_bf {b : Bool} {A B : Prop} (h1 : b = true → B) (h2 : b = false → A) : if b = false then A else B := by
  cases b with
  | true => rw [if_neg (show ¬ true = false by decide)]; exact h1 rfl
  | false => rw [if_pos (show false = false from rfl)]; exact h2 rfl
theorem ite_nb {b : Bool} {A B : Prop} (h1 : b = false → A) (h2 : b = true → B) : if (!b) = true then A else B := by
  cases b with
  | true => exact ite_f (h2 rfl)
  | false => exact ite_t (h1 rfl)
theorem wlc_inv {tb : List FnD} {n : Nat} {elt : IE} {tg : Tg} {cond : Option IE} {own : List Nat} {Q : List D → G → Prop} (I : List D → List D → G → Prop)
    (step : ∀ d ds acc g, I (d :: ds) acc g → So (asgT tg d { g with env := wipeE g.env own }) fun g1 => WCnd tb n cond g1 fun k g2 => if k = true then WKp tb n elt g2 fun x g4 => acc.length < szL ∧ I ds (acc ++ [x]) g4 else I ds acc g2)
    (hq : ∀ acc g, I [] acc g → Q acc { g with env := wipeE g.env own }) : ∀ {ds acc : List D} {g : G}, I ds acc g → WLc tb n elt tg cond own ds acc g Q
  | [], acc, g, h => wlc_nil.mpr (hq acc g h)
  | d :: ds, acc, g, h => by
    rw [wlc_cons]
    obtain ⟨g1, e, q⟩ := step d ds acc g h
    refine ⟨g1, e, ?_⟩
    have go : ∀ k g2, (if k = true then WKp tb n elt g2 fun x g4 => acc.length < szL ∧ I ds (acc ++ [x]) g4 else I ds acc g2) → (if k = true then WKp tb n elt g2 fun d g4 => acc.length < szL ∧ WLc tb n elt tg cond own ds (acc ++ [d]) g4 Q else WLc tb n elt tg cond own ds acc g2 Q) := fun k g2 z => by
      cases k with
      | true =>
        rw [if_pos rfl] at z ⊢
        exact wo_imp z fun r g3 z => wo_imp z fun x g4 z => ⟨z.1, wlc_inv I step hq z.2⟩
      | false =>
        rw [if_neg Bool.false_ne_true] at z ⊢
        exact wlc_inv I step hq z
    cases cond with
    | none => exact go true g1 q
    | some c => exact wo_imp q fun k g2 z => go k g2 z
/-- what holds between a statement and the rest -/
theorem wb_cut {tb : List FnD} {n : Nat} {g : G} {st : IS} {rest : List IS} {Q : Fl → G → Prop} (Mid : G → Prop) (h : WS tb n st g fun fl g1 => match fl with | .nx => Mid g1 | .ret r => Q (.ret r) g1) (k : ∀ g1, Mid g1 → WB tb n rest g1 Q) : WB tb (n + 1) (st :: rest) g Q := by
  rw [wb_cons]
  refine wo_imp h fun fl g1 q => ?_
  cases fl with
  | nx => exact k g1 q
  | ret r => exact q
/-- a product of two small ones may be written -/
theorem mul_small {i j : Int} (h0 : 0 ≤ i) (h1 : i < 2 ^ 90) (h2 : 0 ≤ j) (h3 : j < 2 ^ 90) : i.natAbs.log2 + j.natAbs.log2 < 1000000 := by
  have a := log_int h0 h1 (by omega)
  have b := log_int h2 h3 (by omega)
  omega
theorem cnd_n {tb : List FnD} {n : Nat} {g : G} {Q : Bool → G → Prop} (h : Q true g) : WCnd tb n none g Q := h
theorem cnd_s {tb : List FnD} {n : Nat} {c : IE} {g : G} {Q : Bool → G → Prop} (h : WT tb n c g Q) : WCnd tb n (some c) g Q := h
theorem so_id {α : Type} {o : Option α} {Q : α → Prop} (h : So o Q) : So o Q := h
theorem ite_y {b c : Bool} {inst : Decidable (b = c)} {A B : Prop} (h : b = c) (q : A) : @ite _ (b = c) inst A B := by rw [if_pos h]; exact q
theorem ite_n {b c : Bool} {inst : Decidable (b = c)} {A B : Prop} (h : b = !c) (q : B) : @ite _ (b = c) inst A B := by
  rw [if_neg (by subst h; cases c <;> simp)]
  exact q
theorem we_allG {tb : List FnD} {n : Nat} {g : G} {j i : Nat} {it : IE} {Q : R → G → Prop} (h : WE tb n it g fun r g1 => So (rdR r) fun x => ∃ a z, x = .str a ∧ g1.env[j]? = some (some (.d (.str z))) ∧ Q (.d (.bool (a.cps.toList.all fun ch => decide (ch ∈ z.cps.toList)))) g1) : WE tb (n + 1) (.allG (.slot j) i it) g Q := by
  obtain ⟨r, g1, e1, x, e2, a, z, rfl, e3, q⟩ := h
  have e4 : rd1 (ev tb n) it g = some (.str a, g1) := by
    unfold rd1
    rw [e1]
    simp only [e2, Option.map_some]
  refine ⟨_, _, ?_, q⟩
  show stE (ev tb n) (.allG (.slot j) i it) g = _
  simp only [stE, e4, e3]
theorem wt_allG {tb : List FnD} {n : Nat} {g : G} {a : IE} {j i : Nat} {Q : Bool → G → Prop} (h : WR tb n (.allG (.slot j) i a) g fun x g1 => So (truD x) fun k => Q k g1) : WT tb (n + 1) (.allG (.slot j) i a) g Q := (wt_any rfl).mpr h
theorem we_join {tb : List FnD} {n : Nat} {a b : IE} {g : G} {Q : R → G → Prop} : WE tb (n + 1) (.join a b) g Q ↔ WE tb n a g fun r1 g1 => WE tb n b g1 fun r2 g2 => So (rdR r1) fun x => So (rdR r2) fun y => match x, y with
    | .str x, .list ds => So (strsD ds) fun ys => (ys.map (·.length)).sum + ys.length * x.length ≤ szL ∧ Q (.d (.str (Txt.join x ys))) g2
    | _, _ => False := by
  show Wo (stE (ev tb n) (.join a b) g) Q ↔ _
  rw [← wr2_iff (Q := fun x y g2 => match x, y with
    | .str x, .list ds => So (strsD ds) fun ys => (ys.map (·.length)).sum + ys.length * x.length ≤ szL ∧ Q (.d (.str (Txt.join x ys))) g2
    | _, _ => False)]
  simp only [stE]
  cases rd2 (ev tb n) a b g with
  | none => simp only [wo_none]; exact ⟨False.elim, fun ⟨_, _, _, h, _⟩ => (by cases h)⟩
  | some t =>
    obtain ⟨x, y, g1⟩ := t
    have one : ∀ {P : D → D → G → Prop}, (∃ x' y' g', some (x, y, g1) = some (x', y', g') ∧ P x' y' g') ↔ P x y g1 := fun {P} => ⟨fun ⟨_, _, _, e, q⟩ => by cases e; exact q, fun q => ⟨_, _, _, rfl, q⟩⟩
    rw [one]
    cases x <;> cases y <;> simp only [wo_none]
    rename_i s1 ds
    cases strsD ds with
    | none => simp only [so_none, wo_none]
    | some k =>
      simp only [so_some]
      split
      · rename_i h; rw [wo_some]; exact ⟨fun q => ⟨h, q⟩, fun q => q.2⟩
      · rename_i h; rw [wo_none]; exact ⟨False.elim, fun q => h q.1⟩
theorem wb_id {tb : List FnD} {n : Nat} {ss : List IS} {g : G} {Q : Fl → G → Prop} (h : WB tb n ss g Q) : WB tb n ss g Q := h
theorem wc_id {tb : List FnD} {n f : Nat} {as : List Sv} {p : Option (List D)} {Q : R → Option (List D) → Prop} (h : WC tb n f as p Q) : WC tb n f as p Q := h
theorem wfor_id {tb : List FnD} {n : Nat} {tg : Tg} {body : List IS} {ds : List D} {g : G} {Q : Fl → G → Prop} (h : WFor tb n tg body ds g Q) : WFor tb n tg body ds g Q := h
theorem wlc_id {tb : List FnD} {n : Nat} {elt : IE} {tg : Tg} {cond : Option IE} {own : List Nat} {ds acc : List D} {g : G} {Q : List D → G → Prop} (h : WLc tb n elt tg cond own ds acc g Q) : WLc tb n elt tg cond own ds acc g Q := h
end DL
end
section
set_option Elab.async false
set_option linter.all false
set_option maxRecDepth 100000
set_option autoImplicit false
set_option maxHeartbeats 1000000
open PySem PySem.Spec
/-! CL: what the laws have in common: numbers drawn from the script. -/
namespace CL
open DL L2
local macro_rules | `(tactic| decreasing_tactic) => `(tactic| repeat (first | ((with_reducible apply slot_d); · exact rfl) | ((with_reducible apply so_rfl); · exact rfl) | ((with_reducible apply wo_rfl); · exact rfl) | ((with_reducible refine (wb_cons (s := IS.set _ _)).mpr ?_); try dsimp only [setD, setOwn, List.set_cons_zero, List.set_cons_succ]) | ((with_reducible refine (wb_cons (s := IS.ret _)).mpr ?_); try dsimp only [setD, setOwn, List.set_cons_zero, List.set_cons_succ]) | ((with_reducible refine (wb_cons (s := IS.sto _ _ _)).mpr ?_); try dsimp only [setD, setOwn, List.set_cons_zero, List.set_cons_succ]) | ((with_reducible refine (wb_cons (s := IS.app _ _)).mpr ?_); try dsimp only [setD, setOwn, List.set_cons_zero, List.set_cons_succ]) | ((with_reducible refine (wb_cons (s := IS.own _ _)).mpr ?_); try dsimp only [setD, setOwn, List.set_cons_zero, List.set_cons_succ]) | ((with_reducible refine (wb_cons (s := IS.exp _)).mpr ?_); try dsimp only [setD, setOwn, List.set_cons_zero, List.set_cons_succ]) | ((with_reducible refine (wb_cons (s := IS.unp _ _)).mpr ?_); try dsimp only [setD, setOwn, List.set_cons_zero, List.set_cons_succ]) | ((with_reducible refine (wb_cons (s := IS.par _ _ _ _ _ _)).mpr ?_); try dsimp only [setD, setOwn, List.set_cons_zero, List.set_cons_succ]) | ((with_reducible refine (wb_cons (s := IS.pen _ _)).mpr ?_); try dsimp only [setD, setOwn, List.set_cons_zero, List.set_cons_succ]) | ((with_reducible refine (wb_cons (s := IS.iff _ _ _) (ss := [])).mpr ?_); try dsimp only [setD, setOwn, List.set_cons_zero, List.set_cons_succ]) | with_reducible refine ws_set.mpr ?_ | with_reducible refine ws_ret.mpr ?_ | with_reducible refine ws_iff.mpr ?_ | with_reducible refine ws_own.mpr ?_ | with_reducible refine ws_for.mpr ?_ | with_reducible refine ws_exp.mpr ?_ | with_reducible refine ws_unp.mpr ?_ | with_reducible refine ws_par.mpr ?_ | with_reducible refine ws_pen.mpr ?_ | with_reducible refine wb_nil.mpr ?_ | with_reducible refine we_slot.mpr ?_ | with_reducible refine we_cst.mpr ?_ | with_reducible refine we_bin.mpr ?_ | with_reducible refine we_bi1.mpr ?_ | with_reducible refine we_cmp.mpr ?_ | with_reducible refine we_idx.mpr ?_ | with_reducible refine we_call.mpr ?_ | with_reducible refine we_bop.mpr ?_ | with_reducible refine we_not.mpr ?_ | with_reducible refine we_chn.mpr ?_ | with_reducible refine we_tup.mpr ?_ | with_reducible refine we_lst.mpr ?_ | with_reducible refine we_neg.mpr ?_ | with_reducible refine we_ife.mpr ?_ | with_reducible refine we_bi2.mpr ?_ | with_reducible refine we_rngL.mpr ?_ | with_reducible refine we_slc.mpr ?_ | with_reducible refine we_rev.mpr ?_ | with_reducible refine we_lc.mpr ?_ | with_reducible refine we_idxS.mpr ?_ | with_reducible refine wr_of ?_ | with_reducible refine wkp_of ?_ | with_reducible refine wp_n ?_ | with_reducible refine wp_s ?_ | with_reducible refine wds_cons.mpr ?_ | with_reducible refine wds_nil.mpr ?_ | with_reducible refine was_cons.mpr ?_ | with_reducible refine was_nil.mpr ?_ | with_reducible refine wt_bop.mpr ?_ | with_reducible refine wt_not.mpr ?_ | with_reducible refine wt_cmp.mpr ?_ | with_reducible refine wt_chn.mpr ?_ | with_reducible refine wt_call.mpr ?_ | with_reducible refine wt_bi1.mpr ?_ | with_reducible refine wt_slot.mpr ?_ | with_reducible refine wt_idx.mpr ?_ | with_reducible refine wits_seq.mpr ?_ | with_reducible refine wits_rng.mpr ?_ | with_reducible refine wits_enu.mpr ?_ | with_reducible refine wits_zip.mpr ?_ | with_reducible refine cnd_n ?_ | with_reducible refine cnd_s ?_ | with_reducible refine we_allG ?_ | with_reducible refine wt_allG ?_ | with_reducible refine we_join.mpr ?_ | ((with_reducible apply ite_y); · exact rfl) | ((with_reducible apply ite_n); · exact rfl) | with_reducible refine sto_pen ?_ | ((with_reducible apply slot_pen); · exact rfl; · exact rfl) | ((with_reducible apply slot_own); · exact rfl) | ((with_reducible apply slot_scr); · exact rfl) | ((with_reducible apply so_id); refine so_ite ?_ ?_; · (first | decide | omega | exact mul_small (by omega) (by omega) (by omega) (by omega))) | ((fail_if_success (first | with_reducible apply wb_id | with_reducible apply wc_id | with_reducible apply wfor_id | with_reducible apply wlc_id)); refine ⟨_, _, rfl, rfl, ?_⟩) | ((fail_if_success (first | with_reducible apply wb_id | with_reducible apply wc_id | with_reducible apply wfor_id | with_reducible apply wlc_id)); refine ⟨rfl, ?_⟩) | ((fail_if_success (first | with_reducible apply wb_id | with_reducible apply wc_id | with_reducible apply wfor_id | with_reducible apply wlc_id)); refine ⟨_, _, _, rfl, rfl, rfl, rfl, ?_⟩)))
def bSpread : List IS := [.iff (.cmp .GtE (.slot 0) (.bin .Pow (.cst (.int 10)) (.cst (.int 18)))) [.ret (.slot 0)] [], .set 2 (.lst [(.cst (.int 2147483629)), (.cst (.int 2147483587)), (.cst (.int 2147483579)), (.cst (.int 2147483563)), (.cst (.int 2147483549)), (.cst (.int 2147483543)), (.cst (.int 2147483497))]), .set 2 (.bin .Add (.slot 2) (.lst [(.cst (.int 2147483489)), (.cst (.int 2147483477)), (.cst (.int 2147483423)), (.cst (.int 2147483399)), (.cst (.int 2147483353)), (.cst (.int 2147483323))])), .set 3 (.bin .Add (.bin .Add (.bin .Mult (.bin .Mod (.bi1 .int (.slot 0)) (.cst (.int 1000000007))) (.bin .Add (.bin .Mult (.cst (.int 2)) (.slot 1)) (.cst (.int 69069)))) (.bin .Mult (.slot 1) (.cst (.int 40503)))) (.cst (.int 977))), .set 4 (.bin .Mod (.bi1 .int (.bin .Pow (.slot 3) (.cst (.int 3)))) (.idx (.slot 2) (.bin .Mod (.bi1 .int (.slot 1)) (.cst (.int 13))))), .set 5 (.bin .Add (.bin .Mod (.bi1 .int (.slot 0)) (.cst (.int 65537))) (.cst (.int 5))), .set 6 (.bin .Mod (.bi1 .int (.bin .Pow (.bin .Add (.bin .Mult (.slot 4) (.bin .Add (.slot 1) (.cst (.int 3)))) (.slot 5)) (.cst (.int 5)))) (.idx (.slot 2) (.bin .Mod (.bi1 .int (.bin .Add (.slot 1) (.cst (.int 5)))) (.cst (.int 13))))), .set 7 (.bin .Mod (.bi1 .int (.bin .Pow (.bin .Add (.bin .Add (.slot 6) (.bin .Mod (.bi1 .int (.slot 4)) (.cst (.int 1009)))) (.slot 1)) (.cst (.int 3)))) (.idx (.slot 2) (.bin .Mod (.bi1 .int (.bin .Add (.slot 1) (.cst (.int 7)))) (.cst (.int 13))))), .ret (.bin .Add (.bin .Mult (.bin .Add (.bin .Mult (.slot 4) (.cst (.int 2147483647))) (.slot 6)) (.cst (.int 2147483647))) (.slot 7))]
theorem prims (i : Int) (h0 : 0 ≤ i) (h1 : i < 13) : ∃ z : Int, idxD (.list ([.int 2147483629, .int 2147483587, .int 2147483579, .int 2147483563, .int 2147483549, .int 2147483543, .int 2147483497] ++ [.int 2147483489, .int 2147483477, .int 2147483423, .int 2147483399, .int 2147483353, .int 2147483323])) (.int i) = some (.int z) ∧ 2147483323 ≤ z ∧ z ≤ 2147483629 := by
  refine rows_at (P := fun z => 2147483323 ≤ z ∧ z ≤ 2147483629) ?_ h0 h1
  intro d hd
  simp only [List.cons_append, List.nil_append, List.mem_cons, List.not_mem_nil, or_false] at hd
  rcases hd with rfl | rfl | rfl | rfl | rfl | rfl | rfl | rfl | rfl | rfl | rfl | rfl | rfl <;> exact ⟨_, rfl, by decide, by decide⟩
theorem spread_ok {tb : List FnD} {f : Nat} {nm : Str} (hf : tb[f]? = some ⟨nm, 2, 8, bSpread⟩) {n : Nat} {cell at_ : Int} {p : Option (List D)} (h0 : 0 ≤ at_) (h1 : at_ ≤ 1000000) {Q : R → Option (List D) → Prop} (k : ∀ z : Int, Q (.d (.int z)) p) : WC tb (n + 30) f [.d (.int cell), .d (.int at_)] p Q := by
  rw [wc_def hf rfl]
  show WB tb (n + 29) bSpread { env := [some (.d (.int cell)), some (.d (.int at_)), none, none, none, none, none, none], pen := p } _
  unfold bSpread
  refine wb_cons.mpr ?_
  decreasing_tactic
  refine ite_d (fun c => ?_) (fun c => ?_)
  · decreasing_tactic
    exact k _
  · have m0 : 0 ≤ cell % 1000000007 := Int.emod_nonneg _ (by decide)
    have m1 : cell % 1000000007 < 1000000007 := Int.emod_lt_of_pos _ (by decide)
    have m2 : 0 ≤ cell % 1000000007 * (2 * at_ + 69069) := Int.mul_nonneg m0 (by omega)
    have m3 : cell % 1000000007 * (2 * at_ + 69069) ≤ 1000000007 * 2069069 := Int.mul_le_mul (by omega) (by omega) (by omega) (by omega)
    decreasing_tactic
    obtain ⟨z1, e1, l1, u1⟩ := prims (at_ % 13) (by omega) (by omega)
    decreasing_tactic
    refine so_rfl e1 ?_
    decreasing_tactic
    generalize cell % 1000000007 * (2 * at_ + 69069) + at_ * 40503 + 977 = M
    have a0 : 0 ≤ M ^ (3 : Int).toNat % z1 := Int.emod_nonneg _ (by omega)
    have a1 : M ^ (3 : Int).toNat % z1 < z1 := Int.emod_lt_of_pos _ (by omega)
    generalize M ^ (3 : Int).toNat % z1 = one at *
    have b0 : 0 ≤ one * (at_ + 3) := Int.mul_nonneg a0 (by omega)
    have b1 : one * (at_ + 3) ≤ 2147483629 * 1000003 := Int.mul_le_mul (by omega) (by omega) (by omega) (by omega)
    have c0 : 0 ≤ cell % 65537 := Int.emod_nonneg _ (by decide)
    have c1 : cell % 65537 < 65537 := Int.emod_lt_of_pos _ (by decide)
    decreasing_tactic
    obtain ⟨z2, e2, l2, u2⟩ := prims ((at_ + 5) % 13) (by omega) (by omega)
    refine so_rfl e2 ?_
    decreasing_tactic
    have d0 : 0 ≤ (one * (at_ + 3) + (cell % 65537 + 5)) ^ (5 : Int).toNat % z2 := Int.emod_nonneg _ (by omega)
    have d1 : (one * (at_ + 3) + (cell % 65537 + 5)) ^ (5 : Int).toNat % z2 < z2 := Int.emod_lt_of_pos _ (by omega)
    generalize (one * (at_ + 3) + (cell % 65537 + 5)) ^ (5 : Int).toNat % z2 = two at *
    decreasing_tactic
    obtain ⟨z3, e3, l3, u3⟩ := prims ((at_ + 7) % 13) (by omega) (by omega)
    refine so_rfl e3 ?_
    decreasing_tactic
    have f0 : 0 ≤ (two + one % 1009 + at_) ^ (3 : Int).toNat % z3 := Int.emod_nonneg _ (by omega)
    have f1 : (two + one % 1009 + at_) ^ (3 : Int).toNat % z3 < z3 := Int.emod_lt_of_pos _ (by omega)
    decreasing_tactic
    exact k _

def Pn (cs : List Int) (at_ cell : Int) : List D := [.list (cs.map .int), .int at_, .int cell]
def bTake (sp : Nat) : List IS := [.iff (.cmp .Lt (.idx (.slot 0) (.cst (.int 2))) (.slot 1)) [.set 3 (.idx (.slot 0) (.cst (.int 1))), .set 4 (.cst (.int 0)), .iff (.cmp .Lt (.slot 3) (.bi1 .len (.idx (.slot 0) (.cst (.int 0))))) [.set 4 (.idx (.idx (.slot 0) (.cst (.int 0))) (.slot 3))] [.iff (.cmp .Gt (.bi1 .len (.idx (.slot 0) (.cst (.int 0)))) (.cst (.int 0))) [.set 4 (.bin .Mod (.bi1 .int (.idx (.idx (.slot 0) (.cst (.int 0))) (.bin .Mod (.bi1 .int (.bin .Add (.bin .Mult (.slot 3) (.cst (.int 5))) (.cst (.int 3)))) (.bi1 .len (.idx (.slot 0) (.cst (.int 0))))))) (.bin .Add (.bin .Pow (.cst (.int 10)) (.cst (.int 17))) (.slot 3)))] []], .sto 0 (.cst (.int 1)) (.bin .Add (.slot 3) (.cst (.int 1))), .sto 0 (.cst (.int 2)) (.call sp [(.slot 4), (.slot 3)])] [], .set 2 (.bin .Mod (.bi1 .int (.idx (.slot 0) (.cst (.int 2)))) (.slot 1)), .sto 0 (.cst (.int 2)) (.bin .FloorDiv (.idx (.slot 0) (.cst (.int 2))) (.slot 1)), .ret (.slot 2)]
theorem cells_at {cs : List Int} {i : Int} (h0 : 0 ≤ i) (h1 : i < cs.length) : ∃ z : Int, idxD (.list (cs.map .int)) (.int i) = some (.int z) := by
  obtain ⟨z, h, _⟩ := rows_at (P := fun _ => True) (l := cs.map PyData.int) (i := i) (fun d hd => by
    obtain ⟨z, _, rfl⟩ := List.mem_map.mp hd
    exact ⟨z, rfl, trivial⟩) h0 (by rw [List.length_map]; exact h1)
  exact ⟨z, h⟩
theorem take_ok {tb : List FnD} {f sp : Nat} {nm nm2 : Str} (hf : tb[f]? = some ⟨nm, 2, 5, bTake sp⟩) (hs : tb[sp]? = some ⟨nm2, 2, 8, bSpread⟩) {n : Nat} {cs : List Int} {at_ cell many : Int} (h0 : 0 ≤ at_) (h1 : at_ ≤ 900000) (h2 : 1 ≤ many) (h3 : many < 2 ^ 60)
    {Q : R → Option (List D) → Prop} (k : ∀ z a c : Int, 0 ≤ z → z < many → at_ ≤ a → a ≤ at_ + 1 → Q (.d (.int z)) (some (Pn cs a c))) : WC tb (n + 50) f [.pen, .d (.int many)] (some (Pn cs at_ cell)) Q := by
  rw [wc_def hf rfl]
  show WB tb (n + 49) (bTake sp) { env := [some .pen, some (.d (.int many)), none, none, none], pen := some (Pn cs at_ cell) } _
  unfold bTake
  refine wb_cut (fun g1 => ∃ (o2 o3 o4 : Option Sv) (a c : Int), at_ ≤ a ∧ a ≤ at_ + 1 ∧ g1 = { env := [some .pen, some (.d (.int many)), o2, o3, o4], pen := some (Pn cs a c) }) ?_ ?_
  · decreasing_tactic
    refine ite_d (fun _ => ?_) (fun _ => ?_)
    · decreasing_tactic
      refine wb_cut (fun g1 => ∃ (o3 : Int) (o2 : Option Sv), g1 = { env := [some .pen, some (.d (.int many)), o2, some (.d (.int at_)), some (.d (.int o3))], pen := some (Pn cs at_ cell) }) ?_ ?_
      · decreasing_tactic
        refine ite_d (fun q => ?_) (fun q => ?_)
        · decreasing_tactic
          obtain ⟨z, hz⟩ := cells_at (cs := cs) (i := at_) h0 (by simpa using q)
          refine so_rfl hz ?_
          decreasing_tactic
          exact ⟨_, _, rfl⟩
        · decreasing_tactic
          refine ite_d (fun q2 => ?_) (fun q2 => ?_)
          · decreasing_tactic
            have p17 : (0 : Int) < 10 ^ (17 : Int).toNat := by decide
            obtain ⟨z, hz⟩ := cells_at (cs := cs) (i := (at_ * 5 + 3) % ((cs.map PyData.int).length : Int)) (Int.emod_nonneg _ (by omega)) (by rw [List.length_map] at *; exact Int.emod_lt_of_pos _ q2)
            refine so_rfl hz ?_
            decreasing_tactic
            exact ⟨_, _, rfl⟩
          · decreasing_tactic
            exact ⟨_, _, rfl⟩
      · rintro _ ⟨o3, o2, rfl⟩
        decreasing_tactic
        refine spread_ok hs h0 (by omega) fun z => ?_
        decreasing_tactic
        exact ⟨_, _, _, at_ + 1, z, by omega, by omega, rfl⟩
    · decreasing_tactic
      exact ⟨_, _, _, at_, cell, by omega, by omega, rfl⟩
  · rintro _ ⟨o2, o3, o4, a, c, l, u, rfl⟩
    have f1 : many.natAbs.log2 < 9000 := Nat.lt_trans (log_int (k := 60) (by omega) h3 (by omega)) (by omega)
    have p1 : 0 < many := by omega
    decreasing_tactic
    exact k (c % many) a (c / many) (Int.emod_nonneg _ (by omega)) (Int.emod_lt_of_pos _ (by omega)) l u

def bAnew : List IS := [.sto 0 (.cst (.int 2)) (.cst (.int 0)), .ret (.slot 0)]
theorem anew_ok {tb : List FnD} {f : Nat} {nm : Str} (hf : tb[f]? = some ⟨nm, 1, 1, bAnew⟩) {n : Nat} {cs : List Int} {at_ cell : Int} {Q : R → Option (List D) → Prop} (k : Q .pen (some (Pn cs at_ 0))) : WC tb (n + 10) f [.pen] (some (Pn cs at_ cell)) Q := by
  rw [wc_def hf rfl]
  show WB tb (n + 9) bAnew { env := [some .pen], pen := some (Pn cs at_ cell) } _
  unfold bAnew
  decreasing_tactic
  exact k
def bOne (tk : Nat) : List IS := [.ret (.idx (.slot 1) (.call tk [(.slot 0), (.bi1 .len (.slot 1))]))]
theorem one_ok {tb : List FnD} {f tk sp : Nat} {nm nm2 nm3 : Str} (hf : tb[f]? = some ⟨nm, 2, 2, bOne tk⟩) (ht : tb[tk]? = some ⟨nm3, 2, 5, bTake sp⟩) (hs : tb[sp]? = some ⟨nm2, 2, 8, bSpread⟩) {n : Nat} {cs : List Int} {at_ cell : Int} {xs : List D} (h0 : 0 ≤ at_) (h1 : at_ ≤ 900000) (h2 : 1 ≤ xs.length) (h3 : xs.length < 1000000)
    {Q : R → Option (List D) → Prop} (k : ∀ x ∈ xs, ∀ a c : Int, at_ ≤ a → a ≤ at_ + 1 → Q (.d x) (some (Pn cs a c))) : WC tb (n + 60) f [.pen, .d (.list xs)] (some (Pn cs at_ cell)) Q := by
  rw [wc_def hf rfl]
  show WB tb (n + 59) (bOne tk) { env := [some .pen, some (.d (.list xs))], pen := some (Pn cs at_ cell) } _
  unfold bOne
  decreasing_tactic
  refine take_ok ht hs h0 h1 (by omega) (by omega) fun z a c hz hz2 l u => ?_
  decreasing_tactic
  obtain ⟨i, rfl⟩ := Int.eq_ofNat_of_zero_le hz
  have hi : i < xs.length := by omega
  refine so_rfl (a := xs[i]) (L2.atI_nat (List.getElem?_eq_getElem hi)) ?_
  decreasing_tactic
  exact k _ (List.getElem_mem hi) a c l u
def bWhole : List IS := [.ret (.bop true (.bi1 (.isin "int") (.slot 0)) (.notE (.bi1 (.isin "bool") (.slot 0))))]
def notDict : D → Prop
  | .dict _ => False
  | _ => True
def isI : D → Bool
  | .int _ => true
  | _ => false
theorem whole_ok {tb : List FnD} {f : Nat} {nm : Str} (hf : tb[f]? = some ⟨nm, 1, 1, bWhole⟩) {n : Nat} {x : D} {p : Option (List D)} (hx : notDict x) {Q : R → Option (List D) → Prop} (k : Q (.d (.bool (isI x))) p) : WC tb (n + 10) f [.d x] p Q := by
  rw [wc_def hf rfl]
  show WB tb (n + 9) bWhole { env := [some (.d x)], pen := p } _
  unfold bWhole
  cases x with
  | dict _ => exact hx.elim
  | _ => 
    decreasing_tactic
    exact k
def bOpen : List IS := [.own 1 (.bi1 .list (.slc (.slot 0) none (some (.cst (.int 12))))), .for_ (.many [2, 3]) .enu [(.slc (.slot 0) (some (.cst (.int 12))) (some (.cst (.int 63))))] [.sto 1 (.bin .Mod (.bi1 .int (.slot 2)) (.cst (.int 12))) (.bin .Add (.idx (.slot 1) (.bin .Mod (.bi1 .int (.slot 2)) (.cst (.int 12)))) (.slot 3))], .ret (.lst [(.slot 1), (.cst (.int 0)), (.cst (.int 0))])]
theorem cut_ints (ns : List Int) (lo hi : Option Int) : ∃ ms : List Int, cutD (ns.map PyData.int) lo hi = ms.map .int ∧ (lo = none → hi = some 12 → ms = ns.take 12) ∧ (ns.length ≤ 12 → lo = some 12 → ms = []) := by
  unfold cutD
  refine ⟨(ns.drop (HT.sIx (ns.map PyData.int).length 0 lo)).take (HT.sIx (ns.map PyData.int).length (ns.map PyData.int).length hi - HT.sIx (ns.map PyData.int).length 0 lo), by rw [List.map_take, List.map_drop], fun e1 e2 => ?_, fun hl e1 => ?_⟩
  · subst e1
    subst e2
    have e : HT.sIx (ns.map PyData.int).length (ns.map PyData.int).length (some 12) = min 12 ns.length := by
      have := HT.sIx_nat (ns.map PyData.int).length (ns.map PyData.int).length 12
      rw [List.length_map] at *
      exact this
    rw [e, HT.sIx_none, List.drop_zero, Nat.sub_zero]
    by_cases h : ns.length ≤ 12
    · rw [Nat.min_eq_right h, List.take_length, List.take_of_length_le h]
    · rw [Nat.min_eq_left (by omega)]
  · subst e1
    have e : HT.sIx (ns.map PyData.int).length 0 (some 12) = min 12 ns.length := by
      have := HT.sIx_nat (ns.map PyData.int).length 0 12
      rw [List.length_map] at *
      exact this
    rw [e, Nat.min_eq_right hl, List.drop_length, List.take_nil]
theorem open_ok {tb : List FnD} {f : Nat} {nm : Str} (hf : tb[f]? = some ⟨nm, 1, 4, bOpen⟩) {n : Nat} {ns : List Int} {Q : R → Option (List D) → Prop} (k : ∀ cs : List Int, cs.length ≤ 12 → Q (.fr (Pn cs 0 0)) none) : WC tb (n + 60) f [.scr ns] none Q := by
  rw [wc_def hf rfl]
  show WB tb (n + 59) bOpen { env := [some (.scr ns), none, none, none], pen := none } _
  unfold bOpen
  obtain ⟨c1, e1, f1, _⟩ := cut_ints ns none (some 12)
  obtain ⟨c2, e2, _, f2⟩ := cut_ints ns (some 12) (some 63)
  have h1 : c1 = ns.take 12 := f1 rfl rfl
  decreasing_tactic
  rw [e1]
  refine wb_cons.mpr ?_
  decreasing_tactic
  rw [e2]
  refine wfor_inv (fun rest g => ∃ (cs : List Int) (j : Nat) (more : List Int) (o2 o3 : Option Sv), cs.length ≤ 12 ∧ (rest ≠ [] → cs.length = 12) ∧ rest = (more.zipIdx j).map (fun p => PyData.tuple [.int (p.2 : Int), .int p.1]) ∧ g = { env := [some (.scr ns), some (.own (cs.map .int)), o2, o3], pen := none }) ?_ ?_ ⟨c1, 0, c2, _, _, ?_, ?_, ?_, rfl⟩
  · rintro d rest _ ⟨cs, j, more, o2, o3, hl, h12, er, rfl⟩
    have hc := h12 (by simp)
    cases more with
    | nil => cases er
    | cons m more =>
      rw [List.zipIdx_cons, List.map_cons] at er
      cases er
      refine so_rfl rfl ?_
      refine (wb_cons (s := IS.sto _ _ _)).mpr ?_
      refine sto_own ?_
      obtain ⟨z, hz⟩ := cells_at (cs := cs) (i := (j : Int) % 12) (Int.emod_nonneg _ (by decide)) (by rw [hc]; exact Int.emod_lt_of_pos _ (by decide))
      decreasing_tactic
      refine so_rfl hz ?_
      decreasing_tactic
      refine ⟨⟨_, rfl⟩, ?_⟩
      decreasing_tactic
      have hm : 0 ≤ (j : Int) % 12 ∧ (j : Int) % 12 < 12 := ⟨Int.emod_nonneg _ (by decide), Int.emod_lt_of_pos _ (by decide)⟩
      refine ⟨_, _, ((j : Int) % 12).toNat, rfl, rfl, ?_, ?_⟩
      · show ixN (cs.map PyData.int).length ((j : Int) % 12) = _
        unfold ixN
        rw [if_pos hm.1, List.length_map, hc, if_pos (by omega)]
      · decreasing_tactic
        refine ⟨cs.set ((j : Int) % 12).toNat (z + m), j + 1, more, some (.d (.int j)), some (.d (.int m)), by rw [List.length_set]; exact hl, fun _ => by rw [List.length_set]; exact hc, rfl, ?_⟩
        rw [List.map_set]
        rfl
  · rintro _ ⟨cs, j, more, o2, o3, hl, _, _, rfl⟩
    decreasing_tactic
    exact k cs hl
  · rw [h1, List.length_take]; omega
  · intro h
    rw [h1, List.length_take]
    by_cases q : ns.length ≤ 12
    · rw [f2 q rfl] at h
      exact absurd rfl h
    · omega
  · show List.map _ _ = _
    rw [List.zipIdx_map, List.map_map]
    rfl
end CL
end
section
set_option Elab.async false
set_option linter.all false
set_option maxRecDepth 100000
set_option autoImplicit false
set_option maxHeartbeats 4000000
open PySem PySem.Spec
/-! CM: data: right machines, small data. -/
namespace CL
open DL L2
theorem boolsD_map (f : D → Bool) : ∀ ds : List D, boolsD (ds.map fun d => .bool (f d)) = some (ds.map f)
  | [] => rfl
  | d :: r => by rw [List.map_cons, List.map_cons]; show (boolsD (r.map fun d => .bool (f d))).map (f d :: ·) = _; rw [boolsD_map f r]; rfl
/-- no dict in it -/
def nd (d : D) : Prop := d.hasDict = false
theorem nd_not {d : D} (h : nd d) : notDict d := by
  cases d with
  | dict _ => cases h
  | _ => trivial
theorem nd_all {ds : List D} (h : PyData.hasDictAll ds = false) : ∀ d ∈ ds, nd d := by
  induction ds with
  | nil => intro d hd; cases hd
  | cons x xs ih =>
    simp only [PyData.hasDictAll, Bool.or_eq_false_iff] at h
    intro d hd
    rcases List.mem_cons.mp hd with e | e
    · rw [e]; exact h.1
    · exact ih h.2 d e
theorem nd_tup {ds : List D} (h : nd (.tuple ds)) : ∀ d ∈ ds, nd d := nd_all (by simpa only [nd, PyData.hasDict] using h)

mutual
def wid : D → Prop
  | .tuple ds => ds.length < 1000 ∧ widAll ds
  | .list ds => ds.length < 1000 ∧ widAll ds
  | _ => True
def widAll : List D → Prop
  | [] => True
  | d :: ds => wid d ∧ widAll ds
end
theorem wid_all : ∀ {ds : List D}, widAll ds → ∀ d ∈ ds, wid d
  | _ :: _, h, d, hd => by
    simp only [widAll] at h
    rcases List.mem_cons.mp hd with e | e
    · rw [e]; exact h.1
    · exact wid_all h.2 d e
def letB : D → Bool
  | .int i => decide (1 ≤ i) && decide (i ≤ 3)
  | _ => false
def stdL (many : Int) : Int → List D → Bool
  | _, [] => true
  | last, .int i :: r => decide (last < i) && decide (i < many) && stdL many i r
  | _, _ :: _ => false
def stdB (x : D) (many : Int) : Bool := match x with
  | .tuple ds => stdL many (-1) ds
  | _ => false
def rowL (many : Int) : List D → Bool
  | [] => true
  | .int i :: r => decide (0 ≤ i) && decide (i < many) && rowL many r
  | _ :: _ => false
def rowB (x : D) (letters many : Int) : Bool := match x with
  | .tuple ds => decide ((ds.length : Int) = letters) && rowL many ds
  | _ => false
def entB (many : Int) : D → Bool
  | .int i => decide (0 ≤ i) && decide (i < many)
  | _ => false
theorem rowL_all (many : Int) : ∀ ds : List D, rowL many ds = (ds.map (entB many)).all id
  | [] => rfl
  | .int i :: r => by rw [List.map_cons, List.all_cons, ← rowL_all many r]; rfl
  | .none :: _ => rfl
  | .bool _ :: _ => rfl
  | .str _ :: _ => rfl
  | .list _ :: _ => rfl
  | .tuple _ :: _ => rfl
  | .dict _ :: _ => rfl
def movB (x : D) (letters : Int) : Bool := match x with
  | .tuple ds => decide (1 ≤ ds.length) && decide (ds.length ≤ 32) && ds.all fun d => rowB d letters ds.length
  | _ => false
def movL : D → D → Bool
  | .int k, m => movB m k
  | _, _ => false
def endB (e : D) : D → Bool
  | .tuple ms => stdB e ms.length
  | _ => false
def machB : D → Bool
  | .tuple [l, m, e] => letB l && movL l m && endB e m
  | _ => false
theorem len3 {α : Type} {xs : List α} (h : xs.length = 3) : ∃ a b c, xs = [a, b, c] := by
  match xs, h with
  | [a, b, c], _ => exact ⟨a, b, c, rfl⟩
theorem machB_len {ds : List D} (h : ds.length ≠ 3) : machB (.tuple ds) = false := by
  unfold machB
  split
  · rename_i e
    cases e
    exact absurd rfl h
  · rfl
theorem ints_lay : ∀ ns : List Int, PyData.canLayAll0 (ns.map .int) = true ∧ PyData.depthAll (ns.map .int) = 0
  | [] => ⟨rfl, rfl⟩
  | n :: ns => by
    obtain ⟨h1, h2⟩ := ints_lay ns
    simp only [List.map_cons, PyData.canLayAll0, PyData.canLay0, h1, PyData.depthAll, PyData.depth, h2, Bool.true_and, Nat.max_self, and_self]
theorem ints_shaped (ns : List Int) : SeqAt.shaped (.list (ns.map .int)) = true := by
  obtain ⟨h1, h2⟩ := ints_lay ns
  unfold SeqAt.shaped
  simp only [PyData.canLay0, h1, PyData.depth, h2, Bool.true_and]
  decide
/-! ### data: how many parts, how deep, how small -/
mutual
def wt : D → Nat
  | .list xs => wts xs + 1
  | .tuple xs => wts xs + 1
  | .none => 1
  | .bool _ => 1
  | .int _ => 1
  | .str _ => 1
  | .dict _ => 1
def wts : List D → Nat
  | [] => 0
  | x :: xs => wt x + wts xs
end
mutual
def okD (b : Nat) : D → Prop
  | .int i => i.natAbs ≤ b
  | .str s => (reprText s).length ≤ 20
  | .list xs => okDs b xs
  | .tuple xs => okDs b xs
  | .dict _ => False
  | .none => True
  | .bool _ => True
def okDs (b : Nat) : List D → Prop
  | [] => True
  | x :: xs => okD b x ∧ okDs b xs
end
theorem wt_pos : ∀ d : D, 1 ≤ wt d
  | .list _ => by simp only [wt]; omega
  | .tuple _ => by simp only [wt]; omega
  | .none => by simp only [wt]; omega
  | .bool _ => by simp only [wt]; omega
  | .int _ => by simp only [wt]; omega
  | .str _ => by simp only [wt]; omega
  | .dict _ => by simp only [wt]; omega
theorem wts_app : ∀ xs ys : List D, wts (xs ++ ys) = wts xs + wts ys
  | [], ys => by simp only [List.nil_append, wts]; omega
  | x :: xs, ys => by simp only [List.cons_append, wts, wts_app xs ys]; omega
theorem wts_rev : ∀ xs : List D, wts xs.reverse = wts xs
  | [] => rfl
  | x :: xs => by rw [List.reverse_cons, wts_app, wts_rev xs]; simp only [wts]; omega
theorem wts_len : ∀ xs : List D, xs.length ≤ wts xs
  | [] => Nat.zero_le _
  | x :: xs => by
    have := wt_pos x
    have := wts_len xs
    simp only [List.length_cons, wts]
    omega
theorem okDs_iff {b : Nat} : ∀ {xs : List D}, okDs b xs ↔ ∀ x ∈ xs, okD b x
  | [] => by simp only [okDs, List.not_mem_nil, false_implies, implies_true]
  | x :: xs => by simp only [okDs, okDs_iff (xs := xs), List.forall_mem_cons]
theorem dep_iff {k : Nat} : ∀ {xs : List D}, PyData.depthAll xs ≤ k ↔ ∀ x ∈ xs, x.depth ≤ k
  | [] => by simp only [PyData.depthAll, Nat.zero_le, List.not_mem_nil, false_implies, implies_true]
  | x :: xs => by simp only [PyData.depthAll, Nat.max_le, dep_iff (xs := xs), List.forall_mem_cons]
mutual
theorem okD_mono {b c : Nat} (h : b ≤ c) : ∀ {d : D}, okD b d → okD c d
  | .int _, q => by simp only [okD] at q ⊢; omega
  | .str _, q => by simpa only [okD] using q
  | .list _, q => by simp only [okD] at q ⊢; exact okDs_mono h q
  | .tuple _, q => by simp only [okD] at q ⊢; exact okDs_mono h q
  | .dict _, q => by simp only [okD] at q
  | .none, q => by simp only [okD]
  | .bool _, q => by simp only [okD]
theorem okDs_mono {b c : Nat} (h : b ≤ c) : ∀ {d : List D}, okDs b d → okDs c d
  | [], _ => by simp only [okDs]
  | _ :: _, q => by simp only [okDs] at q ⊢; exact ⟨okD_mono h q.1, okDs_mono h q.2⟩
end
mutual
theorem nd_of {b : Nat} : ∀ {d : D}, okD b d → d.hasDict = false
  | .int _, _ => rfl
  | .str _, _ => rfl
  | .list _, q => by simp only [okD] at q; simp only [PyData.hasDict]; exact nds_of q
  | .tuple _, q => by simp only [okD] at q; simp only [PyData.hasDict]; exact nds_of q
  | .dict _, q => by simp only [okD] at q
  | .none, _ => rfl
  | .bool _, _ => rfl
theorem nds_of {b : Nat} : ∀ {d : List D}, okDs b d → PyData.hasDictAll d = false
  | [], _ => rfl
  | _ :: _, q => by simp only [okDs] at q; simp only [PyData.hasDictAll, nd_of q.1, nds_of q.2, Bool.or_self]
end
mutual
theorem wid_of : ∀ {d : D}, wt d ≤ 1000 → wid d
  | .list xs, h => by
    simp only [wt] at h
    simp only [wid]
    have := wts_len xs
    exact ⟨by omega, wids_of (by omega)⟩
  | .tuple xs, h => by
    simp only [wt] at h
    simp only [wid]
    have := wts_len xs
    exact ⟨by omega, wids_of (by omega)⟩
  | .int _, _ => by simp only [wid]
  | .str _, _ => by simp only [wid]
  | .dict _, _ => by simp only [wid]
  | .none, _ => by simp only [wid]
  | .bool _, _ => by simp only [wid]
theorem wids_of : ∀ {ds : List D}, wts ds ≤ 1000 → widAll ds
  | [], _ => by simp only [widAll]
  | x :: xs, h => by
    simp only [wts] at h
    simp only [widAll]
    exact ⟨wid_of (by omega), wids_of (by omega)⟩
end
theorem log_of {i : Int} (h : i.natAbs ≤ 2 ^ 90) : i.natAbs.log2 < 91 := log_lt (Nat.lt_of_le_of_lt h (by decide)) (by decide)
mutual
theorem show_of {b : Nat} (hb : b ≤ 2 ^ 90) : ∀ {d : D}, okD b d → d.showable = true
  | .int _, q => by
    simp only [okD] at q
    simp only [PyData.showable]
    exact decide_eq_true (Nat.lt_trans (log_of (Nat.le_trans q hb)) (by decide))
  | .str _, _ => rfl
  | .list _, q => by simp only [okD] at q; simp only [PyData.showable]; exact shows_of hb q
  | .tuple _, q => by simp only [okD] at q; simp only [PyData.showable]; exact shows_of hb q
  | .dict _, q => by simp only [okD] at q
  | .none, _ => rfl
  | .bool _, _ => rfl
theorem shows_of {b : Nat} (hb : b ≤ 2 ^ 90) : ∀ {d : List D}, okDs b d → PyData.showableAll d = true
  | [], _ => rfl
  | _ :: _, q => by simp only [okDs] at q; simp only [PyData.showableAll, show_of hb q.1, shows_of hb q.2, Bool.and_self]
end
theorem list_text (ts : List Str) : (listText ts).length ≤ piled ts + 2 := by
  cases ts with
  | nil => decide
  | cons t r =>
    have w1 := textFrom_length_pos r 1 (("[" : Str) ++ (if 0 > 0 then ", " else "" : String) ++ t) Nat.one_pos
    have w2 : ((("[" : Str) ++ (if 0 > 0 then ", " else "" : String) ++ t)).length = 1 + t.length := by rw [strLen_append, strLen_append]; rfl
    have w3 : (listText (t :: r)).length = (textFrom 1 (("[" : Str) ++ (if 0 > 0 then ", " else "" : String) ++ t) r).length + 1 := by
      have : listText (t :: r) = textFrom 1 (("[" : Str) ++ (if 0 > 0 then ", " else "" : String) ++ t) r ++ "]" := rfl
      rw [this, strLen_append]
      rfl
    rw [w3, w1, w2, piled_cons]
    omega
theorem tuple_text (ts : List Str) : (tupleText ts).length ≤ piled ts + 3 := by
  unfold tupleText
  rw [strLen_append, strLen_append]
  have e1 : ((("(" : String) : Str)).length = 1 := rfl
  have e3 : (((if ts.length == 1 then ",)" else ")" : String) : Str)).length ≤ 2 := by split <;> decide
  rw [e1]
  by_cases h : ts = []
  · subst h
    have : (Str.join ", " []).length = 0 := rfl
    rw [this]
    omega
  · have := join_length_add ts h
    omega
mutual
theorem text_of {b : Nat} (hb : b ≤ 2 ^ 90) : ∀ {d : D}, okD b d → d.shown.length + 2 ≤ 100 * wt d
  | .int i, q => by
    simp only [okD] at q
    have e := int_text_length_le (k := 91) (by decide) (log_of (Nat.le_trans q hb))
    have e2 : (PyData.shown (.int i)).length = (toString i).length := by
      show (Str.ofString (toString i)).length = _
      rw [ofString_length]
    rw [e2]
    simp only [wt]
    omega
  | .str s, q => by
    simp only [okD] at q
    have e2 : (PyData.shown (.str s)).length = (reprText s).length := rfl
    rw [e2]
    simp only [wt]
    omega
  | .list xs, q => by
    simp only [okD] at q
    have h := texts_of hb q
    have h2 := list_text (PyData.shownAll xs)
    have e2 : (PyData.shown (.list xs)).length = (listText (PyData.shownAll xs)).length := by simp only [PyData.shown]
    rw [e2]
    simp only [wt]
    omega
  | .tuple xs, q => by
    simp only [okD] at q
    have h := texts_of hb q
    have h2 := tuple_text (PyData.shownAll xs)
    have e2 : (PyData.shown (.tuple xs)).length = (tupleText (PyData.shownAll xs)).length := by simp only [PyData.shown]
    rw [e2]
    simp only [wt]
    omega
  | .dict _, q => by simp only [okD] at q
  | .none, _ => by decide
  | .bool true, _ => by decide
  | .bool false, _ => by decide
theorem texts_of {b : Nat} (hb : b ≤ 2 ^ 90) : ∀ {d : List D}, okDs b d → piled (PyData.shownAll d) ≤ 100 * wts d
  | [], _ => by decide
  | x :: xs, q => by
    simp only [okDs] at q
    have h1 := text_of hb q.1
    have h2 := texts_of hb q.2
    simp only [PyData.shownAll, piled_cons, wts]
    omega
end
/-- what the program and the law look at -/
structure Gd (d : D) : Prop where
  ok : okD (2 ^ 90) d
  w : wt d ≤ 1000
  dp : d.depth ≤ 60
theorem Gd.nd {d : D} (h : Gd d) : nd d := nd_of h.ok
theorem Gd.wid {d : D} (h : Gd d) : wid d := wid_of h.w
theorem Gd.repr {d : D} (h : Gd d) : bi1D .repr d = some (.d (.str d.shown)) := by
  have h4 := text_of (Nat.le_refl _) h.ok
  have h5 := h.w
  show (if d.showable = true ∧ d.hasDict = false ∧ d.depth ≤ 60 ∧ d.shown.length ≤ szL then some (R.d (.str d.shown)) else none) = _
  rw [if_pos ⟨show_of (Nat.le_refl _) h.ok, nd_of h.ok, h.dp, by unfold szL; omega⟩]
theorem reprB (b : Bool) : bi1D .repr (.bool b) = some (.d (.str (PyData.shown (.bool b)))) :=
  Gd.repr ⟨by simp only [okD], by simp only [wt]; omega, by simp only [PyData.depth]; omega⟩
def RowI (letters many : Int) (r : D) : Prop := ∃ ns : List Int, r = .tuple (ns.map .int) ∧ (ns.length : Int) = letters ∧ ∀ i ∈ ns, 0 ≤ i ∧ i < many
theorem eq_nil (ns : List Int) : eqD (.list (ns.map .int)) (.list []) = some ns.isEmpty := by
  have h : SeqAt.shaped (.list (ns.map .int)) = true ∧ SeqAt.shaped (.list []) = true := ⟨ints_shaped _, by decide⟩
  show (if SeqAt.shaped (.list (ns.map .int)) = true ∧ SeqAt.shaped (.list []) = true then some (PyData.eqv (.list (ns.map .int)) (.list [])) else none) = _
  rw [if_pos h]
  cases ns <;> rfl
theorem rng_ints {m : Int} (h0 : 0 ≤ m) (h1 : m ≤ 1000) : ∃ ns : List Int, ((List.range m.toNat).map fun (i : Nat) => PyData.int (0 + (i : Int))) = ns.map .int ∧ (ns.length : Int) = m ∧ (∀ i ∈ ns, 0 ≤ i ∧ i < m) ∧ ns.Pairwise (· < ·) := by
  refine ⟨(List.range m.toNat).map fun (i : Nat) => 0 + (i : Int), ?_, ?_, ?_, ?_⟩
  · rw [List.map_map]
    rfl
  · rw [List.length_map, List.length_range]
    omega
  · intro i hi
    obtain ⟨j, hj, rfl⟩ := List.mem_map.mp hi
    have := List.mem_range.mp hj
    omega
  · refine List.pairwise_map.mpr ?_
    exact List.Pairwise.imp (fun {a b} h => by omega) List.pairwise_lt_range
/-- a right machine, told by its parts -/
def machD (l : Int) (nss : List (List Int)) (ends : List Int) : D := .tuple [.int l, .tuple (nss.map fun ns => .tuple (ns.map .int)), .tuple (ends.map .int)]
structure Mok (l many : Int) (nss : List (List Int)) (ends : List Int) : Prop where
  l0 : 1 ≤ l
  l1 : l ≤ 3
  m0 : 1 ≤ many
  m1 : many ≤ 32
  len : (nss.length : Int) = many
  row : ∀ ns ∈ nss, (ns.length : Int) = l ∧ ∀ i ∈ ns, 0 ≤ i ∧ i < many
  en : ∀ i ∈ ends, 0 ≤ i ∧ i < many
  asc : ends.Pairwise (· < ·)
  el : ends.length ≤ 40
theorem rows_nss {l many : Int} : ∀ {rows : List D}, (∀ r ∈ rows, RowI l many r) → ∃ nss : List (List Int), rows = nss.map (fun ns => .tuple (ns.map .int)) ∧ ∀ ns ∈ nss, (ns.length : Int) = l ∧ ∀ i ∈ ns, 0 ≤ i ∧ i < many
  | [], _ => ⟨[], rfl, fun ns h => nomatch h⟩
  | r :: rs, h => by
    obtain ⟨ns, e, h1, h2⟩ := h r List.mem_cons_self
    obtain ⟨nss, e2, h3⟩ := rows_nss fun x hx => h x (List.mem_cons_of_mem _ hx)
    refine ⟨ns :: nss, by rw [e, e2]; rfl, fun x hx => ?_⟩
    rcases List.mem_cons.mp hx with rfl | hx
    · exact ⟨h1, h2⟩
    · exact h3 x hx
theorem stdL_of {many : Int} : ∀ {es : List Int} {last : Int}, (∀ i ∈ es, last < i) → (∀ i ∈ es, i < many) → es.Pairwise (· < ·) → stdL many last (es.map .int) = true
  | [], _, _, _, _ => rfl
  | e :: es, last, h1, h2, h3 => by
    obtain ⟨h4, h5⟩ := List.pairwise_cons.mp h3
    simp only [List.map_cons, stdL, decide_eq_true (h1 e List.mem_cons_self), decide_eq_true (h2 e List.mem_cons_self), Bool.true_and]
    exact stdL_of h4 (fun i h => h2 i (List.mem_cons_of_mem _ h)) h5
theorem rowL_of {many : Int} : ∀ {es : List Int}, (∀ i ∈ es, 0 ≤ i ∧ i < many) → rowL many (es.map .int) = true
  | [], _ => rfl
  | e :: es, h => by
    simp only [List.map_cons, rowL, decide_eq_true (h e List.mem_cons_self).1, decide_eq_true (h e List.mem_cons_self).2, Bool.true_and]
    exact rowL_of fun i q => h i (List.mem_cons_of_mem _ q)
theorem Mok.mach {l many : Int} {nss : List (List Int)} {ends : List Int} (h : Mok l many nss ends) : machB (machD l nss ends) = true := by
  have e0 : (nss.map fun ns : List Int => PyData.tuple (ns.map .int)).length = nss.length := List.length_map ..
  have a1 : letB (.int l) = true := by simp only [letB, decide_eq_true h.l0, decide_eq_true h.l1, Bool.true_and]
  have a2 : movB (.tuple (nss.map fun ns : List Int => PyData.tuple (ns.map .int))) l = true := by
    have hl := h.len
    have m0 := h.m0
    have m1 := h.m1
    simp only [movB, e0, decide_eq_true (show 1 ≤ nss.length by omega), decide_eq_true (show nss.length ≤ 32 by omega), Bool.true_and, List.all_map]
    refine List.all_eq_true.mpr fun ns hns => ?_
    obtain ⟨q1, q2⟩ := h.row ns hns
    show rowB (.tuple (ns.map .int)) l nss.length = true
    simp only [rowB, List.length_map, decide_eq_true q1, Bool.true_and]
    exact rowL_of fun i hi => by have := q2 i hi; omega
  have a3 : stdB (.tuple (ends.map .int)) (nss.length : Int) = true := by
    rw [h.len]
    exact stdL_of (fun i hi => by have := h.en i hi; omega) (fun i hi => (h.en i hi).2) h.asc
  simp only [machD, machB, movL, endB, a1, a2, e0, a3, Bool.and_self]
theorem wts_ints : ∀ ns : List Int, wts (ns.map .int) = ns.length
  | [] => rfl
  | n :: ns => by simp only [List.map_cons, wts, wt, wts_ints ns, List.length_cons]; omega
theorem ok_ints {b : Nat} : ∀ {ns : List Int}, (∀ i ∈ ns, i.natAbs ≤ b) → okDs b (ns.map .int)
  | [], _ => by simp only [List.map_nil, okDs]
  | n :: ns, h => by simp only [List.map_cons, okDs, okD]; exact ⟨h n List.mem_cons_self, ok_ints fun i q => h i (List.mem_cons_of_mem _ q)⟩
theorem rows_gd {l many : Int} (hl : l ≤ 3) (hm : many ≤ 32) : ∀ {nss : List (List Int)}, (∀ ns ∈ nss, (ns.length : Int) = l ∧ ∀ i ∈ ns, 0 ≤ i ∧ i < many) →
    okDs (2 ^ 90) (nss.map fun ns => .tuple (ns.map .int)) ∧ wts (nss.map fun ns => .tuple (ns.map .int)) ≤ 4 * nss.length ∧ PyData.depthAll (nss.map fun ns => .tuple (ns.map .int)) ≤ 1
  | [], _ => ⟨by simp only [List.map_nil, okDs], by decide, by decide⟩
  | ns :: nss, h => by
    obtain ⟨h1, h2, h3⟩ := rows_gd hl hm fun x hx => h x (List.mem_cons_of_mem _ hx)
    obtain ⟨q1, q2⟩ := h ns List.mem_cons_self
    refine ⟨?_, ?_, ?_⟩
    · simp only [List.map_cons, okDs, okD]
      exact ⟨ok_ints fun i hi => by have := q2 i hi; omega, h1⟩
    · simp only [List.map_cons, wts, wt, wts_ints, List.length_cons]
      omega
    · simp only [List.map_cons, PyData.depthAll, PyData.depth, (ints_lay ns).2]
      omega
theorem Mok.gd {l many : Int} {nss : List (List Int)} {ends : List Int} (h : Mok l many nss ends) : Gd (machD l nss ends) := by
  obtain ⟨h1, h2, h3⟩ := rows_gd h.l1 h.m1 h.row
  have hl := h.len
  have hm := h.m1
  have l0 := h.l0
  have l1 := h.l1
  have el := h.el
  refine ⟨?_, ?_, ?_⟩
  · simp only [machD, okD, okDs]
    exact ⟨by omega, h1, ok_ints fun i hi => by have := h.en i hi; omega, trivial⟩
  · simp only [machD, wt, wts, wts_ints]
    omega
  · simp only [machD, PyData.depth, PyData.depthAll, (ints_lay ends).2]
    omega
theorem int_gd {i : Int} (h : i.natAbs ≤ 2 ^ 90) : Gd (.int i) := ⟨by simp only [okD]; exact h, by simp only [wt]; omega, by simp only [PyData.depth]; omega⟩
theorem bool_gd (b : Bool) : Gd (.bool b) := ⟨by simp only [okD], by simp only [wt]; omega, by simp only [PyData.depth]; omega⟩
end CL
end
section
set_option Elab.async false
set_option linter.all false
set_option maxRecDepth 100000
set_option autoImplicit false
set_option maxHeartbeats 4000000
open PySem PySem.Spec
/-! CW: words of a machine, and where they lead. -/
namespace CL
open DL L2
/-- the letters of a machine -/
def lets (l : Int) : Str := cutS "abc" none (some l)
theorem lets_eq {l : Int} (h0 : 1 ≤ l) (h1 : l ≤ 3) : (lets l).cps.toList = [97, 98, 99].take l.toNat := by
  have : l = 1 ∨ l = 2 ∨ l = 3 := by omega
  rcases this with rfl | rfl | rfl <;> decide +kernel
def WordB (l : Int) (z : Str) : Bool := z.cps.toList.all fun c => decide (c ∈ (lets l).cps.toList)
theorem word_mem {l : Int} (h0 : 1 ≤ l) (h1 : l ≤ 3) {c : Nat} (h : c ∈ (lets l).cps.toList) : 97 ≤ c ∧ (c : Int) < 97 + l ∧ Txt.index0 "abc" ⟨#[c]⟩ = some (c - 97) := by
  rw [lets_eq h0 h1] at h
  have : l = 1 ∨ l = 2 ∨ l = 3 := by omega
  rcases this with rfl | rfl | rfl
  · have h' : c ∈ [97] := h
    simp only [List.mem_cons, List.not_mem_nil, or_false] at h'
    subst h'
    exact ⟨by omega, by omega, by decide +kernel⟩
  · have h' : c ∈ [97, 98] := h
    simp only [List.mem_cons, List.not_mem_nil, or_false] at h'
    rcases h' with rfl | rfl <;> exact ⟨by omega, by omega, by decide +kernel⟩
  · have h' : c ∈ [97, 98, 99] := h
    simp only [List.mem_cons, List.not_mem_nil, or_false] at h'
    rcases h' with rfl | rfl | rfl <;> exact ⟨by omega, by omega, by decide +kernel⟩
/-- one letter on -/
def stp (nss : List (List Int)) (s : Int) (c : Nat) : Int := (nss.getD s.toNat []).getD (c - 97) 0
def lead (nss : List (List Int)) (s : Int) (w : List Nat) : Int := w.foldl (stp nss) s
theorem row_at {l many : Int} {nss : List (List Int)} {ends : List Int} (M : Mok l many nss ends) {s : Int} (h0 : 0 ≤ s) (h1 : s < many) : nss[s.toNat]? = some (nss.getD s.toNat []) ∧ nss.getD s.toNat [] ∈ nss := by
  have hl := M.len
  have : s.toNat < nss.length := by omega
  refine ⟨?_, ?_⟩
  · rw [List.getD_eq_getElem?_getD, List.getElem?_eq_getElem this]; rfl
  · rw [List.getD_eq_getElem?_getD, List.getElem?_eq_getElem this]
    exact List.getElem_mem this
theorem stp_at {l many : Int} {nss : List (List Int)} {ends : List Int} (M : Mok l many nss ends) {s : Int} (h0 : 0 ≤ s) (h1 : s < many) {c : Nat} (hc : c ∈ (lets l).cps.toList) :
    (nss.getD s.toNat [])[c - 97]? = some (stp nss s c) ∧ 0 ≤ stp nss s c ∧ stp nss s c < many := by
  obtain ⟨e1, e2⟩ := row_at M h0 h1
  obtain ⟨r1, r2⟩ := M.row _ e2
  obtain ⟨c1, c2, _⟩ := word_mem M.l0 M.l1 hc
  have hl : c - 97 < (nss.getD s.toNat []).length := by omega
  have e : (nss.getD s.toNat [])[c - 97]? = some (stp nss s c) := by
    unfold stp
    rw [List.getD_eq_getElem?_getD (l := nss.getD s.toNat []), List.getElem?_eq_getElem hl]
    rfl
  exact ⟨e, r2 _ (List.mem_of_getElem? e)⟩
/-- moves[s] as data -/
theorem moves_at {l many : Int} {nss : List (List Int)} {ends : List Int} (M : Mok l many nss ends) {s : Int} (h0 : 0 ≤ s) (h1 : s < many) : idxD (.tuple (nss.map fun ns => .tuple (ns.map .int))) (.int s) = some (.tuple ((nss.getD s.toNat []).map .int)) := by
  obtain ⟨e1, _⟩ := row_at M h0 h1
  show atI _ s = _
  obtain ⟨i, rfl⟩ := Int.eq_ofNat_of_zero_le h0
  have e2 : ((i : Int)).toNat = i := Int.toNat_natCast i
  rw [e2] at e1 ⊢
  exact L2.atI_nat (by rw [List.getElem?_map, e1]; rfl)
theorem letter_at {l many : Int} {nss : List (List Int)} {ends : List Int} (M : Mok l many nss ends) {s : Int} (h0 : 0 ≤ s) (h1 : s < many) {c : Nat} (hc : c ∈ (lets l).cps.toList) :
    idxD (.tuple ((nss.getD s.toNat []).map .int)) (.int ((c - 97 : Nat) : Int)) = some (.int (stp nss s c)) := by
  obtain ⟨e, _⟩ := stp_at M h0 h1 hc
  exact L2.atI_nat (by rw [List.getElem?_map, e]; rfl)
theorem in_ints (s : Int) (ns : List Int) : inD (.int s) (.tuple (ns.map .int)) = some ((ns.map PyData.int).any fun z => PyData.eqv z (.int s)) := by
  have : (ns.map PyData.int).all flatD = true := List.all_eq_true.mpr fun d hd => by
    obtain ⟨z, _, rfl⟩ := List.mem_map.mp hd
    rfl
  show (if flatD (.int s) && (ns.map PyData.int).all flatD then some _ else none) = _
  rw [this]
  rfl
/-- signs that a text may have -/
def Asc (z : Str) : Prop := ∀ c ∈ z.cps.toList, c < 128
theorem lets_asc {l : Int} (h0 : 1 ≤ l) (h1 : l ≤ 3) {c : Nat} (h : c ∈ (lets l).cps.toList) : c < 128 := by
  obtain ⟨a, b, _⟩ := word_mem h0 h1 h
  omega
theorem signs_lay : ∀ {cs : List Nat}, (∀ c ∈ cs, c < 128) → PyData.canLayAll0 (cs.map fun c => PyData.str ⟨#[c]⟩) = true ∧ PyData.depthAll (cs.map fun c => PyData.str ⟨#[c]⟩) = 0
  | [], _ => ⟨rfl, rfl⟩
  | c :: cs, h => by
    obtain ⟨h1, h2⟩ := signs_lay fun x hx => h x (List.mem_cons_of_mem _ hx)
    have hc : PyData.strOk ⟨#[c]⟩ = true := by
      have := h c List.mem_cons_self
      show (#[c].all (· < 0x110000)) = true
      simp
      omega
    simp only [List.map_cons, PyData.canLayAll0, PyData.canLay0, h1, PyData.depthAll, PyData.depth, h2, hc, Bool.and_self, Nat.max_self, and_self]
theorem eq_signs {cs : List Nat} (h : ∀ c ∈ cs, c < 128) : eqD (.list (cs.map fun c => PyData.str ⟨#[c]⟩)) (.list []) = some cs.isEmpty := by
  obtain ⟨h1, h2⟩ := signs_lay h
  have hs : SeqAt.shaped (.list (cs.map fun c => PyData.str ⟨#[c]⟩)) = true ∧ SeqAt.shaped (.list []) = true := by
    refine ⟨?_, by decide⟩
    unfold SeqAt.shaped
    simp only [PyData.canLay0, h1, PyData.depth, h2, Bool.true_and]
    decide
  show (if SeqAt.shaped (.list (cs.map fun c => PyData.str ⟨#[c]⟩)) = true ∧ SeqAt.shaped (.list []) = true then some (PyData.eqv (.list (cs.map fun c => PyData.str ⟨#[c]⟩)) (.list [])) else none) = _
  rw [if_pos hs]
  cases cs <;> rfl
theorem app_toList (a b : Str) : (a ++ b).cps.toList = a.cps.toList ++ b.cps.toList := by
  show (a.cps ++ b.cps).toList = _
  exact Array.toList_append
theorem sjoin_mem : ∀ {ys : List Str} {c : Nat}, c ∈ (Str.join "" ys).cps.toList → ∃ y ∈ ys, c ∈ y.cps.toList
  | [], c, h => by cases h
  | [x], c, h => ⟨x, List.mem_cons_self, h⟩
  | x :: y :: r, c, h => by
    have h' : c ∈ (x ++ ("" : Str) ++ Str.join "" (y :: r)).cps.toList := h
    rw [app_toList, app_toList] at h'
    rcases List.mem_append.mp h' with q | q
    · rcases List.mem_append.mp q with q | q
      · exact ⟨x, List.mem_cons_self, q⟩
      · cases q
    · obtain ⟨z, hz, hc⟩ := sjoin_mem q
      exact ⟨z, List.mem_cons_of_mem _ hz, hc⟩
theorem join_eq (ys : List Str) : Txt.join "" ys = Str.join "" ys := StrLaws.glued_eq_join _ _
end CL
end
section
set_option Elab.async false
set_option linter.all false
set_option maxRecDepth 100000
set_option autoImplicit false
set_option maxHeartbeats 4000000
open PySem PySem.Spec
/-! CX: more of what every law uses. -/
namespace CL
open DL L2
def Rng1 (x : D) (Q : List D → Prop) : Prop := ∃ j : Int, x = .int j ∧ -(2 ^ 62) ≤ j ∧ j < 2 ^ 62 ∧ Q ((List.range j.toNat).map fun (i : Nat) => PyData.int (0 + (i : Int)))
theorem rng1_mk {j : Int} {Q : List D → Prop} (m : Nat) (e : j = (m : Int)) (h : m ≤ 1000000) (q : Q ((List.range m).map fun (i : Nat) => PyData.int (0 + (i : Int)))) : Rng1 (.int j) Q := by
  subst e
  exact ⟨_, rfl, by omega, by omega, by rw [Int.toNat_natCast]; exact q⟩
theorem wits_rng1 {tb : List FnD} {n : Nat} {e : IE} {g : G} {Q : List D → G → Prop} (h : WKp tb n e g fun x g1 => Rng1 x fun ds => Q ds g1) : WIts tb n .rng [e] g Q := by
  rw [wits_rng, wds_cons]
  refine wo_imp h fun r g1 q => wo_imp q fun x g2 ⟨j, e1, h1, h2, q⟩ => ?_
  subst e1
  refine wds_nil.mpr ⟨_, ?_, q⟩
  show (if -(2 ^ 62) ≤ j ∧ j < 2 ^ 62 then _ else _) = _
  exact if_pos ⟨h1, h2⟩
theorem wfor_range {tb : List FnD} {n : Nat} {tg : Tg} {body : List IS} {Q : Fl → G → Prop} (m : Nat) (I : Nat → G → Prop)
    (step : ∀ i g, i < m → I i g → So (asgT tg (.int (i : Int)) g) fun g1 => WB tb n body g1 fun fl g2 => match fl with | .nx => I (i + 1) g2 | .ret r => Q (.ret r) g2) (hq : ∀ g, I m g → Q .nx g) {g : G} (h : I 0 g) :
    WFor tb n tg body ((List.range m).map fun (i : Nat) => PyData.int (0 + (i : Int))) g Q := by
  refine wfor_inv (fun rest g => ∃ i k : Nat, i + k = m ∧ rest = (List.range' i k).map (fun (i : Nat) => PyData.int (0 + (i : Int))) ∧ I i g) ?_ ?_ ⟨0, m, by omega, by rw [List.range_eq_range'], h⟩
  · rintro d ds g ⟨i, k, e1, e2, e3⟩
    cases k with
    | zero => cases e2
    | succ k =>
      rw [List.range'_succ, List.map_cons] at e2
      obtain ⟨rfl, rfl⟩ := List.cons.inj e2
      rw [Int.zero_add]
      obtain ⟨g1, a, b⟩ := step i g (by omega) e3
      refine ⟨g1, a, wo_imp b fun fl g2 z => ?_⟩
      cases fl with
      | nx => exact ⟨i + 1, k, by omega, rfl, z⟩
      | ret r => exact z
  · rintro g ⟨i, k, e1, e2, e3⟩
    cases k with
    | zero =>
      have : i = m := by omega
      exact hq g (this ▸ e3)
    | succ k => cases e2
theorem intsD_map : ∀ ns : List Int, intsD (ns.map .int) = some ns
  | [] => rfl
  | n :: ns => by
    show (intsD (ns.map .int)).map (n :: ·) = _
    rw [intsD_map ns]
    rfl
theorem tupsD_map : ∀ L : List (List Int), tupsD (L.map tupD) = some L
  | [] => rfl
  | ns :: L => by
    show (match intsD (ns.map .int), tupsD (L.map tupD) with
      | some ns, some L => some (ns :: L)
      | _, _ => none) = _
    rw [intsD_map, tupsD_map L]
theorem sort_nil {L : List (List Int)} (h : ∀ x ∈ L, x ≠ []) : ∃ L', sortL ([] :: L) = [] :: L' ∧ L'.Perm L := by
  have p := sortL_perm ([] :: L)
  have a := sortL_asc ([] :: L)
  cases e : sortL ([] :: L) with
  | nil =>
    rw [e] at p
    exact absurd p.length_eq (by simp)
  | cons x xs =>
    rw [e] at p a
    have hx : x = [] := by
      have hm : ([] : List Int) ∈ x :: xs := p.mem_iff.mpr List.mem_cons_self
      rcases List.mem_cons.mp hm with q | q
      · exact q.symm
      · have := (List.pairwise_cons.mp a).1 _ q
        cases x with
        | nil => rfl
        | cons y ys => exact absurd this (by rw [HT.lexLt_nil_cons]; decide)
    subst hx
    exact ⟨xs, rfl, (List.perm_cons _).mp p⟩
theorem sorted_eq (L : List (List Int)) : bi1D .sorted (.list (([] :: L).map tupD)) = some (.fr ((sortL ([] :: L)).map tupD)) := by
  show (match tupsD (([] :: L).map tupD) with
    | some ([] :: L) => some (R.fr ((sortL ([] :: L)).map tupD))
    | _ => none) = _
  rw [tupsD_map]
/-- the subsets of the first i standings, in the order in which they are made -/
def subs : Nat → List (List Int)
  | 0 => [[]]
  | i + 1 => subs i ++ (subs i).map fun s => s ++ [(i : Int)]
theorem subs_len : ∀ i, (subs i).length = 2 ^ i
  | 0 => rfl
  | i + 1 => by
    rw [subs, List.length_append, List.length_map, subs_len i, Nat.pow_succ]
    omega
theorem subs_ne : ∀ i, subs i ≠ []
  | 0 => by decide
  | i + 1 => by
    rw [subs]
    intro h
    exact subs_ne i (List.append_eq_nil_iff.mp h).1
theorem subs_head : ∀ i, ∃ L, subs i = [] :: L ∧ ∀ x ∈ L, x ≠ [] ∧ (∀ s ∈ x, 0 ≤ s ∧ s < (i : Int)) ∧ x.Pairwise (· < ·) ∧ x.length ≤ i
  | 0 => ⟨[], rfl, fun x h => nomatch h⟩
  | i + 1 => by
    obtain ⟨L, e, h⟩ := subs_head i
    refine ⟨L ++ ([] :: L).map (fun s => s ++ [(i : Int)]), by rw [subs, e]; rfl, fun x hx => ?_⟩
    rcases List.mem_append.mp hx with q | q
    · obtain ⟨h1, h2, h3, h4⟩ := h x q
      exact ⟨h1, fun s hs => by have := h2 s hs; omega, h3, by omega⟩
    · obtain ⟨y, hy, rfl⟩ := List.mem_map.mp q
      have hy' : (∀ s ∈ y, 0 ≤ s ∧ s < (i : Int)) ∧ y.Pairwise (· < ·) ∧ y.length ≤ i := by
        rcases List.mem_cons.mp hy with rfl | hy
        · exact ⟨fun s hs => (nomatch hs), List.Pairwise.nil, Nat.zero_le _⟩
        · exact (h y hy).2
      refine ⟨by simp, fun s hs => ?_, ?_, by rw [List.length_append, List.length_singleton]; omega⟩
      · rcases List.mem_append.mp hs with q | q
        · have := hy'.1 s q
          omega
        · have : s = (i : Int) := List.mem_singleton.mp q
          omega
      · refine List.pairwise_append.mpr ⟨hy'.2.1, List.pairwise_singleton _ _, fun a ha b hb => ?_⟩
        have : b = (i : Int) := List.mem_singleton.mp hb
        have := (hy'.1 a ha).2
        omega
theorem fold_list (c : Array Nat) : ∀ (k : Nat) (a : Array Nat), ((List.replicate k c).foldl (· ++ ·) a).toList = a.toList ++ (List.replicate k c.toList).flatten
  | 0, a => by simp
  | k + 1, a => by
    rw [List.replicate_succ, List.foldl_cons, fold_list c k, Array.toList_append, List.replicate_succ, List.flatten_cons, List.append_assoc]
theorem flat_one (c : Nat) : ∀ k : Nat, (List.replicate k [c]).flatten = List.replicate k c
  | 0 => rfl
  | k + 1 => by rw [List.replicate_succ, List.flatten_cons, flat_one c k]; rfl
theorem repA (k : Nat) : (repS "a" k).cps.toList = List.replicate k 97 := by
  unfold repS
  rw [fold_list]
  have e : ("a" : Str).cps.toList = [97] := by decide +kernel
  rw [e, flat_one]
  rfl
theorem repA_word (k : Nat) : WordB 1 (repS "a" k) = true := by
  unfold WordB
  rw [repA]
  refine List.all_eq_true.mpr fun c hc => ?_
  rw [(List.mem_replicate.mp hc).2]
  decide +kernel
theorem repA_len (k : Nat) : (repS "a" k).length = k := by
  have : (repS "a" k).cps.toList.length = k := by rw [repA, List.length_replicate]
  show (repS "a" k).cps.size = k
  simpa using this
theorem mulA {k : Int} (h0 : 2 ≤ k) (h1 : k ≤ 1000) : binD .Mult (.str "a") (.int k) = some (.d (.str (repS "a" k.toNat))) := by
  show (if 2 ≤ k ∧ k ≤ 1000 ∧ 1 ≤ ("a" : Str).length ∧ ("a" : Str).length ≤ 1000 then some (R.d (.str (repS "a" k.toNat))) else none) = _
  rw [if_pos ⟨h0, h1, by decide, by decide⟩]
theorem list_gd {ns : List Int} (h : ∀ i ∈ ns, i.natAbs ≤ 2 ^ 90) (hl : ns.length ≤ 900) : Gd (.list (ns.map .int)) := by
  refine ⟨?_, ?_, ?_⟩
  · simp only [okD]
    exact ok_ints h
  · simp only [wt, wts_ints]
    omega
  · simp only [PyData.depth, (ints_lay ns).2]
    omega
theorem eq_self (ns : List Int) : eqD (.list (ns.map .int)) (.list (ns.map .int)) = some true := by
  show (if SeqAt.shaped (.list (ns.map .int)) = true ∧ SeqAt.shaped (.list (ns.map .int)) = true then some (PyData.eqv (.list (ns.map .int)) (.list (ns.map .int))) else none) = _
  rw [if_pos ⟨ints_shaped ns, ints_shaped ns⟩, SeqAt.eqv_refl _ (by simp only [PyData.canLay0, (ints_lay ns).1])]
end CL
end
section
set_option Elab.async false
set_option linter.all false
set_option maxRecDepth 100000
set_option autoImplicit false
set_option maxHeartbeats 4000000
namespace K07
open PySem DL
def top (i : Nat) : Stmt := PySem.Challenge.pw_seamlots_k07_places_of_cutting.main.body.getD i (.Pass ⟨0, 0, 0, 0⟩)
/-- is_machine -/
def b0 : List IS := [.iff (.bop false (.notE (.bi1 (.isin "tuple") (.slot 0))) (.cmp .NotEq (.bi1 .len (.slot 0)) (.cst (.int 3)))) [.ret (.cst (.bool false))] [], .unp [1, 2, 3] (.slot 0), .ret (.bop true (.call 4 [(.slot 1)]) (.bop true (.call 11 [(.slot 2), (.slot 1)]) (.call 5 [(.slot 3), (.bi1 .len (.slot 2))])))]
def f0 : FnD := ⟨"is_machine", 1, 4, b0⟩
/-- standing_of -/
def b1 : List IS := [.exp (.call 8 [(.slot 0)]), .exp (.call 9 [(.slot 0), (.slot 1)]), .ret (.idx (.call 7 [(.slot 0), (.slot 1)]) (.neg (.cst (.int 1))))]
def f1 : FnD := ⟨"standing_of", 2, 2, b1⟩
/-- takes -/
def b2 : List IS := [.ret (.cmp .In (.call 1 [(.slot 0), (.slot 1)]) (.idx (.slot 0) (.cst (.int 2))))]
def f2 : FnD := ⟨"takes", 2, 2, b2⟩
/-- is_integer -/
def b3 : List IS := [.ret (.bop true (.bi1 (.isin "int") (.slot 0)) (.notE (.bi1 (.isin "bool") (.slot 0))))]
def f3 : FnD := ⟨"is_integer", 1, 1, b3⟩
/-- is_letters -/
def b4 : List IS := [.ret (.bop true (.call 3 [(.slot 0)]) (.chn .LtE .LtE (.cst (.int 1)) (.slot 0) (.bi1 .len (.cst (.str "abc")))))]
def f4 : FnD := ⟨"is_letters", 1, 1, b4⟩
/-- are_ascending -/
def b5 : List IS := [.iff (.notE (.bi1 (.isin "tuple") (.slot 0))) [.ret (.cst (.bool false))] [], .set 2 (.neg (.cst (.int 1))), .for_ (.one 3) .seq [(.slot 0)] [.iff (.bop false (.notE (.call 3 [(.slot 3)])) (.notE (.chn .Lt .Lt (.slot 2) (.slot 3) (.slot 1)))) [.ret (.cst (.bool false))] [], .set 2 (.slot 3)], .ret (.cst (.bool true))]
def f5 : FnD := ⟨"are_ascending", 2, 4, b5⟩
/-- is_word_of -/
def b6 : List IS := [.set 2 (.slc (.cst (.str "abc")) none (some (.slot 0))), .ret (.bop true (.bi1 (.isin "str") (.slot 1)) (.allG (.slot 2) 0 (.slot 1)))]
def f6 : FnD := ⟨"is_word_of", 2, 3, b6⟩
/-- standings_along -/
def b7 : List IS := [.set 2 (.idx (.slot 0) (.cst (.int 1))), .own 3 (.lst [(.cst (.int 0))]), .for_ (.one 4) .seq [(.slot 1)] [.app 3 (.idx (.idx (.slot 2) (.idx (.slot 3) (.neg (.cst (.int 1))))) (.idxS (.cst (.str "abc")) (.slot 4)))], .ret (.slot 3)]
def f7 : FnD := ⟨"standings_along", 2, 5, b7⟩
/-- check_machine -/
def b8 : List IS := [.iff (.notE (.call 0 [(.slot 0)])) [.nev] []]
def f8 : FnD := ⟨"check_machine", 1, 1, b8⟩
/-- check_word -/
def b9 : List IS := [.iff (.notE (.call 6 [(.idx (.slot 0) (.cst (.int 0))), (.slot 1)])) [.nev] []]
def f9 : FnD := ⟨"check_word", 2, 2, b9⟩
/-- check_few -/
def b10 : List IS := [.iff (.cmp .Gt (.bi1 .len (.idx (.slot 0) (.cst (.int 1)))) (.slot 1)) [.nev] []]
def f10 : FnD := ⟨"check_few", 2, 2, b10⟩
/-- _are_moves -/
def b11 : List IS := [.iff (.bop false (.notE (.bi1 (.isin "tuple") (.slot 0))) (.notE (.chn .LtE .LtE (.cst (.int 1)) (.bi1 .len (.slot 0)) (.cst (.int 32))))) [.ret (.cst (.bool false))] [], .ret (.bi1 .all (.lc (.call 12 [(.slot 2), (.slot 1), (.bi1 .len (.slot 0))]) (.one 2) .seq [(.slot 0)] none [2]))]
def f11 : FnD := ⟨"_are_moves", 2, 3, b11⟩
/-- _is_row -/
def b12 : List IS := [.iff (.bop false (.notE (.bi1 (.isin "tuple") (.slot 0))) (.cmp .NotEq (.bi1 .len (.slot 0)) (.slot 1))) [.ret (.cst (.bool false))] [], .ret (.bi1 .all (.lc (.bop true (.call 3 [(.slot 3)]) (.chn .LtE .Lt (.cst (.int 0)) (.slot 3) (.slot 2))) (.one 3) .seq [(.slot 0)] none [3]))]
def f12 : FnD := ⟨"_is_row", 3, 4, b12⟩
/-- cuttings -/
def b13 : List IS := [.exp (.call 8 [(.slot 0)]), .exp (.call 15 [(.slot 0), (.slot 1)]), .exp (.call 9 [(.slot 0), (.slot 2)]), .exp (.call 10 [(.slot 0), (.cst (.int 5))]), .set 3 (.call 7 [(.slot 0), (.slot 2)]), .set 4 (.idx (.slot 0) (.cst (.int 2))), .own 5 (.lst []), .for_ (.one 6) .rng [(.bi1 .len (.slot 2)), (.neg (.cst (.int 1))), (.neg (.cst (.int 1)))] [.iff (.cmp .Lt (.slot 6) (.bi1 .len (.slot 2))) [.set 4 (.call 17 [(.idx (.slot 0) (.cst (.int 1))), (.slot 4), (.idxS (.cst (.str "abc")) (.idx (.slot 2) (.slot 6)))])] [], .iff (.bop true (.cmp .In (.idx (.slot 3) (.slot 6)) (.slot 1)) (.call 16 [(.slot 1), (.slot 4)])) [.app 5 (.slot 6)] []], .ret (.rev (.slot 5))]
def f13 : FnD := ⟨"cuttings", 3, 7, b13⟩
/-- has_cut -/
def b14 : List IS := [.ret (.bop true (.call 5 [(.slot 1), (.bi1 .len (.idx (.slot 0) (.cst (.int 1))))]) (.cmp .Gt (.bi1 .len (.slot 1)) (.cst (.int 0))))]
def f14 : FnD := ⟨"has_cut", 2, 2, b14⟩
/-- check_cut -/
def b15 : List IS := [.iff (.notE (.call 14 [(.slot 0), (.slot 1)])) [.nev] []]
def f15 : FnD := ⟨"check_cut", 2, 2, b15⟩
/-- is_within -/
def b16 : List IS := [.ret (.bi1 .all (.lc (.cmp .In (.slot 2) (.slot 1)) (.one 2) .seq [(.slot 0)] none [2]))]
def f16 : FnD := ⟨"is_within", 2, 3, b16⟩
/-- _led_into -/
def b17 : List IS := [.ret (.bi1 .tuple (.lc (.slot 3) (.many [3, 4]) .enu [(.slot 0)] (some (.cmp .In (.idx (.slot 4) (.slot 2)) (.slot 1))) [3, 4]))]
def f17 : FnD := ⟨"_led_into", 3, 5, b17⟩
/-- _law_spread -/
def b18 : List IS := [.iff (.cmp .GtE (.slot 0) (.bin .Pow (.cst (.int 10)) (.cst (.int 18)))) [.ret (.slot 0)] [], .set 2 (.lst [(.cst (.int 2147483629)), (.cst (.int 2147483587)), (.cst (.int 2147483579)), (.cst (.int 2147483563)), (.cst (.int 2147483549)), (.cst (.int 2147483543)), (.cst (.int 2147483497))]), .set 2 (.bin .Add (.slot 2) (.lst [(.cst (.int 2147483489)), (.cst (.int 2147483477)), (.cst (.int 2147483423)), (.cst (.int 2147483399)), (.cst (.int 2147483353)), (.cst (.int 2147483323))])), .set 3 (.bin .Add (.bin .Add (.bin .Mult (.bin .Mod (.bi1 .int (.slot 0)) (.cst (.int 1000000007))) (.bin .Add (.bin .Mult (.cst (.int 2)) (.slot 1)) (.cst (.int 69069)))) (.bin .Mult (.slot 1) (.cst (.int 40503)))) (.cst (.int 977))), .set 4 (.bin .Mod (.bi1 .int (.bin .Pow (.slot 3) (.cst (.int 3)))) (.idx (.slot 2) (.bin .Mod (.bi1 .int (.slot 1)) (.cst (.int 13))))), .set 5 (.bin .Add (.bin .Mod (.bi1 .int (.slot 0)) (.cst (.int 65537))) (.cst (.int 5))), .set 6 (.bin .Mod (.bi1 .int (.bin .Pow (.bin .Add (.bin .Mult (.slot 4) (.bin .Add (.slot 1) (.cst (.int 3)))) (.slot 5)) (.cst (.int 5)))) (.idx (.slot 2) (.bin .Mod (.bi1 .int (.bin .Add (.slot 1) (.cst (.int 5)))) (.cst (.int 13))))), .set 7 (.bin .Mod (.bi1 .int (.bin .Pow (.bin .Add (.bin .Add (.slot 6) (.bin .Mod (.bi1 .int (.slot 4)) (.cst (.int 1009)))) (.slot 1)) (.cst (.int 3)))) (.idx (.slot 2) (.bin .Mod (.bi1 .int (.bin .Add (.slot 1) (.cst (.int 7)))) (.cst (.int 13))))), .ret (.bin .Add (.bin .Mult (.bin .Add (.bin .Mult (.slot 4) (.cst (.int 2147483647))) (.slot 6)) (.cst (.int 2147483647))) (.slot 7))]
def f18 : FnD := ⟨"_law_spread", 2, 8, b18⟩
/-- _law_open -/
def b19 : List IS := [.own 1 (.bi1 .list (.slc (.slot 0) none (some (.cst (.int 12))))), .for_ (.many [2, 3]) .enu [(.slc (.slot 0) (some (.cst (.int 12))) (some (.cst (.int 63))))] [.sto 1 (.bin .Mod (.bi1 .int (.slot 2)) (.cst (.int 12))) (.bin .Add (.idx (.slot 1) (.bin .Mod (.bi1 .int (.slot 2)) (.cst (.int 12)))) (.slot 3))], .ret (.lst [(.slot 1), (.cst (.int 0)), (.cst (.int 0))])]
def f19 : FnD := ⟨"_law_open", 1, 4, b19⟩
/-- _law_take -/
def b20 : List IS := [.iff (.cmp .Lt (.idx (.slot 0) (.cst (.int 2))) (.slot 1)) [.set 3 (.idx (.slot 0) (.cst (.int 1))), .set 4 (.cst (.int 0)), .iff (.cmp .Lt (.slot 3) (.bi1 .len (.idx (.slot 0) (.cst (.int 0))))) [.set 4 (.idx (.idx (.slot 0) (.cst (.int 0))) (.slot 3))] [.iff (.cmp .Gt (.bi1 .len (.idx (.slot 0) (.cst (.int 0)))) (.cst (.int 0))) [.set 4 (.bin .Mod (.bi1 .int (.idx (.idx (.slot 0) (.cst (.int 0))) (.bin .Mod (.bi1 .int (.bin .Add (.bin .Mult (.slot 3) (.cst (.int 5))) (.cst (.int 3)))) (.bi1 .len (.idx (.slot 0) (.cst (.int 0))))))) (.bin .Add (.bin .Pow (.cst (.int 10)) (.cst (.int 17))) (.slot 3)))] []], .sto 0 (.cst (.int 1)) (.bin .Add (.slot 3) (.cst (.int 1))), .sto 0 (.cst (.int 2)) (.call 18 [(.slot 4), (.slot 3)])] [], .set 2 (.bin .Mod (.bi1 .int (.idx (.slot 0) (.cst (.int 2)))) (.slot 1)), .sto 0 (.cst (.int 2)) (.bin .FloorDiv (.idx (.slot 0) (.cst (.int 2))) (.slot 1)), .ret (.slot 2)]
def f20 : FnD := ⟨"_law_take", 2, 5, b20⟩
/-- _law_anew -/
def b21 : List IS := [.sto 0 (.cst (.int 2)) (.cst (.int 0)), .ret (.slot 0)]
def f21 : FnD := ⟨"_law_anew", 1, 1, b21⟩
/-- _law_one -/
def b22 : List IS := [.ret (.idx (.slot 1) (.call 20 [(.slot 0), (.bi1 .len (.slot 1))]))]
def f22 : FnD := ⟨"_law_one", 2, 2, b22⟩
/-- _law_lead -/
def b23 : List IS := [.for_ (.one 3) .seq [(.slot 2)] [.set 1 (.idx (.idx (.idx (.slot 0) (.cst (.int 1))) (.slot 1)) (.idxS (.cst (.str "abc")) (.slot 3)))], .ret (.slot 1)]
def f23 : FnD := ⟨"_law_lead", 3, 4, b23⟩
/-- _law_words -/
def b24 : List IS := [.par 3 4 false false (.lst [(.cst (.str ""))]) (.lst [(.cst (.str ""))]), .for_ (.one 2) .rng [(.slot 1)] [.set 5 (.lst []), .for_ (.one 6) .seq [(.slot 4)] [.set 5 (.bin .Add (.slot 5) (.lc (.bin .Add (.slot 6) (.slot 7)) (.one 7) .seq [(.slc (.cst (.str "abc")) none (some (.slot 0)))] none [7]))], .par 3 4 false false (.bin .Add (.slot 3) (.slot 5)) (.slot 5)], .ret (.slot 3)]
def f24 : FnD := ⟨"_law_words", 2, 8, b24⟩
/-- _law_drawn_word -/
def b25 : List IS := [.ret (.join (.cst (.str "")) (.lc (.idx (.cst (.str "abc")) (.call 20 [(.slot 0), (.slot 1)])) (.one 3) .rng [(.call 20 [(.slot 0), (.bin .Add (.slot 2) (.cst (.int 1)))])] none [3]))]
def f25 : FnD := ⟨"_law_drawn_word", 3, 4, b25⟩
/-- _law_drawn_machine -/
def b26 : List IS := [.par 6 7 false true (.call 22 [(.slot 0), (.lst [(.cst (.int 0)), (.cst (.int 0)), (.cst (.int 1)), (.cst (.int 1)), (.cst (.int 2))])]) (.lst []), .for_ (.one 3) .rng [(.slot 2)] [.own 8 (.lst []), .for_ (.one 9) .rng [(.slot 1)] [.set 10 (.call 20 [(.slot 0), (.slot 2)]), .iff (.cmp .Eq (.slot 6) (.cst (.int 1))) [.set 10 (.bi2 .min (.bin .Sub (.slot 2) (.cst (.int 1))) (.bin .Add (.bin .Add (.slot 3) (.cst (.int 1))) (.call 22 [(.slot 0), (.lst [(.cst (.int 0)), (.cst (.int 0)), (.cst (.int 0)), (.cst (.int 1)), (.slot 2)])])))] [.iff (.cmp .Eq (.slot 6) (.cst (.int 2))) [.set 10 (.call 22 [(.slot 0), (.lst [(.slot 3), (.slot 3), (.bi2 .min (.bin .Sub (.slot 2) (.cst (.int 1))) (.bin .Add (.slot 3) (.cst (.int 1)))), (.slot 10)])])] []], .app 8 (.slot 10)], .app 7 (.bi1 .tuple (.slot 8))], .set 4 (.call 22 [(.slot 0), (.lst [(.cst (.int 2)), (.cst (.int 2)), (.cst (.int 3)), (.cst (.int 4))])]), .set 5 (.lc (.slot 3) (.one 3) .rng [(.slot 2)] (some (.cmp .Eq (.call 20 [(.slot 0), (.slot 4)]) (.cst (.int 0)))) [3]), .iff (.bop true (.cmp .Eq (.slot 5) (.lst [])) (.cmp .Gt (.call 20 [(.slot 0), (.cst (.int 4))]) (.cst (.int 0)))) [.set 5 (.lst [(.call 20 [(.slot 0), (.slot 2)])])] [], .ret (.tup [(.slot 1), (.bi1 .tuple (.slot 7)), (.bi1 .tuple (.slot 5))])]
def f26 : FnD := ⟨"_law_drawn_machine", 3, 11, b26⟩
/-- _law_some_machine -/
def b27 : List IS := [.set 2 (.call 22 [(.slot 0), (.lst [(.cst (.int 1)), (.cst (.int 2)), (.cst (.int 2)), (.cst (.int 2)), (.cst (.int 3))])]), .iff (.cmp .Gt (.call 20 [(.slot 0), (.cst (.int 4))]) (.cst (.int 0))) [.ret (.call 26 [(.slot 0), (.slot 2), (.bin .Add (.cst (.int 1)) (.call 20 [(.slot 0), (.slot 1)]))])] [], .set 3 (.lst [(.tup [(.cst (.int 1)), (.tup [(.tup [(.cst (.int 1))]), (.tup [(.cst (.int 2))]), (.tup [(.cst (.int 3))]), (.tup [(.cst (.int 3))])]), (.tup [(.cst (.int 1)), (.cst (.int 2))])]), (.tup [(.cst (.int 2)), (.tup [(.tup [(.cst (.int 0)), (.cst (.int 1))]), (.tup [(.cst (.int 1)), (.cst (.int 1))])]), (.tup [(.cst (.int 1))])]), (.tup [(.cst (.int 2)), (.tup [(.tup [(.cst (.int 1)), (.cst (.int 2))]), (.tup [(.cst (.int 2)), (.cst (.int 0))]), (.tup [(.cst (.int 2)), (.cst (.int 2))])]), (.tup [(.cst (.int 0))])])]), .set 3 (.bin .Add (.slot 3) (.lst [(.tup [(.cst (.int 1)), (.tup [(.tup [(.cst (.int 1))]), (.tup [(.cst (.int 0))])]), (.tup [(.cst (.int 0))])]), (.tup [(.cst (.int 2)), (.tup [(.tup [(.cst (.int 1)), (.cst (.int 2))]), (.tup [(.cst (.int 1)), (.cst (.int 1))]), (.tup [(.cst (.int 2)), (.cst (.int 2))])]), (.tup [(.cst (.int 1))])]), (.tup [(.cst (.int 2)), (.tup [(.tup [(.cst (.int 1)), (.cst (.int 1))]), (.tup [(.cst (.int 2)), (.cst (.int 2))]), (.tup [(.cst (.int 2)), (.cst (.int 2))])]), (.tup [(.cst (.int 1))])])])), .set 3 (.bin .Add (.slot 3) (.lst [(.tup [(.cst (.int 2)), (.tup [(.tup [(.cst (.int 1)), (.cst (.int 2))]), (.tup [(.cst (.int 2)), (.cst (.int 1))]), (.tup [(.cst (.int 2)), (.cst (.int 2))])]), (.tup [(.cst (.int 1))])]), (.tup [(.cst (.int 1)), (.tup [(.tup [(.cst (.int 1))]), (.tup [(.cst (.int 2))]), (.tup [(.cst (.int 3))]), (.tup [(.cst (.int 3))])]), (.tup [(.cst (.int 0)), (.cst (.int 1)), (.cst (.int 2))])])])), .set 3 (.bin .Add (.slot 3) (.lst [(.tup [(.cst (.int 2)), (.tup [(.tup [(.cst (.int 0)), (.cst (.int 1))]), (.tup [(.cst (.int 2)), (.cst (.int 1))]), (.tup [(.cst (.int 2)), (.cst (.int 2))])]), (.tup [(.cst (.int 0)), (.cst (.int 1))])]), (.tup [(.cst (.int 1)), (.tup [(.tup [(.cst (.int 1))]), (.tup [(.cst (.int 2))]), (.tup [(.cst (.int 0))])]), (.tup [(.cst (.int 1)), (.cst (.int 2))])]), (.tup [(.cst (.int 2)), (.tup [(.tup [(.cst (.int 1)), (.cst (.int 1))]), (.tup [(.cst (.int 1)), (.cst (.int 1))])]), (.tup [(.cst (.int 0))])])])), .set 4 (.lc (.slot 5) (.one 5) .seq [(.slot 3)] (some (.cmp .LtE (.bi1 .len (.idx (.slot 5) (.cst (.int 1)))) (.slot 1))) [5]), .ret (.call 22 [(.slot 0), (.slot 4)])]
def f27 : FnD := ⟨"_law_some_machine", 2, 6, b27⟩
/-- _law_all_cuts -/
def b28 : List IS := [.set 1 (.lst [(.tup [])]), .for_ (.one 2) .rng [(.bi1 .len (.idx (.slot 0) (.cst (.int 1))))] [.set 1 (.bin .Add (.slot 1) (.lc (.bin .Add (.slot 3) (.tup [(.slot 2)])) (.one 3) .seq [(.slot 1)] none [3]))], .ret (.slc (.bi1 .sorted (.slot 1)) (some (.cst (.int 1))) none)]
def f28 : FnD := ⟨"_law_all_cuts", 1, 4, b28⟩
/-- _law_are_ends -/
def b29 : List IS := [.ret (.cmp .Eq (.lc (.slot 2) (.one 2) .seq [(.slot 1)] (some (.cmp .NotIn (.slot 2) (.idx (.slot 0) (.cst (.int 2))))) [2]) (.lst []))]
def f29 : FnD := ⟨"_law_are_ends", 2, 3, b29⟩
/-- _law_cuttings -/
def b30 : List IS := [.own 3 (.lst []), .for_ (.one 4) .rng [(.bin .Add (.bi1 .len (.slot 2)) (.cst (.int 1)))] [.set 5 (.lc (.call 23 [(.slot 0), (.slot 6), (.slc (.slot 2) (some (.slot 4)) none)]) (.one 6) .seq [(.slot 1)] none [6]), .iff (.bop true (.cmp .In (.call 23 [(.slot 0), (.cst (.int 0)), (.slc (.slot 2) none (some (.slot 4)))]) (.slot 1)) (.call 29 [(.slot 0), (.slot 5)])) [.app 3 (.slot 4)] []], .ret (.slot 3)]
def f30 : FnD := ⟨"_law_cuttings", 3, 7, b30⟩
/-- law -/
def b31 : List IS := [.pen 1 (.call 19 [(.slot 0)]), .for_ (.one 2) .rng [(.cst (.int 2))] [.set 4 (.call 27 [(.call 21 [(.slot 1)]), (.cst (.int 5))]), .par 7 8 false false (.call 22 [(.slot 1), (.call 28 [(.slot 4)])]) (.bi1 .repr (.slot 4)), .set 5 (.bin .Add (.call 24 [(.idx (.slot 4) (.cst (.int 0))), (.cst (.int 3))]) (.lc (.call 25 [(.call 21 [(.slot 1)]), (.idx (.slot 4) (.cst (.int 0))), (.cst (.int 12))]) (.one 11) .rng [(.cst (.int 4))] none [11])), .for_ (.one 6) .seq [(.slot 5)] [.par 9 10 false true (.call 30 [(.slot 4), (.slot 7), (.slot 6)]) (.call 13 [(.slot 4), (.slot 7), (.slot 6)]), .iff (.bop false (.cmp .NotEq (.bi1 .repr (.slot 10)) (.bi1 .repr (.slot 9))) (.bop true (.cmp .NotEq (.slot 9) (.lst [])) (.cmp .IsNot (.call 2 [(.slot 4), (.slot 6)]) (.cst (.bool true))))) [.ret (.cst (.bool false))] [], .app 10 (.cst .none), .iff (.cmp .NotEq (.bi1 .repr (.call 13 [(.slot 4), (.slot 7), (.slot 6)])) (.bi1 .repr (.slot 9))) [.ret (.cst (.bool false))] []], .iff (.cmp .NotEq (.bi1 .repr (.slot 4)) (.slot 8)) [.ret (.cst (.bool false))] []], .set 3 (.tup [(.cst (.int 1)), (.tup [(.tup [(.cst (.int 0))])]), (.tup [(.cst (.int 0))])]), .ret (.cmp .Eq (.call 13 [(.slot 3), (.tup [(.cst (.int 0))]), (.bin .Mult (.cst (.str "a")) (.cst (.int 40)))]) (.rngL false [(.cst (.int 41))]))]
def f31 : FnD := ⟨"law", 1, 12, b31⟩
def fns : List FnD := [f0, f1, f2, f3, f4, f5, f6, f7, f8, f9, f10, f11, f12, f13, f14, f15, f16, f17, f18, f19, f20, f21, f22, f23, f24, f25, f26, f27, f28, f29, f30, f31]
def prog : Pgm := ⟨fns, [("LETTERS", (.str "abc")), ("MOST_STANDINGS", (.int 32)), ("MOST_CUT_STANDINGS", (.int 5))], [["letters", "value", "own_letters"]]⟩
theorem c0 : defC prog f0 (top 9) ["value", "letters", "moves", "ends"] ["value"] 60 = true := by decide +kernel
theorem c1 : defC prog f1 (top 10) ["machine", "word"] ["machine", "word"] 60 = true := by decide +kernel
theorem c2 : defC prog f2 (top 11) ["machine", "word"] ["machine", "word"] 60 = true := by decide +kernel
theorem c3 : defC prog f3 (top 12) ["value"] ["value"] 60 = true := by decide +kernel
theorem c4 : defC prog f4 (top 13) ["value"] ["value"] 60 = true := by decide +kernel
theorem c5 : defC prog f5 (top 14) ["value", "many", "last", "one"] ["value", "many"] 60 = true := by decide +kernel
theorem c6 : defC prog f6 (top 15) ["letters", "value", "own_letters"] ["letters", "value"] 60 = true := by decide +kernel
theorem c7 : defC prog f7 (top 16) ["machine", "word", "moves", "standings", "letter"] ["machine", "word"] 60 = true := by decide +kernel
theorem c8 : defC prog f8 (top 17) ["value"] ["value"] 60 = true := by decide +kernel
theorem c9 : defC prog f9 (top 18) ["machine", "value"] ["machine", "value"] 60 = true := by decide +kernel
theorem c10 : defC prog f10 (top 19) ["machine", "limit"] ["machine", "limit"] 60 = true := by decide +kernel
theorem c11 : defC prog f11 (top 20) ["value", "letters", "row"] ["value", "letters"] 60 = true := by decide +kernel
theorem c12 : defC prog f12 (top 21) ["value", "letters", "many", "standing"] ["value", "letters", "many"] 60 = true := by decide +kernel
theorem c13 : defC prog f13 (top 24) ["machine", "cut", "word", "standings", "good", "places", "place"] ["machine", "cut", "word"] 60 = true := by decide +kernel
theorem c14 : defC prog f14 (top 25) ["machine", "value"] ["machine", "value"] 60 = true := by decide +kernel
theorem c15 : defC prog f15 (top 26) ["machine", "value"] ["machine", "value"] 60 = true := by decide +kernel
theorem c16 : defC prog f16 (top 27) ["part", "whole", "standing"] ["part", "whole"] 60 = true := by decide +kernel
theorem c17 : defC prog f17 (top 28) ["moves", "part", "number", "standing", "row"] ["moves", "part", "number"] 60 = true := by decide +kernel
theorem c18 : defC prog f18 (top 30) ["cell", "at", "primes", "mixed", "one", "rest", "two", "three"] ["cell", "at"] 60 = true := by decide +kernel
theorem c19 : defC prog f19 (top 31) ["script", "cells", "k", "cell"] ["script"] 60 = true := by decide +kernel
theorem c20 : defC prog f20 (top 32) ["pen", "many", "found", "at", "cell"] ["pen", "many"] 60 = true := by decide +kernel
theorem c21 : defC prog f21 (top 33) ["pen"] ["pen"] 60 = true := by decide +kernel
theorem c22 : defC prog f22 (top 34) ["pen", "some"] ["pen", "some"] 60 = true := by decide +kernel
theorem c23 : defC prog f23 (top 35) ["machine", "standing", "word", "sign"] ["machine", "standing", "word"] 60 = true := by decide +kernel
theorem c24 : defC prog f24 (top 36) ["letters", "most", "length", "found", "last", "longer", "word", "sign"] ["letters", "most"] 60 = true := by decide +kernel
theorem c25 : defC prog f25 (top 37) ["pen", "letters", "most", "place"] ["pen", "letters", "most"] 60 = true := by decide +kernel
theorem c26 : defC prog f26 (top 38) ["pen", "letters", "many", "standing", "odds", "ends", "sort", "moves", "row", "number", "to"] ["pen", "letters", "many"] 60 = true := by decide +kernel
theorem c27 : defC prog f27 (top 39) ["pen", "most", "letters", "some", "good", "own"] ["pen", "most"] 60 = true := by decide +kernel
theorem c28 : defC prog f28 (top 40) ["machine", "found", "standing", "own"] ["machine"] 60 = true := by decide +kernel
theorem c29 : defC prog f29 (top 41) ["machine", "some", "standing"] ["machine", "some"] 60 = true := by decide +kernel
theorem c30 : defC prog f30 (top 42) ["machine", "cut", "word", "found", "place", "ends", "standing"] ["machine", "cut", "word"] 60 = true := by decide +kernel
theorem c31 : defC prog f31 (top 43) ["script", "pen", "turn", "every", "machine", "words", "word", "cut", "kept", "due", "told", "step"] ["script"] 60 = true := by decide +kernel
end K07
end
section
set_option Elab.async false
set_option linter.all false
set_option maxRecDepth 100000
set_option autoImplicit false
set_option maxHeartbeats 4000000
open PySem PySem.Spec
namespace K07
open DL L2 CL
local macro_rules | `(tactic| decreasing_tactic) => `(tactic| repeat (first | ((with_reducible apply slot_d); · exact rfl) | ((with_reducible apply so_rfl); · exact rfl) | ((with_reducible apply wo_rfl); · exact rfl) | ((with_reducible refine (wb_cons (s := IS.set _ _)).mpr ?_); try dsimp only [setD, setOwn, List.set_cons_zero, List.set_cons_succ]) | ((with_reducible refine (wb_cons (s := IS.ret _)).mpr ?_); try dsimp only [setD, setOwn, List.set_cons_zero, List.set_cons_succ]) | ((with_reducible refine (wb_cons (s := IS.sto _ _ _)).mpr ?_); try dsimp only [setD, setOwn, List.set_cons_zero, List.set_cons_succ]) | ((with_reducible refine (wb_cons (s := IS.app _ _)).mpr ?_); try dsimp only [setD, setOwn, List.set_cons_zero, List.set_cons_succ]) | ((with_reducible refine (wb_cons (s := IS.own _ _)).mpr ?_); try dsimp only [setD, setOwn, List.set_cons_zero, List.set_cons_succ]) | ((with_reducible refine (wb_cons (s := IS.exp _)).mpr ?_); try dsimp only [setD, setOwn, List.set_cons_zero, List.set_cons_succ]) | ((with_reducible refine (wb_cons (s := IS.unp _ _)).mpr ?_); try dsimp only [setD, setOwn, List.set_cons_zero, List.set_cons_succ]) | ((with_reducible refine (wb_cons (s := IS.par _ _ _ _ _ _)).mpr ?_); try dsimp only [setD, setOwn, List.set_cons_zero, List.set_cons_succ]) | ((with_reducible refine (wb_cons (s := IS.pen _ _)).mpr ?_); try dsimp only [setD, setOwn, List.set_cons_zero, List.set_cons_succ]) | ((with_reducible refine (wb_cons (s := IS.iff _ _ _) (ss := [])).mpr ?_); try dsimp only [setD, setOwn, List.set_cons_zero, List.set_cons_succ]) | with_reducible refine ws_set.mpr ?_ | with_reducible refine ws_ret.mpr ?_ | with_reducible refine ws_iff.mpr ?_ | with_reducible refine ws_own.mpr ?_ | with_reducible refine ws_for.mpr ?_ | with_reducible refine ws_exp.mpr ?_ | with_reducible refine ws_unp.mpr ?_ | with_reducible refine ws_par.mpr ?_ | with_reducible refine ws_pen.mpr ?_ | with_reducible refine wb_nil.mpr ?_ | with_reducible refine we_slot.mpr ?_ | with_reducible refine we_cst.mpr ?_ | with_reducible refine we_bin.mpr ?_ | with_reducible refine we_bi1.mpr ?_ | with_reducible refine we_cmp.mpr ?_ | with_reducible refine we_idx.mpr ?_ | with_reducible refine we_call.mpr ?_ | with_reducible refine we_bop.mpr ?_ | with_reducible refine we_not.mpr ?_ | with_reducible refine we_chn.mpr ?_ | with_reducible refine we_tup.mpr ?_ | with_reducible refine we_lst.mpr ?_ | with_reducible refine we_neg.mpr ?_ | with_reducible refine we_ife.mpr ?_ | with_reducible refine we_bi2.mpr ?_ | with_reducible refine we_rngL.mpr ?_ | with_reducible refine we_slc.mpr ?_ | with_reducible refine we_rev.mpr ?_ | with_reducible refine we_lc.mpr ?_ | with_reducible refine we_idxS.mpr ?_ | with_reducible refine wr_of ?_ | with_reducible refine wkp_of ?_ | with_reducible refine wp_n ?_ | with_reducible refine wp_s ?_ | with_reducible refine wds_cons.mpr ?_ | with_reducible refine wds_nil.mpr ?_ | with_reducible refine was_cons.mpr ?_ | with_reducible refine was_nil.mpr ?_ | with_reducible refine wt_bop.mpr ?_ | with_reducible refine wt_not.mpr ?_ | with_reducible refine wt_cmp.mpr ?_ | with_reducible refine wt_chn.mpr ?_ | with_reducible refine wt_call.mpr ?_ | with_reducible refine wt_bi1.mpr ?_ | with_reducible refine wt_slot.mpr ?_ | with_reducible refine wt_idx.mpr ?_ | with_reducible refine wits_seq.mpr ?_ | with_reducible refine wits_rng.mpr ?_ | with_reducible refine wits_enu.mpr ?_ | with_reducible refine wits_zip.mpr ?_ | with_reducible refine cnd_n ?_ | with_reducible refine cnd_s ?_ | with_reducible refine we_allG ?_ | with_reducible refine wt_allG ?_ | with_reducible refine we_join.mpr ?_ | ((with_reducible apply ite_y); · exact rfl) | ((with_reducible apply ite_n); · exact rfl) | with_reducible refine sto_pen ?_ | ((with_reducible apply slot_pen); · exact rfl; · exact rfl) | ((with_reducible apply slot_own); · exact rfl) | ((with_reducible apply slot_scr); · exact rfl) | ((with_reducible apply so_id); refine so_ite ?_ ?_; · (first | decide | omega | exact mul_small (by omega) (by omega) (by omega) (by omega))) | ((fail_if_success (first | with_reducible apply wb_id | with_reducible apply wc_id | with_reducible apply wfor_id | with_reducible apply wlc_id)); refine ⟨_, _, rfl, rfl, ?_⟩) | ((fail_if_success (first | with_reducible apply wb_id | with_reducible apply wc_id | with_reducible apply wfor_id | with_reducible apply wlc_id)); refine ⟨rfl, ?_⟩) | ((fail_if_success (first | with_reducible apply wb_id | with_reducible apply wc_id | with_reducible apply wfor_id | with_reducible apply wlc_id)); refine ⟨_, _, _, rfl, rfl, rfl, rfl, ?_⟩)))
theorem integer_ok {n : Nat} {x : D} {p : Option (List D)} (hx : notDict x) {Q : R → Option (List D) → Prop} (k : Q (.d (.bool (isI x))) p) : WC fns (n + 10) 3 [.d x] p Q := whole_ok (nm := "is_integer") rfl hx k
theorem letters_ok {n : Nat} {x : D} {p : Option (List D)} (hx : notDict x) {Q : R → Option (List D) → Prop} (k : Q (.d (.bool (letB x))) p) : WC fns (n + 20) 4 [.d x] p Q := by
  rw [wc_def (fd := f4) rfl rfl]
  show WB fns (n + 19) b4 { env := [some (.d x)], pen := p } _
  unfold b4
  decreasing_tactic
  refine integer_ok hx ?_
  decreasing_tactic
  cases x with
  | int i =>
    decreasing_tactic
    refine ite_d (fun h => ?_) (fun h => ?_)
    · decreasing_tactic
      have e : letB (.int i) = decide (i ≤ 3) := by simp only [letB, decide_eq_true h, Bool.true_and]
      rw [e] at k
      exact k
    · decreasing_tactic
      have e : letB (.int i) = false := by simp only [letB, decide_eq_false h, Bool.false_and]
      rw [e] at k
      exact k
  | dict _ => exact hx.elim
  | _ =>
    decreasing_tactic
    exact k
theorem standings_ok {n : Nat} {x : D} {many : Int} {p : Option (List D)} (hx : notDict x) (hx2 : ∀ ds, x = .tuple ds → ∀ d ∈ ds, notDict d) {Q : R → Option (List D) → Prop} (k : Q (.d (.bool (stdB x many))) p) : WC fns (n + 30) 5 [.d x, .d (.int many)] p Q := by
  rw [wc_def (fd := f5) rfl rfl]
  show WB fns (n + 29) b5 { env := [some (.d x), some (.d (.int many)), none, none], pen := p } _
  unfold b5
  cases x with
  | dict _ => exact hx.elim
  | tuple ds =>
    refine wb_cons.mpr ?_
    decreasing_tactic
    refine wb_cons.mpr ?_
    decreasing_tactic
    refine wfor_inv (fun rest g => (∀ d ∈ rest, notDict d) ∧ ∃ (last : Int) (o : Option Sv), stdL many (-1) ds = stdL many last rest ∧ g = { env := [some (.d (.tuple ds)), some (.d (.int many)), some (.d (.int last)), o], pen := p }) ?_ ?_ ⟨hx2 ds rfl, _, _, rfl, rfl⟩
    · rintro d rest _ ⟨hd, last, o, e, rfl⟩
      have hd0 := hd d List.mem_cons_self
      have hdr : ∀ x ∈ rest, notDict x := fun x h => hd x (List.mem_cons_of_mem _ h)
      decreasing_tactic
      refine wb_cons.mpr ?_
      decreasing_tactic
      refine integer_ok hd0 ?_
      decreasing_tactic
      cases d with
      | dict _ => exact hd0.elim
      | int i =>
        decreasing_tactic
        refine ite_d (fun h => ?_) (fun h => ?_)
        · decreasing_tactic
          refine ite_nd (fun h2 => ?_) (fun h2 => ?_)
          · decreasing_tactic
            have e2 : stdB (.tuple ds) many = false := by rw [show stdB (.tuple ds) many = _ from e]; simp only [stdL, decide_eq_false h2, Bool.and_false, Bool.false_and]
            rw [e2] at k
            exact k
          · decreasing_tactic
            exact ⟨hdr, i, some (.d (.int i)), by rw [e]; simp only [stdL, decide_eq_true h, decide_eq_true h2, Bool.true_and], rfl⟩
        · decreasing_tactic
          have e2 : stdB (.tuple ds) many = false := by rw [show stdB (.tuple ds) many = _ from e]; simp only [stdL, decide_eq_false h, Bool.false_and]
          rw [e2] at k
          exact k
      | _ =>
        decreasing_tactic
        have e2 : stdB (.tuple ds) many = false := by rw [show stdB (.tuple ds) many = _ from e]; rfl
        rw [e2] at k
        exact k
    · rintro _ ⟨_, last, o, e, rfl⟩
      decreasing_tactic
      have : stdB (.tuple ds) many = true := e
      rw [this] at k
      exact k
  | _ =>
    refine wb_cons.mpr ?_
    decreasing_tactic
    exact k
theorem row_ok {n : Nat} {x : D} {letters many : Int} {p : Option (List D)} (hx : notDict x) (hx2 : ∀ ds, x = .tuple ds → ds.length < 1000 ∧ ∀ d ∈ ds, notDict d) {Q : R → Option (List D) → Prop} (k : Q (.d (.bool (rowB x letters many))) p) : WC fns (n + 40) 12 [.d x, .d (.int letters), .d (.int many)] p Q := by
  rw [wc_def (fd := f12) rfl rfl]
  show WB fns (n + 39) b12 { env := [some (.d x), some (.d (.int letters)), some (.d (.int many)), none], pen := p } _
  unfold b12
  refine wb_cons.mpr ?_
  cases x with
  | dict _ => exact hx.elim
  | tuple ds =>
    decreasing_tactic
    refine ite_nd (fun h => ?_) (fun h => ?_)
    · decreasing_tactic
      have e : rowB (.tuple ds) letters many = false := by simp only [rowB, decide_eq_false h, Bool.false_and]
      rw [e] at k
      exact k
    · decreasing_tactic
      obtain ⟨hlen, hnd⟩ := hx2 ds rfl
      refine wlc_inv (fun rest acc g => (∀ d ∈ rest, notDict d) ∧ (∃ done, ds = done ++ rest ∧ acc = done.map fun d => .bool (entB many d)) ∧ ∃ o : Option Sv, g = { env := [some (.d (.tuple ds)), some (.d (.int letters)), some (.d (.int many)), o], pen := p }) ?_ ?_ ⟨hnd, ⟨[], rfl, rfl⟩, _, rfl⟩
      · rintro d rest acc _ ⟨hd, ⟨done, e1, e2⟩, o, rfl⟩
        have hd0 := hd d List.mem_cons_self
        have hdr : ∀ x ∈ rest, notDict x := fun x h => hd x (List.mem_cons_of_mem _ h)
        have ha : acc.length < szL := by
          have := congrArg List.length e1
          rw [e2, List.length_map]
          rw [List.length_append, List.length_cons] at this
          unfold szL
          omega
        have nxt : ∀ b, b = entB many d → ∃ done', ds = done' ++ rest ∧ acc ++ [PyData.bool b] = done'.map fun d => .bool (entB many d) := fun b hb => ⟨done ++ [d], by rw [e1]; simp, by rw [e2, hb]; simp⟩
        decreasing_tactic
        refine integer_ok hd0 ?_
        decreasing_tactic
        cases d with
        | dict _ => exact hd0.elim
        | int i =>
          decreasing_tactic
          refine ite_d (fun h => ?_) (fun h => ?_)
          · decreasing_tactic
            exact ⟨ha, hdr, nxt _ (by simp only [entB, decide_eq_true h, Bool.true_and]), _, rfl⟩
          · decreasing_tactic
            exact ⟨ha, hdr, nxt _ (by simp only [entB, decide_eq_false h, Bool.false_and]), _, rfl⟩
        | _ =>
          decreasing_tactic
          exact ⟨ha, hdr, nxt _ rfl, _, rfl⟩
      · rintro acc _ ⟨_, ⟨done, e1, e2⟩, o, rfl⟩
        rw [List.append_nil] at e1
        subst e1
        subst e2
        decreasing_tactic
        refine so_rfl (a := .d (.bool ((ds.map (entB many)).all id))) (by show (boolsD _).map _ = _; rw [boolsD_map]; rfl) ?_
        decreasing_tactic
        have e : rowB (.tuple ds) letters many = (ds.map (entB many)).all id := by simp only [rowB, decide_eq_true h, Bool.true_and, rowL_all]
        rw [e] at k
        exact k
  | _ =>
    decreasing_tactic
    exact k
theorem moves_ok {n : Nat} {x : D} {letters : Int} {p : Option (List D)} (hx : nd x) (hw : wid x) {Q : R → Option (List D) → Prop} (k : Q (.d (.bool (movB x letters))) p) : WC fns (n + 60) 11 [.d x, .d (.int letters)] p Q := by
  rw [wc_def (fd := f11) rfl rfl]
  show WB fns (n + 59) b11 { env := [some (.d x), some (.d (.int letters)), none], pen := p } _
  unfold b11
  refine wb_cons.mpr ?_
  have hx0 := nd_not hx
  cases x with
  | dict _ => exact hx0.elim
  | tuple ds =>
    simp only [wid] at hw
    obtain ⟨hlen, hws⟩ := hw
    have hrow := nd_tup hx
    have hwid := wid_all hws
    decreasing_tactic
    refine ite_d (fun h1 => ?_) (fun h1 => ?_)
    · decreasing_tactic
      refine ite_nd (fun h2 => ?_) (fun h2 => ?_)
      · decreasing_tactic
        have e : movB (.tuple ds) letters = false := by
          have : ¬ ds.length ≤ 32 := by omega
          simp only [movB, decide_eq_false this, Bool.and_false, Bool.false_and]
        rw [e] at k
        exact k
      · decreasing_tactic
        refine wlc_inv (fun rest acc g => (∀ d ∈ rest, d ∈ ds) ∧ (∃ done, ds = done ++ rest ∧ acc = done.map fun d => .bool (rowB d letters ds.length)) ∧ ∃ o : Option Sv, g = { env := [some (.d (.tuple ds)), some (.d (.int letters)), o], pen := p }) ?_ ?_ ⟨fun _ h => h, ⟨[], rfl, rfl⟩, _, rfl⟩
        · rintro d rest acc _ ⟨hd, ⟨done, e1, e2⟩, o, rfl⟩
          have hd0 := hd d List.mem_cons_self
          have ha : acc.length < szL := by
            have := congrArg List.length e1
            rw [e2, List.length_map]
            rw [List.length_append, List.length_cons] at this
            unfold szL
            omega
          decreasing_tactic
          refine row_ok (nd_not (hrow d hd0)) (fun es he => ?_) ?_
          · subst he
            have hw2 := hwid _ hd0
            simp only [wid] at hw2
            exact ⟨hw2.1, fun x hx => nd_not (nd_tup (hrow _ hd0) x hx)⟩
          · decreasing_tactic
            exact ⟨ha, fun x h => hd x (List.mem_cons_of_mem _ h), ⟨done ++ [d], by rw [e1]; simp, by rw [e2, e1]; simp⟩, _, rfl⟩
        · rintro acc _ ⟨_, ⟨done, e1, e2⟩, o, rfl⟩
          rw [List.append_nil] at e1
          subst e1
          subst e2
          decreasing_tactic
          refine so_rfl (a := .d (.bool ((ds.map fun d => rowB d letters ds.length).all id))) (by show (boolsD _).map _ = _; rw [boolsD_map]; rfl) ?_
          decreasing_tactic
          have e : movB (.tuple ds) letters = (ds.map fun d => rowB d letters ds.length).all id := by
            have a1 : 1 ≤ ds.length := by omega
            have a2 : ds.length ≤ 32 := by omega
            simp only [movB, decide_eq_true a1, decide_eq_true a2, Bool.true_and, List.all_map]
            rfl
          rw [e] at k
          exact k
    · decreasing_tactic
      have e : movB (.tuple ds) letters = false := by
        have : ¬ 1 ≤ ds.length := by omega
        simp only [movB, decide_eq_false this, Bool.false_and]
      rw [e] at k
      exact k
  | _ =>
    decreasing_tactic
    exact k
theorem machine_ok {n : Nat} {x : D} {p : Option (List D)} (hx : nd x) (hw : wid x) {Q : R → Option (List D) → Prop} (k : Q (.d (.bool (machB x))) p) : WC fns (n + 90) 0 [.d x] p Q := by
  rw [wc_def (fd := f0) rfl rfl]
  show WB fns (n + 89) b0 { env := [some (.d x), none, none, none], pen := p } _
  unfold b0
  refine wb_cons.mpr ?_
  have hx0 := nd_not hx
  cases x with
  | dict _ => exact hx0.elim
  | tuple ds =>
    decreasing_tactic
    refine ite_nd (fun h => ?_) (fun h => ?_)
    · decreasing_tactic
      rw [machB_len (by omega)] at k
      exact k
    · obtain ⟨l, m, e, rfl⟩ := len3 (xs := ds) (by omega)
      have hn := nd_tup hx
      simp only [wid] at hw
      have hws := wid_all hw.2
      have nl := hn l (by simp)
      have nm := hn m (by simp)
      have ne := hn e (by simp)
      decreasing_tactic
      refine letters_ok (nd_not nl) ?_
      decreasing_tactic
      refine ite_b (fun h1 => ?_) (fun h1 => ?_)
      · cases l with
        | int i =>
          decreasing_tactic
          refine moves_ok nm (hws m (by simp)) ?_
          decreasing_tactic
          refine ite_b (fun h2 => ?_) (fun h2 => ?_)
          · cases m with
            | tuple ms =>
              decreasing_tactic
              refine standings_ok (nd_not ne) (fun es he => ?_) ?_
              · subst he
                exact fun x hx => nd_not (nd_tup ne x hx)
              · decreasing_tactic
                have e1 : machB (.tuple [.int i, .tuple ms, e]) = stdB e ms.length := by simp only [machB, movL, endB, h1, h2, Bool.true_and]
                rw [e1] at k
                exact k
            | _ => cases h2
          · decreasing_tactic
            have e1 : machB (.tuple [.int i, m, e]) = false := by simp only [machB, movL, h2, Bool.and_false, Bool.false_and]
            rw [e1, ← h2] at k
            exact k
        | _ => cases h1
      · decreasing_tactic
        have e1 : machB (.tuple [l, m, e]) = false := by simp only [machB, h1, Bool.false_and]
        rw [e1, ← h1] at k
        exact k
  | _ =>
    decreasing_tactic
    exact k
end K07
end
section
set_option Elab.async false
set_option linter.all false
set_option maxRecDepth 100000
set_option autoImplicit false
set_option maxHeartbeats 4000000
open PySem PySem.Spec
namespace K07
open DL L2 CL
local macro_rules | `(tactic| decreasing_tactic) => `(tactic| repeat (first | ((with_reducible apply slot_d); · exact rfl) | ((with_reducible apply so_rfl); · exact rfl) | ((with_reducible apply wo_rfl); · exact rfl) | ((with_reducible refine (wb_cons (s := IS.set _ _)).mpr ?_); try dsimp only [setD, setOwn, List.set_cons_zero, List.set_cons_succ]) | ((with_reducible refine (wb_cons (s := IS.ret _)).mpr ?_); try dsimp only [setD, setOwn, List.set_cons_zero, List.set_cons_succ]) | ((with_reducible refine (wb_cons (s := IS.sto _ _ _)).mpr ?_); try dsimp only [setD, setOwn, List.set_cons_zero, List.set_cons_succ]) | ((with_reducible refine (wb_cons (s := IS.app _ _)).mpr ?_); try dsimp only [setD, setOwn, List.set_cons_zero, List.set_cons_succ]) | ((with_reducible refine (wb_cons (s := IS.own _ _)).mpr ?_); try dsimp only [setD, setOwn, List.set_cons_zero, List.set_cons_succ]) | ((with_reducible refine (wb_cons (s := IS.exp _)).mpr ?_); try dsimp only [setD, setOwn, List.set_cons_zero, List.set_cons_succ]) | ((with_reducible refine (wb_cons (s := IS.unp _ _)).mpr ?_); try dsimp only [setD, setOwn, List.set_cons_zero, List.set_cons_succ]) | ((with_reducible refine (wb_cons (s := IS.par _ _ _ _ _ _)).mpr ?_); try dsimp only [setD, setOwn, List.set_cons_zero, List.set_cons_succ]) | ((with_reducible refine (wb_cons (s := IS.pen _ _)).mpr ?_); try dsimp only [setD, setOwn, List.set_cons_zero, List.set_cons_succ]) | ((with_reducible refine (wb_cons (s := IS.iff _ _ _) (ss := [])).mpr ?_); try dsimp only [setD, setOwn, List.set_cons_zero, List.set_cons_succ]) | with_reducible refine ws_set.mpr ?_ | with_reducible refine ws_ret.mpr ?_ | with_reducible refine ws_iff.mpr ?_ | with_reducible refine ws_own.mpr ?_ | with_reducible refine ws_for.mpr ?_ | with_reducible refine ws_exp.mpr ?_ | with_reducible refine ws_unp.mpr ?_ | with_reducible refine ws_par.mpr ?_ | with_reducible refine ws_pen.mpr ?_ | with_reducible refine wb_nil.mpr ?_ | with_reducible refine we_slot.mpr ?_ | with_reducible refine we_cst.mpr ?_ | with_reducible refine we_bin.mpr ?_ | with_reducible refine we_bi1.mpr ?_ | with_reducible refine we_cmp.mpr ?_ | with_reducible refine we_idx.mpr ?_ | with_reducible refine we_call.mpr ?_ | with_reducible refine we_bop.mpr ?_ | with_reducible refine we_not.mpr ?_ | with_reducible refine we_chn.mpr ?_ | with_reducible refine we_tup.mpr ?_ | with_reducible refine we_lst.mpr ?_ | with_reducible refine we_neg.mpr ?_ | with_reducible refine we_ife.mpr ?_ | with_reducible refine we_bi2.mpr ?_ | with_reducible refine we_rngL.mpr ?_ | with_reducible refine we_slc.mpr ?_ | with_reducible refine we_rev.mpr ?_ | with_reducible refine we_lc.mpr ?_ | with_reducible refine we_idxS.mpr ?_ | with_reducible refine wr_of ?_ | with_reducible refine wkp_of ?_ | with_reducible refine wp_n ?_ | with_reducible refine wp_s ?_ | with_reducible refine wds_cons.mpr ?_ | with_reducible refine wds_nil.mpr ?_ | with_reducible refine was_cons.mpr ?_ | with_reducible refine was_nil.mpr ?_ | with_reducible refine wt_bop.mpr ?_ | with_reducible refine wt_not.mpr ?_ | with_reducible refine wt_cmp.mpr ?_ | with_reducible refine wt_chn.mpr ?_ | with_reducible refine wt_call.mpr ?_ | with_reducible refine wt_bi1.mpr ?_ | with_reducible refine wt_slot.mpr ?_ | with_reducible refine wt_idx.mpr ?_ | with_reducible refine wits_seq.mpr ?_ | with_reducible refine wits_rng.mpr ?_ | with_reducible refine wits_enu.mpr ?_ | with_reducible refine wits_zip.mpr ?_ | with_reducible refine cnd_n ?_ | with_reducible refine cnd_s ?_ | with_reducible refine we_allG ?_ | with_reducible refine wt_allG ?_ | with_reducible refine we_join.mpr ?_ | ((with_reducible apply ite_y); · exact rfl) | ((with_reducible apply ite_n); · exact rfl) | with_reducible refine sto_pen ?_ | ((with_reducible apply slot_pen); · exact rfl; · exact rfl) | ((with_reducible apply slot_own); · exact rfl) | ((with_reducible apply slot_scr); · exact rfl) | ((with_reducible apply so_id); refine so_ite ?_ ?_; · (first | decide | omega | exact mul_small (by omega) (by omega) (by omega) (by omega))) | ((fail_if_success (first | with_reducible apply wb_id | with_reducible apply wc_id | with_reducible apply wfor_id | with_reducible apply wlc_id)); refine ⟨_, _, rfl, rfl, ?_⟩) | ((fail_if_success (first | with_reducible apply wb_id | with_reducible apply wc_id | with_reducible apply wfor_id | with_reducible apply wlc_id)); refine ⟨rfl, ?_⟩) | ((fail_if_success (first | with_reducible apply wb_id | with_reducible apply wc_id | with_reducible apply wfor_id | with_reducible apply wlc_id)); refine ⟨_, _, _, rfl, rfl, rfl, rfl, ?_⟩)))
theorem take8 {n : Nat} {cs : List Int} {at_ cell many : Int} (h0 : 0 ≤ at_) (h1 : at_ ≤ 900000) (h2 : 1 ≤ many) (h3 : many < 2 ^ 60)
    {Q : R → Option (List D) → Prop} (k : ∀ z a c : Int, 0 ≤ z → z < many → at_ ≤ a → a ≤ at_ + 1 → Q (.d (.int z)) (some (Pn cs a c))) : WC fns (n + 50) 20 [.pen, .d (.int many)] (some (Pn cs at_ cell)) Q :=
  take_ok (nm := "_law_take") (nm2 := "_law_spread") (sp := 18) rfl rfl h0 h1 h2 h3 k
theorem one10 {n : Nat} {cs : List Int} {at_ cell : Int} {xs : List D} (h0 : 0 ≤ at_) (h1 : at_ ≤ 900000) (h2 : 1 ≤ xs.length) (h3 : xs.length < 1000000)
    {Q : R → Option (List D) → Prop} (k : ∀ x ∈ xs, ∀ a c : Int, at_ ≤ a → a ≤ at_ + 1 → Q (.d x) (some (Pn cs a c))) : WC fns (n + 60) 22 [.pen, .d (.list xs)] (some (Pn cs at_ cell)) Q :=
  one_ok (nm := "_law_one") (nm2 := "_law_spread") (nm3 := "_law_take") (tk := 20) (sp := 18) rfl rfl rfl h0 h1 h2 h3 k
theorem anew9 {n : Nat} {cs : List Int} {at_ cell : Int} {Q : R → Option (List D) → Prop} (k : Q .pen (some (Pn cs at_ 0))) : WC fns (n + 10) 21 [.pen] (some (Pn cs at_ cell)) Q := anew_ok (nm := "_law_anew") rfl k
theorem open7 {n : Nat} {ns : List Int} {Q : R → Option (List D) → Prop} (k : ∀ cs : List Int, cs.length ≤ 12 → Q (.fr (Pn cs 0 0)) none) : WC fns (n + 60) 19 [.scr ns] none Q := open_ok (nm := "_law_open") rfl k
theorem drawn_ok {n : Nat} {cs : List Int} {at_ cell letters many : Int} (h0 : 0 ≤ at_) (h1 : at_ ≤ 800000) (hl0 : 1 ≤ letters) (hl1 : letters ≤ 3) (hm0 : 1 ≤ many) (hm1 : many ≤ 40) {Q : R → Option (List D) → Prop}
    (k : ∀ (rows : List D) (ends : List Int) (a c : Int), at_ ≤ a → a ≤ at_ + 400 → (rows.length : Int) = many → (∀ r ∈ rows, RowI letters many r) → ends.length ≤ 40 → (∀ i ∈ ends, 0 ≤ i ∧ i < many) → ends.Pairwise (· < ·) → Q (.d (.tuple [.int letters, .tuple rows, .tuple (ends.map .int)])) (some (Pn cs a c))) :
    WC fns (n + 90) 26 [.pen, .d (.int letters), .d (.int many)] (some (Pn cs at_ cell)) Q := by
  rw [wc_def (fd := f26) rfl rfl]
  show WB fns (n + 89) b26 { env := [some .pen, some (.d (.int letters)), some (.d (.int many)), none, none, none, none, none, none, none, none], pen := some (Pn cs at_ cell) } _
  unfold b26
  decreasing_tactic
  refine one10 h0 (by omega) (by simp only [List.length_cons, List.length_nil]; omega) (by simp only [List.length_cons, List.length_nil]; omega) fun x hx a0 c0 la0 ua0 => ?_
  obtain ⟨s, rfl⟩ : ∃ s : Int, x = .int s := by
    simp only [List.mem_cons, List.not_mem_nil, or_false] at hx
    rcases hx with rfl | rfl | rfl | rfl | rfl <;> exact ⟨_, rfl⟩
  decreasing_tactic
  refine wb_cons.mpr ?_
  decreasing_tactic
  obtain ⟨rs, er, lr, br, pr⟩ := rng_ints (m := many) (by omega) (by omega)
  rw [er]
  refine wfor_inv (fun rest g => ∃ (todo : List Int) (rows : List D) (a c : Int) (o3 o8 o9 o10 : Option Sv), rest = todo.map .int ∧ (rows.length : Int) + todo.length = many ∧ (∀ i ∈ todo, 0 ≤ i ∧ i < many) ∧ (∀ r ∈ rows, RowI letters many r) ∧ at_ ≤ a ∧ a ≤ at_ + 1 + 6 * rows.length ∧ g = { env := [some .pen, some (.d (.int letters)), some (.d (.int many)), o3, none, none, some (.d (.int s)), some (.own rows), o8, o9, o10], pen := some (Pn cs a c) }) ?_ ?_ ⟨rs, [], a0, c0, _, _, _, _, rfl, by simpa using lr, br, (fun r hr => nomatch hr), la0, by simpa using ua0, rfl⟩
  · rintro d rest _ ⟨todo, rows, a, c, o3, o8, o9, o10, e1, e2, e3, e4, la, ua, rfl⟩
    cases todo with
    | nil => cases e1
    | cons st todo =>
      rw [List.map_cons] at e1
      cases e1
      rw [List.length_cons] at e2
      have hst := e3 st List.mem_cons_self
      have e3' : ∀ i ∈ todo, 0 ≤ i ∧ i < many := fun i h => e3 i (List.mem_cons_of_mem _ h)
      have hrl : rows.length ≤ 39 := by omega
      decreasing_tactic
      refine wb_cons.mpr ?_
      decreasing_tactic
      obtain ⟨qs, eq, lq, bq, _⟩ := rng_ints (m := letters) (by omega) (by omega)
      rw [eq]
      refine wfor_inv (fun rest g => ∃ (todo2 row : List Int) (a c : Int) (o9 o10 : Option Sv), rest = todo2.map .int ∧ (row.length : Int) + todo2.length = letters ∧ (∀ i ∈ row, 0 ≤ i ∧ i < many) ∧ at_ ≤ a ∧ a ≤ at_ + 1 + 6 * rows.length + 2 * row.length ∧ g = { env := [some .pen, some (.d (.int letters)), some (.d (.int many)), some (.d (.int st)), none, none, some (.d (.int s)), some (.own rows), some (.own (row.map .int)), o9, o10], pen := some (Pn cs a c) }) ?_ ?_ ⟨qs, [], a, c, _, _, rfl, by simpa using lq, (fun r hr => nomatch hr), la, by simpa using ua, rfl⟩
      · rintro d rest2 _ ⟨todo2, row, a, c, o9, o10, e5, e6, e7, la, ua, rfl⟩
        cases todo2 with
        | nil => cases e5
        | cons nu todo2 =>
          rw [List.map_cons] at e5
          cases e5
          rw [List.length_cons] at e6
          have hrw : row.length ≤ 2 := by omega
          decreasing_tactic
          refine take8 (by omega) (by omega) hm0 (by omega) fun z a c hz0 hz1 la2 ua2 => ?_
          decreasing_tactic
          refine wb_cut (fun g1 => ∃ (to a' c' : Int), 0 ≤ to ∧ to < many ∧ a ≤ a' ∧ a' ≤ a + 1 ∧ g1 = { env := [some .pen, some (.d (.int letters)), some (.d (.int many)), some (.d (.int st)), none, none, some (.d (.int s)), some (.own rows), some (.own (row.map .int)), some (.d (.int nu)), some (.d (.int to))], pen := some (Pn cs a' c') }) ?_ ?_
          · decreasing_tactic
            refine ite_d (fun _ => ?_) (fun _ => ?_)
            · decreasing_tactic
              refine one10 (by omega) (by omega) (by simp only [List.length_cons, List.length_nil]; omega) (by simp only [List.length_cons, List.length_nil]; omega) fun x hx a3 c3 la3 ua3 => ?_
              obtain ⟨t, rfl, ht0⟩ : ∃ t : Int, x = .int t ∧ 0 ≤ t := by
                simp only [List.mem_cons, List.not_mem_nil, or_false] at hx
                rcases hx with rfl | rfl | rfl | rfl | rfl <;> exact ⟨_, rfl, by omega⟩
              decreasing_tactic
              refine ⟨_, a3, c3, ?_, ?_, la3, ua3, rfl⟩
              · split <;> omega
              · split <;> omega
            · decreasing_tactic
              refine ite_d (fun _ => ?_) (fun _ => ?_)
              · decreasing_tactic
                refine one10 (by omega) (by omega) (by simp only [List.length_cons, List.length_nil]; omega) (by simp only [List.length_cons, List.length_nil]; omega) fun x hx a3 c3 la3 ua3 => ?_
                obtain ⟨t, rfl, ht0, ht1⟩ : ∃ t : Int, x = .int t ∧ 0 ≤ t ∧ t < many := by
                  simp only [List.mem_cons, List.not_mem_nil, or_false] at hx
                  rcases hx with rfl | rfl | rfl | rfl
                  · exact ⟨_, rfl, by omega, by omega⟩
                  · exact ⟨_, rfl, by omega, by omega⟩
                  · exact ⟨_, rfl, by split <;> omega, by split <;> omega⟩
                  · exact ⟨_, rfl, by omega, by omega⟩
                decreasing_tactic
                exact ⟨t, a3, c3, ht0, ht1, la3, ua3, rfl⟩
              · decreasing_tactic
                exact ⟨z, a, c, hz0, hz1, by omega, by omega, rfl⟩
          · rintro _ ⟨to, a', c', ht0, ht1, la3, ua3, rfl⟩
            refine wb_cons.mpr ?_
            refine app_own trivial ?_
            decreasing_tactic
            refine ⟨_, rfl, by rw [List.length_map]; unfold szL; omega, ?_⟩
            decreasing_tactic
            refine ⟨todo2, row ++ [to], a', c', _, _, rfl, by simp only [List.length_append, List.length_cons, List.length_nil]; omega, ?_, by omega, by simp only [List.length_append, List.length_cons, List.length_nil]; omega, by rw [List.map_append]; rfl⟩
            intro i hi
            rcases List.mem_append.mp hi with h | h
            · exact e7 i h
            · cases List.mem_singleton.mp h
              exact ⟨ht0, ht1⟩
      · rintro _ ⟨todo2, row, a, c, o9, o10, e5, e6, e7, la, ua, rfl⟩
        cases todo2 with
        | cons _ _ => cases e5
        | nil =>
          rw [List.length_nil] at e6
          decreasing_tactic
          refine app_own trivial ?_
          decreasing_tactic
          refine ⟨_, rfl, by unfold szL; omega, ?_⟩
          decreasing_tactic
          refine ⟨todo, rows ++ [.tuple (row.map .int)], a, c, _, _, _, _, rfl, by simp only [List.length_append, List.length_cons, List.length_nil]; omega, e3', ?_, la, by simp only [List.length_append, List.length_cons, List.length_nil]; omega, rfl⟩
          intro r hr
          rcases List.mem_append.mp hr with h | h
          · exact e4 r h
          · cases List.mem_singleton.mp h
            exact ⟨row, rfl, by omega, e7⟩
  · rintro _ ⟨todo, rows, a, c, o3, o8, o9, o10, e1, e2, e3, e4, la, ua, rfl⟩
    cases todo with
    | cons _ _ => cases e1
    | nil =>
      rw [List.length_nil] at e2
      have ua' : a ≤ at_ + 250 := by omega
      clear ua
      decreasing_tactic
      refine one10 (by omega) (by omega) (by simp only [List.length_cons, List.length_nil]; omega) (by simp only [List.length_cons, List.length_nil]; omega) fun x hx a1 c1 la1 ua1 => ?_
      obtain ⟨od, rfl, hod0, hod1⟩ : ∃ t : Int, x = .int t ∧ 1 ≤ t ∧ t < 10 := by
        simp only [List.mem_cons, List.not_mem_nil, or_false] at hx
        rcases hx with rfl | rfl | rfl | rfl <;> exact ⟨_, rfl, by omega, by omega⟩
      decreasing_tactic
      rw [er]
      refine wlc_inv (fun rest acc g => ∃ (todo ends : List Int) (a c : Int) (o3 : Option Sv), rest = todo.map .int ∧ acc = ends.map .int ∧ (ends.length : Int) + todo.length ≤ many ∧ (∀ i ∈ todo, 0 ≤ i ∧ i < many) ∧ (∀ i ∈ ends, 0 ≤ i ∧ i < many) ∧ (ends ++ todo).Pairwise (· < ·) ∧ at_ ≤ a ∧ a + todo.length ≤ at_ + 300 ∧ g = { env := [some .pen, some (.d (.int letters)), some (.d (.int many)), o3, some (.d (.int od)), none, some (.d (.int s)), some (.own rows), o8, o9, o10], pen := some (Pn cs a c) }) ?_ ?_ ⟨rs, [], a1, c1, _, rfl, rfl, by simp only [List.length_nil]; omega, br, (fun r hr => nomatch hr), pr, by omega, by omega, rfl⟩
      · rintro d rest acc _ ⟨todo, ends, a, c, o3, e5, e6, e7, e8, e9, e10, la, ua, rfl⟩
        cases todo with
        | nil => cases e5
        | cons st todo =>
          rw [List.map_cons] at e5
          cases e5
          rw [List.length_cons] at e7 ua
          subst e6
          have hst := e8 st List.mem_cons_self
          have e8' : ∀ i ∈ todo, 0 ≤ i ∧ i < many := fun i h => e8 i (List.mem_cons_of_mem _ h)
          decreasing_tactic
          refine take8 (by omega) (by omega) hod0 (by omega) fun z a2 c2 hz0 hz1 la2 ua2 => ?_
          decreasing_tactic
          refine ite_d (fun _ => ?_) (fun _ => ?_)
          · decreasing_tactic
            refine ⟨by rw [List.length_map]; unfold szL; omega, todo, ends ++ [st], a2, c2, _, rfl, by rw [List.map_append]; rfl, by simp only [List.length_append, List.length_cons, List.length_nil]; omega, e8', ?_, by simpa using e10, by omega, by omega, rfl⟩
            intro i hi
            rcases List.mem_append.mp hi with h | h
            · exact e9 i h
            · cases List.mem_singleton.mp h
              exact hst
          · exact ⟨todo, ends, a2, c2, _, rfl, rfl, by omega, e8', e9, List.Pairwise.sublist (List.Sublist.append_left (List.sublist_cons_self _ _) _) e10, by omega, by omega, rfl⟩
      · rintro acc _ ⟨todo, ends, a, c, o3, e5, e6, e7, e8, e9, e10, la, ua, rfl⟩
        cases todo with
        | cons _ _ => cases e5
        | nil =>
          rw [List.length_nil] at e7 ua
          rw [List.append_nil] at e10
          subst e6
          decreasing_tactic
          refine wb_cut (fun g1 => ∃ (ends : List Int) (a c : Int) (o3 : Option Sv), ends.length ≤ 40 ∧ (∀ i ∈ ends, 0 ≤ i ∧ i < many) ∧ ends.Pairwise (· < ·) ∧ at_ ≤ a ∧ a ≤ at_ + 310 ∧ g1 = { env := [some .pen, some (.d (.int letters)), some (.d (.int many)), o3, some (.d (.int od)), some (.d (.list (ends.map .int))), some (.d (.int s)), some (.own rows), o8, o9, o10], pen := some (Pn cs a c) }) ?_ ?_
          · decreasing_tactic
            refine so_rfl (eq_nil _) ?_
            decreasing_tactic
            refine ite_b (fun he => ?_) (fun he => ?_)
            · decreasing_tactic
              refine take8 (by omega) (by omega) (by omega) (by omega) fun z a2 c2 hz0 hz1 la2 ua2 => ?_
              decreasing_tactic
              refine ite_d (fun _ => ?_) (fun _ => ?_)
              · decreasing_tactic
                refine take8 (by omega) (by omega) hm0 (by omega) fun z a3 c3 hz0 hz1 la3 ua3 => ?_
                decreasing_tactic
                exact ⟨[z], a3, c3, _, by simp, by intro i hi; cases List.mem_singleton.mp hi; exact ⟨hz0, hz1⟩, List.pairwise_singleton _ _, by omega, by omega, rfl⟩
              · decreasing_tactic
                exact ⟨ends, a2, c2, _, by omega, e9, e10, by omega, by omega, rfl⟩
            · rw [he]
              decreasing_tactic
              exact ⟨ends, a, c, _, by omega, e9, e10, by omega, by omega, rfl⟩
          · rintro _ ⟨ends, a, c, o3, he, hb, hp, la, ua, rfl⟩
            decreasing_tactic
            exact k rows ends a c la (by omega) (by omega) e4 he hb hp
end K07
end
section
set_option Elab.async false
set_option linter.all false
set_option maxRecDepth 100000
set_option autoImplicit false
set_option maxHeartbeats 4000000
open PySem PySem.Spec
namespace K07
open DL L2 CL
local macro_rules | `(tactic| decreasing_tactic) => `(tactic| repeat (first | ((with_reducible apply slot_d); · exact rfl) | ((with_reducible apply so_rfl); · exact rfl) | ((with_reducible apply wo_rfl); · exact rfl) | ((with_reducible refine (wb_cons (s := IS.set _ _)).mpr ?_); try dsimp only [setD, setOwn, List.set_cons_zero, List.set_cons_succ]) | ((with_reducible refine (wb_cons (s := IS.ret _)).mpr ?_); try dsimp only [setD, setOwn, List.set_cons_zero, List.set_cons_succ]) | ((with_reducible refine (wb_cons (s := IS.sto _ _ _)).mpr ?_); try dsimp only [setD, setOwn, List.set_cons_zero, List.set_cons_succ]) | ((with_reducible refine (wb_cons (s := IS.app _ _)).mpr ?_); try dsimp only [setD, setOwn, List.set_cons_zero, List.set_cons_succ]) | ((with_reducible refine (wb_cons (s := IS.own _ _)).mpr ?_); try dsimp only [setD, setOwn, List.set_cons_zero, List.set_cons_succ]) | ((with_reducible refine (wb_cons (s := IS.exp _)).mpr ?_); try dsimp only [setD, setOwn, List.set_cons_zero, List.set_cons_succ]) | ((with_reducible refine (wb_cons (s := IS.unp _ _)).mpr ?_); try dsimp only [setD, setOwn, List.set_cons_zero, List.set_cons_succ]) | ((with_reducible refine (wb_cons (s := IS.par _ _ _ _ _ _)).mpr ?_); try dsimp only [setD, setOwn, List.set_cons_zero, List.set_cons_succ]) | ((with_reducible refine (wb_cons (s := IS.pen _ _)).mpr ?_); try dsimp only [setD, setOwn, List.set_cons_zero, List.set_cons_succ]) | ((with_reducible refine (wb_cons (s := IS.iff _ _ _) (ss := [])).mpr ?_); try dsimp only [setD, setOwn, List.set_cons_zero, List.set_cons_succ]) | with_reducible refine ws_set.mpr ?_ | with_reducible refine ws_ret.mpr ?_ | with_reducible refine ws_iff.mpr ?_ | with_reducible refine ws_own.mpr ?_ | with_reducible refine ws_for.mpr ?_ | with_reducible refine ws_exp.mpr ?_ | with_reducible refine ws_unp.mpr ?_ | with_reducible refine ws_par.mpr ?_ | with_reducible refine ws_pen.mpr ?_ | with_reducible refine wb_nil.mpr ?_ | with_reducible refine we_slot.mpr ?_ | with_reducible refine we_cst.mpr ?_ | with_reducible refine we_bin.mpr ?_ | with_reducible refine we_bi1.mpr ?_ | with_reducible refine we_cmp.mpr ?_ | with_reducible refine we_idx.mpr ?_ | with_reducible refine we_call.mpr ?_ | with_reducible refine we_bop.mpr ?_ | with_reducible refine we_not.mpr ?_ | with_reducible refine we_chn.mpr ?_ | with_reducible refine we_tup.mpr ?_ | with_reducible refine we_lst.mpr ?_ | with_reducible refine we_neg.mpr ?_ | with_reducible refine we_ife.mpr ?_ | with_reducible refine we_bi2.mpr ?_ | with_reducible refine we_rngL.mpr ?_ | with_reducible refine we_slc.mpr ?_ | with_reducible refine we_rev.mpr ?_ | with_reducible refine we_lc.mpr ?_ | with_reducible refine we_idxS.mpr ?_ | with_reducible refine wr_of ?_ | with_reducible refine wkp_of ?_ | with_reducible refine wp_n ?_ | with_reducible refine wp_s ?_ | with_reducible refine wds_cons.mpr ?_ | with_reducible refine wds_nil.mpr ?_ | with_reducible refine was_cons.mpr ?_ | with_reducible refine was_nil.mpr ?_ | with_reducible refine wt_bop.mpr ?_ | with_reducible refine wt_not.mpr ?_ | with_reducible refine wt_cmp.mpr ?_ | with_reducible refine wt_chn.mpr ?_ | with_reducible refine wt_call.mpr ?_ | with_reducible refine wt_bi1.mpr ?_ | with_reducible refine wt_slot.mpr ?_ | with_reducible refine wt_idx.mpr ?_ | with_reducible refine wits_seq.mpr ?_ | with_reducible refine wits_rng.mpr ?_ | with_reducible refine wits_enu.mpr ?_ | with_reducible refine wits_zip.mpr ?_ | with_reducible refine cnd_n ?_ | with_reducible refine cnd_s ?_ | with_reducible refine we_allG ?_ | with_reducible refine wt_allG ?_ | with_reducible refine we_join.mpr ?_ | ((with_reducible apply ite_y); · exact rfl) | ((with_reducible apply ite_n); · exact rfl) | with_reducible refine sto_pen ?_ | ((with_reducible apply slot_pen); · exact rfl; · exact rfl) | ((with_reducible apply slot_own); · exact rfl) | ((with_reducible apply slot_scr); · exact rfl) | ((with_reducible apply so_id); refine so_ite ?_ ?_; · (first | decide | omega | exact mul_small (by omega) (by omega) (by omega) (by omega))) | ((fail_if_success (first | with_reducible apply wb_id | with_reducible apply wc_id | with_reducible apply wfor_id | with_reducible apply wlc_id)); refine ⟨_, _, rfl, rfl, ?_⟩) | ((fail_if_success (first | with_reducible apply wb_id | with_reducible apply wc_id | with_reducible apply wfor_id | with_reducible apply wlc_id)); refine ⟨rfl, ?_⟩) | ((fail_if_success (first | with_reducible apply wb_id | with_reducible apply wc_id | with_reducible apply wfor_id | with_reducible apply wlc_id)); refine ⟨_, _, _, rfl, rfl, rfl, rfl, ?_⟩)))
section
variable {l many : Int} {nss : List (List Int)} {ends : List Int}
theorem check_ok (M : Mok l many nss ends) {n : Nat} {p : Option (List D)} {Q : R → Option (List D) → Prop} (k : Q (.d .none) p) : WC fns (n + 100) 8 [.d (machD l nss ends)] p Q := by
  rw [wc_def (fd := f8) rfl rfl]
  show WB fns (n + 99) b8 { env := [some (.d (machD l nss ends))], pen := p } _
  unfold b8
  decreasing_tactic
  refine machine_ok M.gd.nd M.gd.wid ?_
  rw [M.mach]
  decreasing_tactic
  exact k
def hasB (l : Int) : D → Bool
  | .str a => WordB l a
  | _ => false
theorem has_ok {n : Nat} {v : D} (hv : notDict v) {p : Option (List D)} {Q : R → Option (List D) → Prop} (k : Q (.d (.bool (hasB l v))) p) : WC fns (n + 30) 6 [.d (.int l), .d v] p Q := by
  rw [wc_def (fd := f6) rfl rfl]
  show WB fns (n + 29) b6 { env := [some (.d (.int l)), some (.d v), none], pen := p } _
  unfold b6
  cases v with
  | dict _ => exact hv.elim
  | str a =>
    decreasing_tactic
    exact k
  | _ =>
    decreasing_tactic
    exact k
theorem checkw_ok {n : Nat} {w : Str} (hw : WordB l w = true) {p : Option (List D)} {Q : R → Option (List D) → Prop} (k : Q (.d .none) p) : WC fns (n + 60) 9 [.d (machD l nss ends), .d (.str w)] p Q := by
  rw [wc_def (fd := f9) rfl rfl]
  show WB fns (n + 59) b9 { env := [some (.d (machD l nss ends)), some (.d (.str w))], pen := p } _
  unfold b9
  decreasing_tactic
  refine has_ok (v := .str w) trivial ?_
  rw [show hasB l (.str w) = true from hw]
  decreasing_tactic
  exact k
theorem last_at (init : List Int) (s : Int) : idxD (.list ((init ++ [s]).map .int)) (.int (-1)) = some (.int s) := by
  show atI _ (-1) = _
  unfold atI
  have e : ((init ++ [s]).map PyData.int).length = init.length + 1 := by simp
  have e2 : ixN (init.length + 1) (-1) = some init.length := by
    unfold ixN
    rw [if_neg (by decide)]
    split
    · congr 1
      omega
    · omega
  rw [e, e2]
  simp
theorem word_all {w : Str} (hw : WordB l w = true) : ∀ c ∈ w.cps.toList, c ∈ (lets l).cps.toList := fun c hc => by
  have := List.all_eq_true.mp hw c hc
  exact of_decide_eq_true this
theorem along_ok (M : Mok l many nss ends) {n : Nat} {w : Str} (hw : WordB l w = true) (hz : w.length ≤ 10000) {p : Option (List D)} {Q : R → Option (List D) → Prop} (k : ∀ init : List Int, Q (.fr ((init ++ [lead nss 0 w.cps.toList]).map .int)) p) : WC fns (n + 60) 7 [.d (machD l nss ends), .d (.str w)] p Q := by
  rw [wc_def (fd := f7) rfl rfl]
  show WB fns (n + 59) b7 { env := [some (.d (machD l nss ends)), some (.d (.str w)), none, none, none], pen := p } _
  unfold b7
  decreasing_tactic
  refine wb_cons.mpr ?_
  decreasing_tactic
  have m0 := M.m0
  refine wfor_inv (fun rest g => ∃ (todo : List Nat) (init : List Int) (s : Int) (o : Option Sv), rest = todo.map (fun c => PyData.str ⟨#[c]⟩) ∧ (∀ c ∈ todo, c ∈ (lets l).cps.toList) ∧ 0 ≤ s ∧ s < many ∧ lead nss s todo = lead nss 0 w.cps.toList ∧ init.length + todo.length = w.cps.toList.length ∧ g = { env := [some (.d (machD l nss ends)), some (.d (.str w)), some (.d (.tuple (nss.map fun ns => .tuple (ns.map .int)))), some (.own ((init ++ [s]).map .int)), o], pen := p }) ?_ ?_ ⟨w.cps.toList, [], 0, _, rfl, word_all hw, by omega, by omega, rfl, by simp, rfl⟩
  · rintro d rest _ ⟨todo, init, s, o, e1, hc, s0, s1, e2, e3, rfl⟩
    cases todo with
    | nil => cases e1
    | cons c todo =>
      rw [List.map_cons] at e1
      cases e1
      have hc0 := hc c List.mem_cons_self
      obtain ⟨_, t0, t1⟩ := stp_at M s0 s1 hc0
      have hzz : w.cps.toList.length ≤ 10000 := by simpa using (show w.cps.size ≤ 10000 from hz)
      rw [List.length_cons] at e3
      decreasing_tactic
      refine app_own trivial ?_
      decreasing_tactic
      refine so_rfl (last_at init s) ?_
      decreasing_tactic
      refine so_rfl (moves_at M s0 s1) ?_
      decreasing_tactic
      refine so_rfl (word_mem M.l0 M.l1 hc0).2.2 ?_
      decreasing_tactic
      refine so_rfl (letter_at M s0 s1 hc0) ?_
      decreasing_tactic
      refine ⟨_, rfl, by rw [List.length_map, List.length_append, List.length_singleton]; unfold szL; omega, ?_⟩
      decreasing_tactic
      exact ⟨todo, init ++ [s], stp nss s c, _, rfl, fun x hx => hc x (List.mem_cons_of_mem _ hx), t0, t1, e2, by rw [List.length_append, List.length_singleton]; omega, by rw [show ((init ++ [s]) ++ [stp nss s c]).map PyData.int = (init ++ [s]).map PyData.int ++ [PyData.int (stp nss s c)] from List.map_append ..]; rfl⟩
  · rintro _ ⟨todo, init, s, o, e1, hc, s0, s1, e2, e3, rfl⟩
    cases todo with
    | cons _ _ => cases e1
    | nil =>
      decreasing_tactic
      have e4 : s = lead nss 0 w.cps.toList := e2
      rw [e4]
      exact k init
theorem standing_ok (M : Mok l many nss ends) {n : Nat} {w : Str} (hw : WordB l w = true) (hz : w.length ≤ 10000) {p : Option (List D)} {Q : R → Option (List D) → Prop} (k : Q (.d (.int (lead nss 0 w.cps.toList))) p) : WC fns (n + 110) 1 [.d (machD l nss ends), .d (.str w)] p Q := by
  rw [wc_def (fd := f1) rfl rfl]
  show WB fns (n + 109) b1 { env := [some (.d (machD l nss ends)), some (.d (.str w))], pen := p } _
  unfold b1
  decreasing_tactic
  refine check_ok M ?_
  decreasing_tactic
  refine checkw_ok hw ?_
  decreasing_tactic
  refine along_ok M hw hz fun init => ?_
  decreasing_tactic
  refine so_rfl (last_at init _) ?_
  decreasing_tactic
  exact k
def endsB (ends : List Int) (s : Int) : Bool := (ends.map PyData.int).any fun z => PyData.eqv z (.int s)
theorem takes_ok (M : Mok l many nss ends) {n : Nat} {w : Str} (hw : WordB l w = true) (hz : w.length ≤ 10000) {p : Option (List D)} {Q : R → Option (List D) → Prop} (k : Q (.d (.bool (endsB ends (lead nss 0 w.cps.toList)))) p) : WC fns (n + 120) 2 [.d (machD l nss ends), .d (.str w)] p Q := by
  rw [wc_def (fd := f2) rfl rfl]
  show WB fns (n + 119) b2 { env := [some (.d (machD l nss ends)), some (.d (.str w))], pen := p } _
  unfold b2
  decreasing_tactic
  refine standing_ok M hw hz ?_
  decreasing_tactic
  refine so_rfl (in_ints _ _) ?_
  decreasing_tactic
  exact k
theorem llead_ok (M : Mok l many nss ends) {n : Nat} {w : Str} (hw : WordB l w = true) {p : Option (List D)} {Q : R → Option (List D) → Prop} (k : Q (.d (.int (lead nss 0 w.cps.toList))) p) : WC fns (n + 40) 23 [.d (machD l nss ends), .d (.int 0), .d (.str w)] p Q := by
  rw [wc_def (fd := f23) rfl rfl]
  show WB fns (n + 39) b23 { env := [some (.d (machD l nss ends)), some (.d (.int 0)), some (.d (.str w)), none], pen := p } _
  unfold b23
  refine wb_cons.mpr ?_
  decreasing_tactic
  have m0 := M.m0
  refine wfor_inv (fun rest g => ∃ (todo : List Nat) (s : Int) (o : Option Sv), rest = todo.map (fun c => PyData.str ⟨#[c]⟩) ∧ (∀ c ∈ todo, c ∈ (lets l).cps.toList) ∧ 0 ≤ s ∧ s < many ∧ lead nss s todo = lead nss 0 w.cps.toList ∧ g = { env := [some (.d (machD l nss ends)), some (.d (.int s)), some (.d (.str w)), o], pen := p }) ?_ ?_ ⟨w.cps.toList, 0, _, rfl, word_all hw, by omega, by omega, rfl, rfl⟩
  · rintro d rest _ ⟨todo, s, o, e1, hc, s0, s1, e2, rfl⟩
    cases todo with
    | nil => cases e1
    | cons c todo =>
      rw [List.map_cons] at e1
      cases e1
      have hc0 := hc c List.mem_cons_self
      obtain ⟨_, t0, t1⟩ := stp_at M s0 s1 hc0
      decreasing_tactic
      refine so_rfl (moves_at M s0 s1) ?_
      decreasing_tactic
      refine so_rfl (word_mem M.l0 M.l1 hc0).2.2 ?_
      decreasing_tactic
      refine so_rfl (letter_at M s0 s1 hc0) ?_
      decreasing_tactic
      exact ⟨todo, stp nss s c, _, rfl, fun x hx => hc x (List.mem_cons_of_mem _ hx), t0, t1, e2, rfl⟩
  · rintro _ ⟨todo, s, o, e1, hc, s0, s1, e2, rfl⟩
    cases todo with
    | cons _ _ => cases e1
    | nil =>
      decreasing_tactic
      have e4 : s = lead nss 0 w.cps.toList := e2
      rw [e4]
      exact k
end
end K07
end
section
set_option Elab.async false
set_option linter.all false
set_option maxRecDepth 100000
set_option autoImplicit false
set_option maxHeartbeats 4000000
open PySem PySem.Spec
namespace K07
open DL L2 CL
local macro_rules | `(tactic| decreasing_tactic) => `(tactic| repeat (first | ((with_reducible apply slot_d); · exact rfl) | ((with_reducible apply so_rfl); · exact rfl) | ((with_reducible apply wo_rfl); · exact rfl) | ((with_reducible refine (wb_cons (s := IS.set _ _)).mpr ?_); try dsimp only [setD, setOwn, List.set_cons_zero, List.set_cons_succ]) | ((with_reducible refine (wb_cons (s := IS.ret _)).mpr ?_); try dsimp only [setD, setOwn, List.set_cons_zero, List.set_cons_succ]) | ((with_reducible refine (wb_cons (s := IS.sto _ _ _)).mpr ?_); try dsimp only [setD, setOwn, List.set_cons_zero, List.set_cons_succ]) | ((with_reducible refine (wb_cons (s := IS.app _ _)).mpr ?_); try dsimp only [setD, setOwn, List.set_cons_zero, List.set_cons_succ]) | ((with_reducible refine (wb_cons (s := IS.own _ _)).mpr ?_); try dsimp only [setD, setOwn, List.set_cons_zero, List.set_cons_succ]) | ((with_reducible refine (wb_cons (s := IS.exp _)).mpr ?_); try dsimp only [setD, setOwn, List.set_cons_zero, List.set_cons_succ]) | ((with_reducible refine (wb_cons (s := IS.unp _ _)).mpr ?_); try dsimp only [setD, setOwn, List.set_cons_zero, List.set_cons_succ]) | ((with_reducible refine (wb_cons (s := IS.par _ _ _ _ _ _)).mpr ?_); try dsimp only [setD, setOwn, List.set_cons_zero, List.set_cons_succ]) | ((with_reducible refine (wb_cons (s := IS.pen _ _)).mpr ?_); try dsimp only [setD, setOwn, List.set_cons_zero, List.set_cons_succ]) | ((with_reducible refine (wb_cons (s := IS.iff _ _ _) (ss := [])).mpr ?_); try dsimp only [setD, setOwn, List.set_cons_zero, List.set_cons_succ]) | with_reducible refine ws_set.mpr ?_ | with_reducible refine ws_ret.mpr ?_ | with_reducible refine ws_iff.mpr ?_ | with_reducible refine ws_own.mpr ?_ | with_reducible refine ws_for.mpr ?_ | with_reducible refine ws_exp.mpr ?_ | with_reducible refine ws_unp.mpr ?_ | with_reducible refine ws_par.mpr ?_ | with_reducible refine ws_pen.mpr ?_ | with_reducible refine wb_nil.mpr ?_ | with_reducible refine we_slot.mpr ?_ | with_reducible refine we_cst.mpr ?_ | with_reducible refine we_bin.mpr ?_ | with_reducible refine we_bi1.mpr ?_ | with_reducible refine we_cmp.mpr ?_ | with_reducible refine we_idx.mpr ?_ | with_reducible refine we_call.mpr ?_ | with_reducible refine we_bop.mpr ?_ | with_reducible refine we_not.mpr ?_ | with_reducible refine we_chn.mpr ?_ | with_reducible refine we_tup.mpr ?_ | with_reducible refine we_lst.mpr ?_ | with_reducible refine we_neg.mpr ?_ | with_reducible refine we_ife.mpr ?_ | with_reducible refine we_bi2.mpr ?_ | with_reducible refine we_rngL.mpr ?_ | with_reducible refine we_slc.mpr ?_ | with_reducible refine we_rev.mpr ?_ | with_reducible refine we_lc.mpr ?_ | with_reducible refine we_idxS.mpr ?_ | with_reducible refine wr_of ?_ | with_reducible refine wkp_of ?_ | with_reducible refine wp_n ?_ | with_reducible refine wp_s ?_ | with_reducible refine wds_cons.mpr ?_ | with_reducible refine wds_nil.mpr ?_ | with_reducible refine was_cons.mpr ?_ | with_reducible refine was_nil.mpr ?_ | with_reducible refine wt_bop.mpr ?_ | with_reducible refine wt_not.mpr ?_ | with_reducible refine wt_cmp.mpr ?_ | with_reducible refine wt_chn.mpr ?_ | with_reducible refine wt_call.mpr ?_ | with_reducible refine wt_bi1.mpr ?_ | with_reducible refine wt_slot.mpr ?_ | with_reducible refine wt_idx.mpr ?_ | with_reducible refine wits_seq.mpr ?_ | with_reducible refine wits_rng.mpr ?_ | with_reducible refine wits_enu.mpr ?_ | with_reducible refine wits_zip.mpr ?_ | with_reducible refine cnd_n ?_ | with_reducible refine cnd_s ?_ | with_reducible refine we_allG ?_ | with_reducible refine wt_allG ?_ | with_reducible refine we_join.mpr ?_ | ((with_reducible apply ite_y); · exact rfl) | ((with_reducible apply ite_n); · exact rfl) | with_reducible refine sto_pen ?_ | ((with_reducible apply slot_pen); · exact rfl; · exact rfl) | ((with_reducible apply slot_own); · exact rfl) | ((with_reducible apply slot_scr); · exact rfl) | ((with_reducible apply so_id); refine so_ite ?_ ?_; · (first | decide | omega | exact mul_small (by omega) (by omega) (by omega) (by omega))) | ((fail_if_success (first | with_reducible apply wb_id | with_reducible apply wc_id | with_reducible apply wfor_id | with_reducible apply wlc_id)); refine ⟨_, _, rfl, rfl, ?_⟩) | ((fail_if_success (first | with_reducible apply wb_id | with_reducible apply wc_id | with_reducible apply wfor_id | with_reducible apply wlc_id)); refine ⟨rfl, ?_⟩) | ((fail_if_success (first | with_reducible apply wb_id | with_reducible apply wc_id | with_reducible apply wfor_id | with_reducible apply wlc_id)); refine ⟨_, _, _, rfl, rfl, rfl, rfl, ?_⟩)))
theorem sg_len (c : Nat) : (⟨#[c]⟩ : Str).length = 1 := rfl
theorem wordB_app (l : Int) (a b : Str) : WordB l (a ++ b) = (WordB l a && WordB l b) := by unfold WordB; rw [app_toList, List.all_append]
theorem wordB_sg {l : Int} {c : Nat} (h : c ∈ (lets l).cps.toList) : WordB l ⟨#[c]⟩ = true := by
  unfold WordB
  show ([c].all _) = true
  rw [List.all_cons, List.all_nil, decide_eq_true h, Bool.and_self]
/-- a list of words with so many letters at most -/
def WL (l : Int) (b : Nat) (xs : List D) : Prop := ∀ d ∈ xs, ∃ z : Str, d = .str z ∧ WordB l z = true ∧ z.length ≤ b
theorem WL.mono {l : Int} {b c : Nat} {xs : List D} (h : WL l b xs) (q : b ≤ c) : WL l c xs := fun d hd => by
  obtain ⟨z, e, h1, h2⟩ := h d hd
  exact ⟨z, e, h1, Nat.le_trans h2 q⟩
theorem WL.app {l : Int} {b : Nat} {xs ys : List D} (h : WL l b xs) (q : WL l b ys) : WL l b (xs ++ ys) := fun d hd => (List.mem_append.mp hd).elim (h d) (q d)
theorem lets_len {l : Int} (h0 : 1 ≤ l) (h1 : l ≤ 3) : (lets l).cps.toList.length ≤ 3 := by
  rw [lets_eq h0 h1, List.length_take]
  exact Nat.min_le_right _ _
theorem words_ok {l : Int} (l0 : 1 ≤ l) (l1 : l ≤ 3) {n : Nat} {p : Option (List D)} {Q : R → Option (List D) → Prop} (k : ∀ xs, WL l 3 xs → 1 ≤ xs.length → xs.length ≤ 130 → Q (.d (.list xs)) p) : WC fns (n + 40) 24 [.d (.int l), .d (.int 3)] p Q := by
  rw [wc_def (fd := f24) rfl rfl]
  show WB fns (n + 39) b24 { env := [some (.d (.int l)), some (.d (.int 3)), none, none, none, none, none, none], pen := p } _
  unfold b24
  decreasing_tactic
  refine wb_cons.mpr ?_
  decreasing_tactic
  have w0 : WL l 0 [.str ""] := fun d hd => ⟨"", List.mem_singleton.mp hd, rfl, by decide⟩
  refine wfor_inv (fun rest g => ∃ (found last : List D) (o2 o5 o6 o7 : Option Sv), rest.length ≤ 3 ∧ WL l 3 found ∧ WL l (3 - rest.length) last ∧ last.length * 3 ^ rest.length ≤ 27 ∧ 1 ≤ found.length ∧ found.length + 40 * rest.length ≤ 130 ∧ g = { env := [some (.d (.int l)), some (.d (.int 3)), o2, some (.d (.list found)), some (.d (.list last)), o5, o6, o7], pen := p }) ?_ ?_ ⟨[.str ""], [.str ""], _, _, _, _, by decide, w0.mono (by decide), w0.mono (Nat.zero_le _), by decide, by decide, by decide, rfl⟩
  · rintro d rest _ ⟨found, last, o2, o5, o6, o7, hr, hf, hlast, hc, hf1, hf2, rfl⟩
    rw [List.length_cons] at hr hlast hc hf2
    have pw : 1 ≤ 3 ^ rest.length := Nat.one_le_pow _ _ (by decide)
    have hc2 : last.length * 3 * 3 ^ rest.length ≤ 27 := by rw [Nat.mul_assoc, Nat.mul_comm 3, ← Nat.pow_succ]; exact hc
    have hc3 : last.length * 3 ≤ 27 := Nat.le_trans (Nat.le_mul_of_pos_right _ pw) hc2
    decreasing_tactic
    refine wb_cons.mpr ?_
    decreasing_tactic
    refine wfor_inv (fun rest2 g => ∃ (longer : List D) (o6 o7 : Option Sv), WL l (3 - (rest.length + 1)) rest2 ∧ WL l (3 - rest.length) longer ∧ longer.length + 3 * rest2.length ≤ last.length * 3 ∧ g = { env := [some (.d (.int l)), some (.d (.int 3)), some (.d d), some (.d (.list found)), some (.d (.list last)), some (.d (.list longer)), o6, o7], pen := p }) ?_ ?_ ⟨[], _, _, hlast, (fun d h => nomatch h), by simp only [List.length_nil]; omega, rfl⟩
    · rintro x rest2 _ ⟨longer, o6, o7, h1, h2, h3, rfl⟩
      obtain ⟨z, rfl, wz, lz⟩ := h1 x List.mem_cons_self
      have h1' : WL l (3 - (rest.length + 1)) rest2 := fun y hy => h1 y (List.mem_cons_of_mem _ hy)
      rw [List.length_cons] at h3
      decreasing_tactic
      refine wlc_inv (fun rest3 acc g => ∃ (todo : List Nat) (o7 : Option Sv), rest3 = todo.map (fun c => PyData.str ⟨#[c]⟩) ∧ (∀ c ∈ todo, c ∈ (lets l).cps.toList) ∧ WL l (3 - rest.length) acc ∧ acc.length + todo.length ≤ 3 ∧ g = { env := [some (.d (.int l)), some (.d (.int 3)), some (.d d), some (.d (.list found)), some (.d (.list last)), some (.d (.list longer)), some (.d (.str z)), o7], pen := p }) ?_ ?_ ⟨(lets l).cps.toList, _, rfl, fun c h => h, (fun d h => nomatch h), by have := lets_len l0 l1; simp only [List.length_nil]; omega, rfl⟩
      · rintro y rest3 acc _ ⟨todo, o7, e1, e2, e3, e4, rfl⟩
        cases todo with
        | nil => cases e1
        | cons c todo =>
          rw [List.map_cons] at e1
          cases e1
          rw [List.length_cons] at e4
          have hcm := e2 c List.mem_cons_self
          decreasing_tactic
          refine so_ite (by rw [sg_len]; unfold szL; omega) ?_
          decreasing_tactic
          refine ⟨by unfold szL; omega, todo, _, rfl, fun v hv => e2 v (List.mem_cons_of_mem _ hv), e3.app (fun v hv => ⟨_, List.mem_singleton.mp hv, by rw [wordB_app, wz, wordB_sg hcm]; rfl, ?_⟩), by rw [List.length_append, List.length_singleton]; omega, rfl⟩
          rw [strLen_append, sg_len]
          omega
      · rintro acc _ ⟨todo, o7, e1, e2, e3, e4, rfl⟩
        cases todo with
        | cons _ _ => cases e1
        | nil =>
          rw [List.length_nil] at e4
          decreasing_tactic
          refine so_ite (by unfold szL; omega) ?_
          decreasing_tactic
          exact ⟨longer ++ acc, _, _, h1', h2.app e3, by rw [List.length_append]; omega, rfl⟩
    · rintro _ ⟨longer, o6, o7, h1, h2, h3, rfl⟩
      rw [List.length_nil] at h3
      decreasing_tactic
      refine so_ite (by unfold szL; omega) ?_
      decreasing_tactic
      refine ⟨found ++ longer, longer, _, _, _, _, by omega, hf.app (h2.mono (by omega)), h2, Nat.le_trans (Nat.mul_le_mul_right _ (show longer.length ≤ last.length * 3 by omega)) hc2, by rw [List.length_append]; omega, by rw [List.length_append]; omega, rfl⟩
  · rintro _ ⟨found, last, o2, o5, o6, o7, hr, hf, hlast, hc, hf1, hf2, rfl⟩
    decreasing_tactic
    exact k found hf hf1 (by simpa using hf2)
theorem strsD_map : ∀ ys : List Str, strsD (ys.map .str) = some ys
  | [] => rfl
  | y :: ys => by
    show (strsD (ys.map .str)).map (y :: ·) = _
    rw [strsD_map ys]
    rfl
theorem abc_at {t : Int} (h0 : 0 ≤ t) {l : Int} (h1 : t < l) (l1 : l ≤ 3) : ∃ c : Nat, idxD (.str "abc") (.int t) = some (.str ⟨#[c]⟩) ∧ c ∈ (lets l).cps.toList := by
  have h3 : (t = 0 ∨ t = 1 ∨ t = 2) ∧ (l = 1 ∨ l = 2 ∨ l = 3) := by omega
  obtain ⟨rfl | rfl | rfl, rfl | rfl | rfl⟩ := h3 <;> first | omega | exact ⟨97, rfl, by decide +kernel⟩ | exact ⟨98, rfl, by decide +kernel⟩ | exact ⟨99, rfl, by decide +kernel⟩
theorem sum_ones : ∀ {ys : List Str}, (∀ y ∈ ys, y.length = 1) → (ys.map (·.length)).sum = ys.length
  | [], _ => rfl
  | y :: ys, h => by
    rw [List.map_cons, List.sum_cons, sum_ones fun z hz => h z (List.mem_cons_of_mem _ hz), h y List.mem_cons_self, List.length_cons]
    omega
theorem drawnw_ok {l : Int} (l0 : 1 ≤ l) (l1 : l ≤ 3) {n : Nat} {cs : List Int} {at_ cell : Int} (h0 : 0 ≤ at_) (h1 : at_ ≤ 800000) {mw : Int} (m0 : 0 ≤ mw) (m1 : mw ≤ 60) {Q : R → Option (List D) → Prop} (k : ∀ z a c, WordB l z = true → z.length ≤ 60 → at_ ≤ a → a ≤ at_ + 62 → Q (.d (.str z)) (some (Pn cs a c))) : WC fns (n + 70) 25 [.pen, .d (.int l), .d (.int mw)] (some (Pn cs at_ cell)) Q := by
  rw [wc_def (fd := f25) rfl rfl]
  show WB fns (n + 69) b25 { env := [some .pen, some (.d (.int l)), some (.d (.int mw)), none], pen := some (Pn cs at_ cell) } _
  unfold b25
  decreasing_tactic
  refine take8 h0 (by omega) (by omega) (by omega) fun z a c hz0 hz1 la ua => ?_
  decreasing_tactic
  refine wlc_inv (fun rest acc g => ∃ (ys : List Str) (a c : Int) (o3 : Option Sv), acc = ys.map .str ∧ (∀ y ∈ ys, ∃ ch : Nat, y = ⟨#[ch]⟩ ∧ ch ∈ (lets l).cps.toList) ∧ ys.length + rest.length ≤ 60 ∧ at_ ≤ a ∧ a ≤ at_ + 1 + ys.length ∧ g = { env := [some .pen, some (.d (.int l)), some (.d (.int mw)), o3], pen := some (Pn cs a c) }) ?_ ?_ ⟨[], a, c, _, rfl, (fun d h => nomatch h), by rw [List.length_map, List.length_range]; simp only [List.length_nil]; omega, la, by simp only [List.length_nil]; omega, rfl⟩
  · rintro d rest acc _ ⟨ys, a, c, o3, e1, e2, e3, la, ua, rfl⟩
    rw [List.length_cons] at e3
    decreasing_tactic
    refine take8 (by omega) (by omega) l0 (by omega) fun t a2 c2 ht0 ht1 la2 ua2 => ?_
    decreasing_tactic
    obtain ⟨ch, q1, q2⟩ := abc_at ht0 ht1 l1
    refine so_rfl q1 ?_
    decreasing_tactic
    refine ⟨by rw [e1, List.length_map]; unfold szL; omega, ys ++ [⟨#[ch]⟩], a2, c2, _, by rw [e1, List.map_append]; rfl, fun y hy => ?_, by rw [List.length_append, List.length_singleton]; omega, by omega, by rw [List.length_append, List.length_singleton]; omega, rfl⟩
    rcases List.mem_append.mp hy with hy | hy
    · exact e2 y hy
    · exact ⟨ch, List.mem_singleton.mp hy, q2⟩
  · rintro acc _ ⟨ys, a, c, o3, e1, e2, e3, la, ua, rfl⟩
    subst e1
    rw [List.length_nil] at e3
    have ones : ∀ y ∈ ys, y.length = 1 := fun y hy => by
      obtain ⟨ch, rfl, _⟩ := e2 y hy
      rfl
    have el : ("" : Str).length = 0 := rfl
    have sz : (ys.map (·.length)).sum + ys.length * ("" : Str).length ≤ 60 := by rw [sum_ones ones, el]; omega
    decreasing_tactic
    refine so_rfl (strsD_map ys) ?_
    refine ⟨Nat.le_trans sz (by unfold szL; omega), ?_⟩
    decreasing_tactic
    refine k _ a c ?_ ?_ la (by omega)
    · refine List.all_eq_true.mpr fun x hx => decide_eq_true ?_
      rw [join_eq] at hx
      obtain ⟨y, hy, hc⟩ := sjoin_mem hx
      obtain ⟨ch, rfl, hm⟩ := e2 y hy
      have : x = ch := List.mem_singleton.mp hc
      rw [this]
      exact hm
    · rw [join_eq]
      exact Nat.le_trans (StrLaws.join_length_le _ _) sz
end K07
end
section
set_option Elab.async false
set_option linter.all false
set_option maxRecDepth 100000
set_option autoImplicit false
set_option maxHeartbeats 4000000
open PySem PySem.Spec
namespace K07
open DL L2 CL
local macro_rules | `(tactic| decreasing_tactic) => `(tactic| repeat (first | ((with_reducible apply slot_d); · exact rfl) | ((with_reducible apply so_rfl); · exact rfl) | ((with_reducible apply wo_rfl); · exact rfl) | ((with_reducible refine (wb_cons (s := IS.set _ _)).mpr ?_); try dsimp only [setD, setOwn, List.set_cons_zero, List.set_cons_succ]) | ((with_reducible refine (wb_cons (s := IS.ret _)).mpr ?_); try dsimp only [setD, setOwn, List.set_cons_zero, List.set_cons_succ]) | ((with_reducible refine (wb_cons (s := IS.sto _ _ _)).mpr ?_); try dsimp only [setD, setOwn, List.set_cons_zero, List.set_cons_succ]) | ((with_reducible refine (wb_cons (s := IS.app _ _)).mpr ?_); try dsimp only [setD, setOwn, List.set_cons_zero, List.set_cons_succ]) | ((with_reducible refine (wb_cons (s := IS.own _ _)).mpr ?_); try dsimp only [setD, setOwn, List.set_cons_zero, List.set_cons_succ]) | ((with_reducible refine (wb_cons (s := IS.exp _)).mpr ?_); try dsimp only [setD, setOwn, List.set_cons_zero, List.set_cons_succ]) | ((with_reducible refine (wb_cons (s := IS.unp _ _)).mpr ?_); try dsimp only [setD, setOwn, List.set_cons_zero, List.set_cons_succ]) | ((with_reducible refine (wb_cons (s := IS.par _ _ _ _ _ _)).mpr ?_); try dsimp only [setD, setOwn, List.set_cons_zero, List.set_cons_succ]) | ((with_reducible refine (wb_cons (s := IS.pen _ _)).mpr ?_); try dsimp only [setD, setOwn, List.set_cons_zero, List.set_cons_succ]) | ((with_reducible refine (wb_cons (s := IS.iff _ _ _) (ss := [])).mpr ?_); try dsimp only [setD, setOwn, List.set_cons_zero, List.set_cons_succ]) | with_reducible refine ws_set.mpr ?_ | with_reducible refine ws_ret.mpr ?_ | with_reducible refine ws_iff.mpr ?_ | with_reducible refine ws_own.mpr ?_ | with_reducible refine ws_for.mpr ?_ | with_reducible refine ws_exp.mpr ?_ | with_reducible refine ws_unp.mpr ?_ | with_reducible refine ws_par.mpr ?_ | with_reducible refine ws_pen.mpr ?_ | with_reducible refine wb_nil.mpr ?_ | with_reducible refine we_slot.mpr ?_ | with_reducible refine we_cst.mpr ?_ | with_reducible refine we_bin.mpr ?_ | with_reducible refine we_bi1.mpr ?_ | with_reducible refine we_cmp.mpr ?_ | with_reducible refine we_idx.mpr ?_ | with_reducible refine we_call.mpr ?_ | with_reducible refine we_bop.mpr ?_ | with_reducible refine we_not.mpr ?_ | with_reducible refine we_chn.mpr ?_ | with_reducible refine we_tup.mpr ?_ | with_reducible refine we_lst.mpr ?_ | with_reducible refine we_neg.mpr ?_ | with_reducible refine we_ife.mpr ?_ | with_reducible refine we_bi2.mpr ?_ | with_reducible refine we_rngL.mpr ?_ | with_reducible refine we_slc.mpr ?_ | with_reducible refine we_rev.mpr ?_ | with_reducible refine we_lc.mpr ?_ | with_reducible refine we_idxS.mpr ?_ | with_reducible refine wr_of ?_ | with_reducible refine wkp_of ?_ | with_reducible refine wp_n ?_ | with_reducible refine wp_s ?_ | with_reducible refine wds_cons.mpr ?_ | with_reducible refine wds_nil.mpr ?_ | with_reducible refine was_cons.mpr ?_ | with_reducible refine was_nil.mpr ?_ | with_reducible refine wt_bop.mpr ?_ | with_reducible refine wt_not.mpr ?_ | with_reducible refine wt_cmp.mpr ?_ | with_reducible refine wt_chn.mpr ?_ | with_reducible refine wt_call.mpr ?_ | with_reducible refine wt_bi1.mpr ?_ | with_reducible refine wt_slot.mpr ?_ | with_reducible refine wt_idx.mpr ?_ | with_reducible refine wits_seq.mpr ?_ | with_reducible refine wits_rng.mpr ?_ | with_reducible refine wits_enu.mpr ?_ | with_reducible refine wits_zip.mpr ?_ | with_reducible refine cnd_n ?_ | with_reducible refine cnd_s ?_ | with_reducible refine we_allG ?_ | with_reducible refine wt_allG ?_ | with_reducible refine we_join.mpr ?_ | ((with_reducible apply ite_y); · exact rfl) | ((with_reducible apply ite_n); · exact rfl) | with_reducible refine sto_pen ?_ | ((with_reducible apply slot_pen); · exact rfl; · exact rfl) | ((with_reducible apply slot_own); · exact rfl) | ((with_reducible apply slot_scr); · exact rfl) | ((with_reducible apply so_id); refine so_ite ?_ ?_; · (first | decide | omega | exact mul_small (by omega) (by omega) (by omega) (by omega))) | ((fail_if_success (first | with_reducible apply wb_id | with_reducible apply wc_id | with_reducible apply wfor_id | with_reducible apply wlc_id)); refine ⟨_, _, rfl, rfl, ?_⟩) | ((fail_if_success (first | with_reducible apply wb_id | with_reducible apply wc_id | with_reducible apply wfor_id | with_reducible apply wlc_id)); refine ⟨rfl, ?_⟩) | ((fail_if_success (first | with_reducible apply wb_id | with_reducible apply wc_id | with_reducible apply wfor_id | with_reducible apply wlc_id)); refine ⟨_, _, _, rfl, rfl, rfl, rfl, ?_⟩)))
section
variable {l many : Int} {nss : List (List Int)} {ends cs : List Int}
/-- the standings of a cut -/
structure Cut (many : Int) (cs : List Int) : Prop where
  rng : ∀ i ∈ cs, 0 ≤ i ∧ i < many
  asc : cs.Pairwise (· < ·)
  ne : cs ≠ []
theorem Cut.std (h : Cut many cs) : stdB (.tuple (cs.map .int)) many = true := by
  show stdL many (-1) (cs.map .int) = true
  exact stdL_of (fun i hi => by have := h.rng i hi; omega) (fun i hi => (h.rng i hi).2) h.asc
theorem hascut_ok (M : Mok l many nss ends) (C : Cut many cs) {n : Nat} {p : Option (List D)} {Q : R → Option (List D) → Prop} (k : Q (.d (.bool true)) p) : WC fns (n + 50) 14 [.d (machD l nss ends), .d (.tuple (cs.map .int))] p Q := by
  rw [wc_def (fd := f14) rfl rfl]
  show WB fns (n + 49) b14 { env := [some (.d (machD l nss ends)), some (.d (.tuple (cs.map .int)))], pen := p } _
  unfold b14
  decreasing_tactic
  rw [List.length_map, M.len]
  refine standings_ok (x := .tuple (cs.map .int)) trivial (fun ds e d hd => ?_) ?_
  · cases e
    obtain ⟨z, _, rfl⟩ := List.mem_map.mp hd
    trivial
  rw [C.std]
  decreasing_tactic
  have e : decide ((0 : Int) < ((List.map PyData.int cs).length : Nat)) = true := decide_eq_true (by
    have := List.length_pos_iff.mpr C.ne
    rw [List.length_map]
    omega)
  rw [e]
  exact k
theorem boolsD_ints (f : Int → Bool) : ∀ xs : List Int, boolsD (xs.map fun x => PyData.bool (f x)) = some (xs.map f)
  | [] => rfl
  | x :: xs => by
    rw [List.map_cons]
    unfold boolsD
    rw [boolsD_ints f xs]
    rfl
theorem all_ints (f : Int → Bool) (xs : List Int) : bi1D .all (.list (xs.map fun x => PyData.bool (f x))) = some (.d (.bool (xs.all f))) := by
  show ((boolsD _).map _) = _
  rw [boolsD_ints]
  show some (R.d (PyData.bool ((xs.map f).all id))) = _
  rw [List.all_map]
  rfl
theorem within_ok {xs ys : List Int} {n : Nat} {p : Option (List D)} {Q : R → Option (List D) → Prop} (hz : xs.length ≤ 1000) (k : Q (.d (.bool (xs.all fun x => endsB ys x))) p) : WC fns (n + 20) 16 [.d (.tuple (xs.map .int)), .d (.tuple (ys.map .int))] p Q := by
  rw [wc_def (fd := f16) rfl rfl]
  show WB fns (n + 19) b16 { env := [some (.d (.tuple (xs.map .int))), some (.d (.tuple (ys.map .int))), none], pen := p } _
  unfold b16
  decreasing_tactic
  refine wlc_inv (fun ds acc g => ∃ a b, xs = a ++ b ∧ ds = b.map .int ∧ acc = a.map (fun x => PyData.bool (endsB ys x)) ∧ ∃ o, g = { env := [some (.d (.tuple (xs.map .int))), some (.d (.tuple (ys.map .int))), o], pen := p }) ?_ ?_ ⟨[], xs, rfl, rfl, rfl, _, rfl⟩
  · rintro d ds acc g ⟨a, b, e1, e2, rfl, o, rfl⟩
    cases b with
    | nil => cases e2
    | cons x b =>
      obtain ⟨rfl, rfl⟩ := List.cons.inj e2
      decreasing_tactic
      refine so_rfl (in_ints x ys) ?_
      decreasing_tactic
      have e3 := congrArg List.length e1
      rw [List.length_append, List.length_cons] at e3
      exact ⟨by rw [List.length_map]; unfold szL; omega, a ++ [x], b, by rw [e1, List.append_assoc]; rfl, rfl, by rw [List.map_append]; rfl, _, rfl⟩
  · rintro acc g ⟨a, b, e1, e2, rfl, o, rfl⟩
    cases b with
    | cons x b => cases e2
    | nil =>
      rw [List.append_nil] at e1
      subst e1
      decreasing_tactic
      refine so_rfl (all_ints (fun x => endsB ys x) xs) ?_
      decreasing_tactic
      exact k
theorem checkcut_ok (M : Mok l many nss ends) (C : Cut many cs) {n : Nat} {p : Option (List D)} {Q : R → Option (List D) → Prop} (k : Q (.d .none) p) : WC fns (n + 60) 15 [.d (machD l nss ends), .d (.tuple (cs.map .int))] p Q := by
  rw [wc_def (fd := f15) rfl rfl]
  show WB fns (n + 59) b15 { env := [some (.d (machD l nss ends)), some (.d (.tuple (cs.map .int)))], pen := p } _
  unfold b15
  decreasing_tactic
  refine hascut_ok M C ?_
  decreasing_tactic
  exact k
/-- the standings from i on whose row leads, at place j, into ys -/
def ledL (ys : List Int) (j : Nat) : Nat → List (List Int) → List Int
  | _, [] => []
  | i, ns :: r => if endsB ys (ns.getD j 0) = true then (i : Int) :: ledL ys j (i + 1) r else ledL ys j (i + 1) r
theorem ledL_cons (ys : List Int) (j i : Nat) (ns : List Int) (r : List (List Int)) : ledL ys j i (ns :: r) = if endsB ys (ns.getD j 0) = true then (i : Int) :: ledL ys j (i + 1) r else ledL ys j (i + 1) r := by rw [ledL]
theorem led_ok {ys : List Int} {j : Nat} {n : Nat} {p : Option (List D)} {Q : R → Option (List D) → Prop} (hr : ∀ ns ∈ nss, j < ns.length ∧ ns.length ≤ 1000) (hz : nss.length ≤ 1000) (k : Q (.d (.tuple ((ledL ys j 0 nss).map .int))) p) : WC fns (n + 20) 17 [.d (.tuple (nss.map fun ns => .tuple (ns.map .int))), .d (.tuple (ys.map .int)), .d (.int j)] p Q := by
  rw [wc_def (fd := f17) rfl rfl]
  show WB fns (n + 19) b17 { env := [some (.d (.tuple (nss.map fun ns => .tuple (ns.map .int)))), some (.d (.tuple (ys.map .int))), some (.d (.int j)), none, none], pen := p } _
  unfold b17
  decreasing_tactic
  refine wlc_inv (fun ds acc g => ∃ (i : Nat) (b : List (List Int)) (zs : List Int), ds = ((b.map fun ns => PyData.tuple (ns.map .int)).zipIdx i).map (fun p => .tuple [.int (p.2 : Int), p.1]) ∧ acc = zs.map .int ∧ zs.length + b.length ≤ 1000 ∧ (∀ ns ∈ b, j < ns.length ∧ ns.length ≤ 1000) ∧ ledL ys j 0 nss = zs ++ ledL ys j i b ∧ ∃ o o2, g = { env := [some (.d (.tuple (nss.map fun ns => .tuple (ns.map .int)))), some (.d (.tuple (ys.map .int))), some (.d (.int j)), o, o2], pen := p }) ?_ ?_ ⟨0, nss, [], rfl, rfl, by simpa using hz, hr, rfl, _, _, rfl⟩
  · rintro d ds acc g ⟨i, b, zs, e1, rfl, hl, hb, e2, o, o2, rfl⟩
    cases b with
    | nil => cases e1
    | cons ns b =>
      obtain ⟨rfl, rfl⟩ := List.cons.inj e1
      obtain ⟨hj, _⟩ := hb ns List.mem_cons_self
      have at_ : idxD (.tuple (ns.map .int)) (.int (j : Int)) = some (.int (ns.getD j 0)) := L2.atI_nat (by rw [List.getElem?_map, List.getD_eq_getElem?_getD, List.getElem?_eq_getElem hj]; rfl)
      have hb' : ∀ n ∈ b, j < n.length ∧ n.length ≤ 1000 := fun n h => hb n (List.mem_cons_of_mem _ h)
      rw [List.length_cons] at hl
      decreasing_tactic
      refine so_rfl at_ ?_
      decreasing_tactic
      refine so_rfl (a := endsB ys (ns.getD j 0)) (in_ints (ns.getD j 0) ys) ?_
      cases e : endsB ys (ns.getD j 0) with
      | true =>
        decreasing_tactic
        refine ⟨by rw [List.length_map]; unfold szL; omega, i + 1, b, zs ++ [(i : Int)], rfl, by rw [List.map_append]; rfl, by rw [List.length_append, List.length_singleton]; omega, hb', ?_, _, _, rfl⟩
        rw [e2, List.append_assoc, ledL_cons, if_pos e]
        rfl
      | false =>
        decreasing_tactic
        refine ⟨i + 1, b, zs, rfl, rfl, by omega, hb', ?_, _, _, rfl⟩
        rw [e2, ledL_cons, if_neg (by rw [e]; decide)]
  · rintro acc g ⟨i, b, zs, e1, rfl, hl, hb, e2, o, o2, rfl⟩
    cases b with
    | cons x b => cases e1
    | nil =>
      decreasing_tactic
      rw [e2, show ledL ys j i [] = [] from rfl, List.append_nil] at k
      exact k
end
end K07
end
section
set_option Elab.async false
set_option linter.all false
set_option maxRecDepth 100000
set_option autoImplicit false
set_option maxHeartbeats 4000000
open PySem PySem.Spec
namespace K07
open DL L2 CL
local macro_rules | `(tactic| decreasing_tactic) => `(tactic| repeat (first | ((with_reducible apply slot_d); · exact rfl) | ((with_reducible apply so_rfl); · exact rfl) | ((with_reducible apply wo_rfl); · exact rfl) | ((with_reducible refine (wb_cons (s := IS.set _ _)).mpr ?_); try dsimp only [setD, setOwn, List.set_cons_zero, List.set_cons_succ]) | ((with_reducible refine (wb_cons (s := IS.ret _)).mpr ?_); try dsimp only [setD, setOwn, List.set_cons_zero, List.set_cons_succ]) | ((with_reducible refine (wb_cons (s := IS.sto _ _ _)).mpr ?_); try dsimp only [setD, setOwn, List.set_cons_zero, List.set_cons_succ]) | ((with_reducible refine (wb_cons (s := IS.app _ _)).mpr ?_); try dsimp only [setD, setOwn, List.set_cons_zero, List.set_cons_succ]) | ((with_reducible refine (wb_cons (s := IS.own _ _)).mpr ?_); try dsimp only [setD, setOwn, List.set_cons_zero, List.set_cons_succ]) | ((with_reducible refine (wb_cons (s := IS.exp _)).mpr ?_); try dsimp only [setD, setOwn, List.set_cons_zero, List.set_cons_succ]) | ((with_reducible refine (wb_cons (s := IS.unp _ _)).mpr ?_); try dsimp only [setD, setOwn, List.set_cons_zero, List.set_cons_succ]) | ((with_reducible refine (wb_cons (s := IS.par _ _ _ _ _ _)).mpr ?_); try dsimp only [setD, setOwn, List.set_cons_zero, List.set_cons_succ]) | ((with_reducible refine (wb_cons (s := IS.pen _ _)).mpr ?_); try dsimp only [setD, setOwn, List.set_cons_zero, List.set_cons_succ]) | ((with_reducible refine (wb_cons (s := IS.iff _ _ _) (ss := [])).mpr ?_); try dsimp only [setD, setOwn, List.set_cons_zero, List.set_cons_succ]) | with_reducible refine ws_set.mpr ?_ | with_reducible refine ws_ret.mpr ?_ | with_reducible refine ws_iff.mpr ?_ | with_reducible refine ws_own.mpr ?_ | with_reducible refine ws_for.mpr ?_ | with_reducible refine ws_exp.mpr ?_ | with_reducible refine ws_unp.mpr ?_ | with_reducible refine ws_par.mpr ?_ | with_reducible refine ws_pen.mpr ?_ | with_reducible refine wb_nil.mpr ?_ | with_reducible refine we_slot.mpr ?_ | with_reducible refine we_cst.mpr ?_ | with_reducible refine we_bin.mpr ?_ | with_reducible refine we_bi1.mpr ?_ | with_reducible refine we_cmp.mpr ?_ | with_reducible refine we_idx.mpr ?_ | with_reducible refine we_call.mpr ?_ | with_reducible refine we_bop.mpr ?_ | with_reducible refine we_not.mpr ?_ | with_reducible refine we_chn.mpr ?_ | with_reducible refine we_tup.mpr ?_ | with_reducible refine we_lst.mpr ?_ | with_reducible refine we_neg.mpr ?_ | with_reducible refine we_ife.mpr ?_ | with_reducible refine we_bi2.mpr ?_ | with_reducible refine we_rngL.mpr ?_ | with_reducible refine we_slc.mpr ?_ | with_reducible refine we_rev.mpr ?_ | with_reducible refine we_lc.mpr ?_ | with_reducible refine we_idxS.mpr ?_ | with_reducible refine wr_of ?_ | with_reducible refine wkp_of ?_ | with_reducible refine wp_n ?_ | with_reducible refine wp_s ?_ | with_reducible refine wds_cons.mpr ?_ | with_reducible refine wds_nil.mpr ?_ | with_reducible refine was_cons.mpr ?_ | with_reducible refine was_nil.mpr ?_ | with_reducible refine wt_bop.mpr ?_ | with_reducible refine wt_not.mpr ?_ | with_reducible refine wt_cmp.mpr ?_ | with_reducible refine wt_chn.mpr ?_ | with_reducible refine wt_call.mpr ?_ | with_reducible refine wt_bi1.mpr ?_ | with_reducible refine wt_slot.mpr ?_ | with_reducible refine wt_idx.mpr ?_ | with_reducible refine wits_seq.mpr ?_ | with_reducible refine wits_rng.mpr ?_ | with_reducible refine wits_enu.mpr ?_ | with_reducible refine wits_zip.mpr ?_ | with_reducible refine cnd_n ?_ | with_reducible refine cnd_s ?_ | with_reducible refine we_allG ?_ | with_reducible refine wt_allG ?_ | with_reducible refine we_join.mpr ?_ | ((with_reducible apply ite_y); · exact rfl) | ((with_reducible apply ite_n); · exact rfl) | with_reducible refine sto_pen ?_ | ((with_reducible apply slot_pen); · exact rfl; · exact rfl) | ((with_reducible apply slot_own); · exact rfl) | ((with_reducible apply slot_scr); · exact rfl) | ((with_reducible apply so_id); refine so_ite ?_ ?_; · (first | decide | omega | exact mul_small (by omega) (by omega) (by omega) (by omega))) | ((fail_if_success (first | with_reducible apply wb_id | with_reducible apply wc_id | with_reducible apply wfor_id | with_reducible apply wlc_id)); refine ⟨_, _, rfl, rfl, ?_⟩) | ((fail_if_success (first | with_reducible apply wb_id | with_reducible apply wc_id | with_reducible apply wfor_id | with_reducible apply wlc_id)); refine ⟨rfl, ?_⟩) | ((fail_if_success (first | with_reducible apply wb_id | with_reducible apply wc_id | with_reducible apply wfor_id | with_reducible apply wlc_id)); refine ⟨_, _, _, rfl, rfl, rfl, rfl, ?_⟩)))
section
variable {l many : Int} {nss : List (List Int)} {ends cs : List Int}
/-- the standings along w, from s on -/
def scan (nss : List (List Int)) : Int → List Nat → List Int
  | s, [] => [s]
  | s, c :: r => s :: scan nss (stp nss s c) r
theorem scan_at : ∀ (w : List Nat) (s : Int) (i : Nat), i ≤ w.length → (scan nss s w)[i]? = some (lead nss s (w.take i))
  | [], s, i, h => by
    have : i = 0 := by simpa using h
    subst this
    rfl
  | c :: r, s, 0, h => by rw [scan]; rfl
  | c :: r, s, i + 1, h => by
    rw [scan, List.getElem?_cons_succ, scan_at r _ i (by simpa using h)]
    rfl
theorem along_all (M : Mok l many nss ends) {n : Nat} {w : Str} (hw : WordB l w = true) (hz : w.length ≤ 10000) {p : Option (List D)} {Q : R → Option (List D) → Prop} (k : Q (.fr ((scan nss 0 w.cps.toList).map .int)) p) : WC fns (n + 60) 7 [.d (machD l nss ends), .d (.str w)] p Q := by
  rw [wc_def (fd := f7) rfl rfl]
  show WB fns (n + 59) b7 { env := [some (.d (machD l nss ends)), some (.d (.str w)), none, none, none], pen := p } _
  unfold b7
  decreasing_tactic
  refine wb_cons.mpr ?_
  decreasing_tactic
  have m0 := M.m0
  refine wfor_inv (fun rest g => ∃ (todo : List Nat) (init : List Int) (s : Int) (o : Option Sv), rest = todo.map (fun c => PyData.str ⟨#[c]⟩) ∧ (∀ c ∈ todo, c ∈ (lets l).cps.toList) ∧ 0 ≤ s ∧ s < many ∧ init ++ scan nss s todo = scan nss 0 w.cps.toList ∧ init.length + todo.length = w.cps.toList.length ∧ g = { env := [some (.d (machD l nss ends)), some (.d (.str w)), some (.d (.tuple (nss.map fun ns => .tuple (ns.map .int)))), some (.own ((init ++ [s]).map .int)), o], pen := p }) ?_ ?_ ⟨w.cps.toList, [], 0, _, rfl, word_all hw, by omega, by omega, rfl, by simp, rfl⟩
  · rintro d rest _ ⟨todo, init, s, o, e1, hc, s0, s1, e2, e3, rfl⟩
    cases todo with
    | nil => cases e1
    | cons c todo =>
      rw [List.map_cons] at e1
      cases e1
      have hc0 := hc c List.mem_cons_self
      obtain ⟨_, t0, t1⟩ := stp_at M s0 s1 hc0
      have hzz : w.cps.toList.length ≤ 10000 := by simpa using (show w.cps.size ≤ 10000 from hz)
      rw [List.length_cons] at e3
      decreasing_tactic
      refine app_own trivial ?_
      decreasing_tactic
      refine so_rfl (last_at init s) ?_
      decreasing_tactic
      refine so_rfl (moves_at M s0 s1) ?_
      decreasing_tactic
      refine so_rfl (word_mem M.l0 M.l1 hc0).2.2 ?_
      decreasing_tactic
      refine so_rfl (letter_at M s0 s1 hc0) ?_
      decreasing_tactic
      refine ⟨_, rfl, by rw [List.length_map, List.length_append, List.length_singleton]; unfold szL; omega, ?_⟩
      decreasing_tactic
      exact ⟨todo, init ++ [s], stp nss s c, _, rfl, fun x hx => hc x (List.mem_cons_of_mem _ hx), t0, t1, by rw [← e2, scan, List.append_assoc]; rfl, by rw [List.length_append, List.length_singleton]; omega, by rw [show ((init ++ [s]) ++ [stp nss s c]).map PyData.int = (init ++ [s]).map PyData.int ++ [PyData.int (stp nss s c)] from List.map_append ..]; rfl⟩
  · rintro _ ⟨todo, init, s, o, e1, hc, s0, s1, e2, e3, rfl⟩
    cases todo with
    | cons _ _ => cases e1
    | nil =>
      decreasing_tactic
      rw [show scan nss s [] = [s] from rfl] at e2
      rw [e2]
      exact k
theorem few_ok (M : Mok l many nss ends) (h5 : many ≤ 5) {n : Nat} {p : Option (List D)} {Q : R → Option (List D) → Prop} (k : Q (.d .none) p) : WC fns (n + 20) 10 [.d (machD l nss ends), .d (.int 5)] p Q := by
  rw [wc_def (fd := f10) rfl rfl]
  show WB fns (n + 19) b10 { env := [some (.d (machD l nss ends)), some (.d (.int 5))], pen := p } _
  unfold b10
  decreasing_tactic
  rw [show decide ((5 : Int) < ((List.map (fun ns => PyData.tuple (List.map PyData.int ns)) nss).length : Nat)) = false from decide_eq_false (by rw [List.length_map]; have := M.len; omega)]
  decreasing_tactic
  exact k
/-- where the rest of a word leads into an end -/
def good (nss : List (List Int)) (ends : List Int) : List Nat → List Int
  | [] => ends
  | c :: r => ledL (good nss ends r) (c - 97) 0 nss
def cutB (nss : List (List Int)) (ends cs : List Int) (w : List Nat) (i : Nat) : Bool := endsB cs (lead nss 0 (w.take i)) && cs.all (fun x => endsB (good nss ends (w.drop i)) x)
def cutsL (nss : List (List Int)) (ends cs : List Int) (w : List Nat) : List Nat := (List.range (w.length + 1)).filter (cutB nss ends cs w)
theorem cut_yes {f : Nat → Bool} {m t : Nat} (h : f m = true) : (((List.range' m (t + 1)).filter f).reverse.map fun (i : Nat) => PyData.int (i : Int)) = (((List.range' (m + 1) t).filter f).reverse.map fun (i : Nat) => PyData.int (i : Int)) ++ [PyData.int (m : Int)] := by
  rw [List.range'_succ, List.filter_cons, if_pos h, List.reverse_cons, List.map_append]
  rfl
theorem cut_no {f : Nat → Bool} {m t : Nat} (h : f m = false) : (((List.range' m (t + 1)).filter f).reverse.map fun (i : Nat) => PyData.int (i : Int)) = (((List.range' (m + 1) t).filter f).reverse.map fun (i : Nat) => PyData.int (i : Int)) := by
  rw [List.range'_succ, List.filter_cons, if_neg (by rw [h]; decide)]
theorem cuttings_ok (M : Mok l many nss ends) (h5 : many ≤ 5) (C : Cut many cs) (hcl : cs.length ≤ 1000) {n : Nat} {w : Str} (hw : WordB l w = true) (hz : w.length ≤ 10000) {p : Option (List D)} {Q : R → Option (List D) → Prop} (k : Q (.fr ((cutsL nss ends cs w.cps.toList).map fun (i : Nat) => PyData.int (i : Int))) p) : WC fns (n + 130) 13 [.d (machD l nss ends), .d (.tuple (cs.map .int)), .d (.str w)] p Q := by
  rw [wc_def (fd := f13) rfl rfl]
  show WB fns (n + 129) b13 { env := [some (.d (machD l nss ends)), some (.d (.tuple (cs.map .int))), some (.d (.str w)), none, none, none, none], pen := p } _
  unfold b13
  decreasing_tactic
  refine check_ok M ?_
  decreasing_tactic
  refine checkcut_ok M C ?_
  decreasing_tactic
  refine checkw_ok hw ?_
  decreasing_tactic
  refine few_ok M h5 ?_
  decreasing_tactic
  refine along_all M hw hz ?_
  decreasing_tactic
  refine wb_cons.mpr ?_
  decreasing_tactic
  have hL : w.cps.toList.length = w.length := by simp [Str.length]
  have hz2 : w.length ≤ szL := by unfold szL; omega
  obtain ⟨j, hj⟩ : ∃ j : Int, j = (w.length : Int) := ⟨_, rfl⟩
  refine so_rfl (a := .d (.int j)) (by rw [hj]; show (if _ then _ else _) = _; exact if_pos hz2) ?_
  decreasing_tactic
  subst hj
  refine wfor_inv (fun rest g => ∃ (t m : Nat) (o : Option Sv), t + m = w.length + 1 ∧ rest = (List.range' t m).map (fun (k : Nat) => PyData.int ((w.length : Int) + (k : Int) * (-1))) ∧ g = { env := [some (.d (machD l nss ends)), some (.d (.tuple (cs.map .int))), some (.d (.str w)), some (.d (.list ((scan nss 0 w.cps.toList).map .int))), some (.d (.tuple ((good nss ends (w.cps.toList.drop m)).map .int))), some (.own (((List.range' m t).filter (cutB nss ends cs w.cps.toList)).reverse.map fun (i : Nat) => PyData.int (i : Int))), o], pen := p }) ?_ ?_ ⟨0, w.length + 1, none, by omega, ?_, ?_⟩
  · rintro d rest g ⟨t, m, o, e0, e1, rfl⟩
    cases m with
    | zero => cases e1
    | succ m =>
      rw [List.range'_succ, List.map_cons] at e1
      obtain ⟨rfl, rfl⟩ := List.cons.inj e1
      rw [show (w.length : Int) + (t : Int) * (-1) = (m : Int) by omega]
      have sat : idxD (.list ((scan nss 0 w.cps.toList).map .int)) (.int (m : Int)) = some (.int (lead nss 0 (w.cps.toList.take m))) := L2.atI_nat (by rw [List.getElem?_map, scan_at _ _ _ (by omega)]; rfl)
      have hown : (((List.range' (m + 1) t).filter (cutB nss ends cs w.cps.toList)).reverse.map fun (i : Nat) => PyData.int (i : Int)).length < szL := by
        rw [List.length_map, List.length_reverse]
        have := List.length_filter_le (cutB nss ends cs w.cps.toList) (List.range' (m + 1) t)
        rw [List.length_range'] at this
        unfold szL
        omega
      refine so_rfl rfl ?_
      refine wb_cons.mpr ?_
      decreasing_tactic
      refine ite_d (fun h => ?_) (fun h => ?_)
      · have hm : m < w.cps.toList.length := by omega
        have hd := List.drop_eq_getElem_cons hm
        have hcm := word_all hw _ (List.getElem_mem hm)
        obtain ⟨c1, c2, c3⟩ := word_mem M.l0 M.l1 hcm
        have at_ : idxD (.str w) (.int (m : Int)) = some (.str ⟨#[w.cps.toList[m]]⟩) := by
          show (if w.length ≤ szL then (atI w.cps.toList (m : Int)).map fun c => PyData.str ⟨#[c]⟩ else none) = _
          rw [if_pos hz2, L2.atI_nat (List.getElem?_eq_getElem hm)]
          rfl
        decreasing_tactic
        refine so_rfl at_ ?_
        decreasing_tactic
        refine so_rfl c3 ?_
        decreasing_tactic
        refine led_ok (fun ns hn => ?_) ?_ ?_
        · have := (M.row ns hn).1
          have := M.l1
          omega
        · have := M.len
          omega
        rw [show ledL (good nss ends (w.cps.toList.drop (m + 1))) (w.cps.toList[m] - 97) 0 nss = good nss ends (w.cps.toList.drop m) by rw [hd]; rfl]
        decreasing_tactic
        refine so_rfl sat ?_
        decreasing_tactic
        refine so_rfl (a := endsB cs (lead nss 0 (w.cps.toList.take m))) (in_ints _ cs) ?_
        cases ea : endsB cs (lead nss 0 (w.cps.toList.take m)) with
        | false =>
          decreasing_tactic
          exact ⟨t + 1, m, _, by omega, rfl, by rw [cut_no (by unfold cutB; rw [ea]; rfl)]⟩
        | true =>
          decreasing_tactic
          refine within_ok (xs := cs) hcl ?_
          cases eb : cs.all (fun x => endsB (good nss ends (w.cps.toList.drop m)) x) with
          | false =>
            decreasing_tactic
            exact ⟨t + 1, m, _, by omega, rfl, by rw [cut_no (by unfold cutB; rw [ea, eb]; rfl)]⟩
          | true =>
            decreasing_tactic
            refine app_own trivial ?_
            decreasing_tactic
            refine ⟨_, rfl, hown, ?_⟩
            decreasing_tactic
            exact ⟨t + 1, m, _, by omega, rfl, by rw [cut_yes (by unfold cutB; rw [ea, eb]; rfl)]; rfl⟩
      · rw [show w.cps.toList.drop (m + 1) = w.cps.toList.drop m by rw [List.drop_eq_nil_of_le (by omega), List.drop_eq_nil_of_le (by omega)]]
        decreasing_tactic
        refine so_rfl sat ?_
        decreasing_tactic
        refine so_rfl (a := endsB cs (lead nss 0 (w.cps.toList.take m))) (in_ints _ cs) ?_
        cases ea : endsB cs (lead nss 0 (w.cps.toList.take m)) with
        | false =>
          decreasing_tactic
          exact ⟨t + 1, m, _, by omega, rfl, by rw [cut_no (by unfold cutB; rw [ea]; rfl)]⟩
        | true =>
          decreasing_tactic
          refine within_ok (xs := cs) hcl ?_
          cases eb : cs.all (fun x => endsB (good nss ends (w.cps.toList.drop m)) x) with
          | false =>
            decreasing_tactic
            exact ⟨t + 1, m, _, by omega, rfl, by rw [cut_no (by unfold cutB; rw [ea, eb]; rfl)]⟩
          | true =>
            decreasing_tactic
            refine app_own trivial ?_
            decreasing_tactic
            refine ⟨_, rfl, hown, ?_⟩
            decreasing_tactic
            exact ⟨t + 1, m, _, by omega, rfl, by rw [cut_yes (by unfold cutB; rw [ea, eb]; rfl)]; rfl⟩
  · rintro g ⟨t, m, o, e0, e1, rfl⟩
    cases m with
    | succ m => cases e1
    | zero =>
      obtain rfl : t = w.length + 1 := by omega
      decreasing_tactic
      rw [List.map_reverse, List.reverse_reverse, ← List.range_eq_range', ← hL]
      exact k
  · rw [List.range_eq_range']
    congr 2
  · rw [List.drop_eq_nil_of_le (by omega)]
    rfl
end
end K07
end
section
set_option Elab.async false
set_option linter.all false
set_option maxRecDepth 100000
set_option autoImplicit false
set_option maxHeartbeats 4000000
open PySem PySem.Spec
namespace K07
open DL L2 CL
local macro_rules | `(tactic| decreasing_tactic) => `(tactic| repeat (first | ((with_reducible apply slot_d); · exact rfl) | ((with_reducible apply so_rfl); · exact rfl) | ((with_reducible apply wo_rfl); · exact rfl) | ((with_reducible refine (wb_cons (s := IS.set _ _)).mpr ?_); try dsimp only [setD, setOwn, List.set_cons_zero, List.set_cons_succ]) | ((with_reducible refine (wb_cons (s := IS.ret _)).mpr ?_); try dsimp only [setD, setOwn, List.set_cons_zero, List.set_cons_succ]) | ((with_reducible refine (wb_cons (s := IS.sto _ _ _)).mpr ?_); try dsimp only [setD, setOwn, List.set_cons_zero, List.set_cons_succ]) | ((with_reducible refine (wb_cons (s := IS.app _ _)).mpr ?_); try dsimp only [setD, setOwn, List.set_cons_zero, List.set_cons_succ]) | ((with_reducible refine (wb_cons (s := IS.own _ _)).mpr ?_); try dsimp only [setD, setOwn, List.set_cons_zero, List.set_cons_succ]) | ((with_reducible refine (wb_cons (s := IS.exp _)).mpr ?_); try dsimp only [setD, setOwn, List.set_cons_zero, List.set_cons_succ]) | ((with_reducible refine (wb_cons (s := IS.unp _ _)).mpr ?_); try dsimp only [setD, setOwn, List.set_cons_zero, List.set_cons_succ]) | ((with_reducible refine (wb_cons (s := IS.par _ _ _ _ _ _)).mpr ?_); try dsimp only [setD, setOwn, List.set_cons_zero, List.set_cons_succ]) | ((with_reducible refine (wb_cons (s := IS.pen _ _)).mpr ?_); try dsimp only [setD, setOwn, List.set_cons_zero, List.set_cons_succ]) | ((with_reducible refine (wb_cons (s := IS.iff _ _ _) (ss := [])).mpr ?_); try dsimp only [setD, setOwn, List.set_cons_zero, List.set_cons_succ]) | with_reducible refine ws_set.mpr ?_ | with_reducible refine ws_ret.mpr ?_ | with_reducible refine ws_iff.mpr ?_ | with_reducible refine ws_own.mpr ?_ | with_reducible refine ws_for.mpr ?_ | with_reducible refine ws_exp.mpr ?_ | with_reducible refine ws_unp.mpr ?_ | with_reducible refine ws_par.mpr ?_ | with_reducible refine ws_pen.mpr ?_ | with_reducible refine wb_nil.mpr ?_ | with_reducible refine we_slot.mpr ?_ | with_reducible refine we_cst.mpr ?_ | with_reducible refine we_bin.mpr ?_ | with_reducible refine we_bi1.mpr ?_ | with_reducible refine we_cmp.mpr ?_ | with_reducible refine we_idx.mpr ?_ | with_reducible refine we_call.mpr ?_ | with_reducible refine we_bop.mpr ?_ | with_reducible refine we_not.mpr ?_ | with_reducible refine we_chn.mpr ?_ | with_reducible refine we_tup.mpr ?_ | with_reducible refine we_lst.mpr ?_ | with_reducible refine we_neg.mpr ?_ | with_reducible refine we_ife.mpr ?_ | with_reducible refine we_bi2.mpr ?_ | with_reducible refine we_rngL.mpr ?_ | with_reducible refine we_slc.mpr ?_ | with_reducible refine we_rev.mpr ?_ | with_reducible refine we_lc.mpr ?_ | with_reducible refine we_idxS.mpr ?_ | with_reducible refine wr_of ?_ | with_reducible refine wkp_of ?_ | with_reducible refine wp_n ?_ | with_reducible refine wp_s ?_ | with_reducible refine wds_cons.mpr ?_ | with_reducible refine wds_nil.mpr ?_ | with_reducible refine was_cons.mpr ?_ | with_reducible refine was_nil.mpr ?_ | with_reducible refine wt_bop.mpr ?_ | with_reducible refine wt_not.mpr ?_ | with_reducible refine wt_cmp.mpr ?_ | with_reducible refine wt_chn.mpr ?_ | with_reducible refine wt_call.mpr ?_ | with_reducible refine wt_bi1.mpr ?_ | with_reducible refine wt_slot.mpr ?_ | with_reducible refine wt_idx.mpr ?_ | with_reducible refine wits_seq.mpr ?_ | with_reducible refine wits_rng.mpr ?_ | with_reducible refine wits_enu.mpr ?_ | with_reducible refine wits_zip.mpr ?_ | with_reducible refine cnd_n ?_ | with_reducible refine cnd_s ?_ | with_reducible refine we_allG ?_ | with_reducible refine wt_allG ?_ | with_reducible refine we_join.mpr ?_ | ((with_reducible apply ite_y); · exact rfl) | ((with_reducible apply ite_n); · exact rfl) | with_reducible refine sto_pen ?_ | ((with_reducible apply slot_pen); · exact rfl; · exact rfl) | ((with_reducible apply slot_own); · exact rfl) | ((with_reducible apply slot_scr); · exact rfl) | ((with_reducible apply so_id); refine so_ite ?_ ?_; · (first | decide | omega | exact mul_small (by omega) (by omega) (by omega) (by omega))) | ((fail_if_success (first | with_reducible apply wb_id | with_reducible apply wc_id | with_reducible apply wfor_id | with_reducible apply wlc_id)); refine ⟨_, _, rfl, rfl, ?_⟩) | ((fail_if_success (first | with_reducible apply wb_id | with_reducible apply wc_id | with_reducible apply wfor_id | with_reducible apply wlc_id)); refine ⟨rfl, ?_⟩) | ((fail_if_success (first | with_reducible apply wb_id | with_reducible apply wc_id | with_reducible apply wfor_id | with_reducible apply wlc_id)); refine ⟨_, _, _, rfl, rfl, rfl, rfl, ?_⟩)))
section
variable {l many : Int} {nss : List (List Int)} {ends cs : List Int}
theorem endsB_iff {ends : List Int} {s : Int} : endsB ends s = true ↔ s ∈ ends := by
  unfold endsB
  rw [List.any_map, List.any_eq_true]
  constructor
  · rintro ⟨x, hx, e⟩
    have : x = s := by simpa [PyData.eqv] using e
    exact this ▸ hx
  · intro h
    exact ⟨s, h, by simp [PyData.eqv]⟩
theorem led_mem {ys : List Int} {j : Nat} : ∀ {r : List (List Int)} {i : Nat} {s : Int}, s ∈ ledL ys j i r ↔ ∃ k, k < r.length ∧ s = ((i + k : Nat) : Int) ∧ endsB ys ((r.getD k []).getD j 0) = true
  | [], i, s => by simp [ledL]
  | ns :: r, i, s => by
    rw [ledL_cons]
    have ih := led_mem (ys := ys) (j := j) (r := r) (i := i + 1) (s := s)
    have tl : (∃ k, k < r.length ∧ s = ((i + 1 + k : Nat) : Int) ∧ endsB ys ((r.getD k []).getD j 0) = true) ↔ ∃ k, k + 1 < (ns :: r).length ∧ s = ((i + (k + 1) : Nat) : Int) ∧ endsB ys (((ns :: r).getD (k + 1) []).getD j 0) = true := by
      constructor
      · rintro ⟨k, h1, h2, h3⟩
        exact ⟨k, by simpa using h1, by rw [h2]; congr 1; omega, by simpa using h3⟩
      · rintro ⟨k, h1, h2, h3⟩
        exact ⟨k, by simpa using h1, by rw [h2]; congr 1; omega, by simpa using h3⟩
    split
    · rename_i e
      rw [List.mem_cons, ih, tl]
      constructor
      · rintro (h | ⟨k, h⟩)
        · exact ⟨0, by simp, by simpa using h, by simpa using e⟩
        · exact ⟨k + 1, h⟩
      · rintro ⟨k, h⟩
        cases k with
        | zero => exact .inl (by simpa using h.2.1)
        | succ k => exact .inr ⟨k, h⟩
    · rename_i e
      rw [ih, tl]
      constructor
      · rintro ⟨k, h⟩
        exact ⟨k + 1, h⟩
      · rintro ⟨k, h⟩
        cases k with
        | zero => exact absurd (by simpa using h.2.2) e
        | succ k => exact ⟨k, h⟩
theorem good_lead (M : Mok l many nss ends) : ∀ {w : List Nat}, (∀ c ∈ w, c ∈ (lets l).cps.toList) → ∀ {s : Int}, 0 ≤ s → s < many → endsB (good nss ends w) s = endsB ends (lead nss s w)
  | [], _, s, _, _ => rfl
  | c :: r, h, s, h0, h1 => by
    obtain ⟨_, t0, t1⟩ := stp_at M h0 h1 (h c List.mem_cons_self)
    have ih := good_lead M (w := r) (fun x hx => h x (List.mem_cons_of_mem _ hx)) t0 t1
    show endsB (ledL (good nss ends r) (c - 97) 0 nss) s = endsB ends (lead nss (stp nss s c) r)
    rw [← ih]
    refine Bool.eq_iff_iff.mpr ?_
    rw [endsB_iff, led_mem]
    have hl := M.len
    constructor
    · rintro ⟨k, k1, k2, k3⟩
      have : s.toNat = k := by omega
      unfold stp
      rw [this]
      exact k3
    · intro h
      exact ⟨s.toNat, by omega, by omega, h⟩
theorem areends_ok {xs : List Int} {n : Nat} {p : Option (List D)} {Q : R → Option (List D) → Prop} (hz : xs.length ≤ 1000) (k : Q (.d (.bool (xs.all fun x => endsB ends x))) p) : WC fns (n + 30) 29 [.d (machD l nss ends), .d (.list (xs.map .int))] p Q := by
  rw [wc_def (fd := f29) rfl rfl]
  show WB fns (n + 29) b29 { env := [some (.d (machD l nss ends)), some (.d (.list (xs.map .int))), none], pen := p } _
  unfold b29
  decreasing_tactic
  refine wlc_inv (fun ds acc g => ∃ (b zs : List Int), ds = b.map .int ∧ acc = zs.map .int ∧ zs.length + b.length ≤ 1000 ∧ xs.filter (fun x => !endsB ends x) = zs ++ b.filter (fun x => !endsB ends x) ∧ ∃ o, g = { env := [some (.d (machD l nss ends)), some (.d (.list (xs.map .int))), o], pen := p }) ?_ ?_ ⟨xs, [], rfl, rfl, by simpa using hz, rfl, _, rfl⟩
  · rintro d ds acc g ⟨b, zs, e1, rfl, hl, e2, o, rfl⟩
    cases b with
    | nil => cases e1
    | cons x b =>
      obtain ⟨rfl, rfl⟩ := List.cons.inj e1
      rw [List.length_cons] at hl
      decreasing_tactic
      refine so_rfl (a := !endsB ends x) (by show (inD _ _).map _ = _; rw [in_ints]; rfl) ?_
      cases e : endsB ends x with
      | true =>
        decreasing_tactic
        exact ⟨by omega, by rw [e2, List.filter_cons, if_neg (by rw [e]; decide)], _, rfl⟩
      | false =>
        decreasing_tactic
        exact ⟨by rw [List.length_map]; unfold szL; omega, b, zs ++ [x], rfl, by rw [List.map_append]; rfl, by rw [List.length_append, List.length_singleton]; omega, by rw [e2, List.filter_cons, if_pos (by rw [e]; rfl), List.append_assoc]; rfl, _, rfl⟩
  · rintro acc g ⟨b, zs, e1, rfl, hl, e2, o, rfl⟩
    cases b with
    | cons x b => cases e1
    | nil =>
      decreasing_tactic
      refine so_rfl (eq_nil zs) ?_
      decreasing_tactic
      have e : zs.isEmpty = xs.all fun x => endsB ends x := by
        rw [List.filter_nil, List.append_nil] at e2
        refine Bool.eq_iff_iff.mpr ?_
        rw [← e2, List.isEmpty_iff, List.filter_eq_nil_iff, List.all_eq_true]
        simp
      rw [e]
      exact k
theorem llead_s (M : Mok l many nss ends) {s0' : Int} (a0 : 0 ≤ s0') (a1 : s0' < many) {n : Nat} {w : Str} (hw : WordB l w = true) {p : Option (List D)} {Q : R → Option (List D) → Prop} (k : Q (.d (.int (lead nss s0' w.cps.toList))) p) : WC fns (n + 40) 23 [.d (machD l nss ends), .d (.int s0'), .d (.str w)] p Q := by
  rw [wc_def (fd := f23) rfl rfl]
  show WB fns (n + 39) b23 { env := [some (.d (machD l nss ends)), some (.d (.int s0')), some (.d (.str w)), none], pen := p } _
  unfold b23
  refine wb_cons.mpr ?_
  decreasing_tactic
  have m0 := M.m0
  refine wfor_inv (fun rest g => ∃ (todo : List Nat) (s : Int) (o : Option Sv), rest = todo.map (fun c => PyData.str ⟨#[c]⟩) ∧ (∀ c ∈ todo, c ∈ (lets l).cps.toList) ∧ 0 ≤ s ∧ s < many ∧ lead nss s todo = lead nss s0' w.cps.toList ∧ g = { env := [some (.d (machD l nss ends)), some (.d (.int s)), some (.d (.str w)), o], pen := p }) ?_ ?_ ⟨w.cps.toList, s0', _, rfl, word_all hw, a0, a1, rfl, rfl⟩
  · rintro d rest _ ⟨todo, s, o, e1, hc, s0, s1, e2, rfl⟩
    cases todo with
    | nil => cases e1
    | cons c todo =>
      rw [List.map_cons] at e1
      cases e1
      have hc0 := hc c List.mem_cons_self
      obtain ⟨_, t0, t1⟩ := stp_at M s0 s1 hc0
      decreasing_tactic
      refine so_rfl (moves_at M s0 s1) ?_
      decreasing_tactic
      refine so_rfl (word_mem M.l0 M.l1 hc0).2.2 ?_
      decreasing_tactic
      refine so_rfl (letter_at M s0 s1 hc0) ?_
      decreasing_tactic
      exact ⟨todo, stp nss s c, _, rfl, fun x hx => hc x (List.mem_cons_of_mem _ hx), t0, t1, e2, rfl⟩
  · rintro _ ⟨todo, s, o, e1, hc, s0, s1, e2, rfl⟩
    cases todo with
    | cons _ _ => cases e1
    | nil =>
      decreasing_tactic
      have e4 : s = lead nss s0' w.cps.toList := e2
      rw [e4]
      exact k
end
end K07
end
section
set_option Elab.async false
set_option linter.all false
set_option maxRecDepth 100000
set_option autoImplicit false
set_option maxHeartbeats 4000000
open PySem PySem.Spec
namespace K07
open DL L2 CL
section
variable {l many : Int} {nss : List (List Int)} {ends cs : List Int}
theorem cut_drop {w : Str} {i : Nat} (h : i ≤ w.length) : (cutS w (some (i : Int)) none).cps.toList = w.cps.toList.drop i := by
  have hL : w.cps.toList.length = w.length := by simp [Str.length]
  unfold cutS
  have e1 : HT.sIx w.length 0 (some (i : Int)) = i := by
    unfold HT.sIx
    dsimp only
    rw [if_neg (by omega)]
    omega
  have e2 : HT.sIx w.length w.length none = w.length := rfl
  rw [e1, e2]
  show (List.take _ _) = _
  exact List.take_of_length_le (by rw [List.length_drop]; omega)
theorem cut_take {w : Str} {i : Nat} (h : i ≤ w.length) : (cutS w none (some (i : Int))).cps.toList = w.cps.toList.take i := by
  unfold cutS
  have e1 : HT.sIx w.length w.length (some (i : Int)) = i := by
    unfold HT.sIx
    dsimp only
    rw [if_neg (by omega)]
    omega
  have e2 : HT.sIx w.length 0 none = 0 := rfl
  rw [e1, e2]
  rfl
theorem word_drop {w z : Str} {i : Nat} (hw : WordB l w = true) (e : z.cps.toList = w.cps.toList.drop i) : WordB l z = true := by
  unfold WordB
  rw [e]
  exact List.all_eq_true.mpr fun c hc => List.all_eq_true.mp hw c (List.mem_of_mem_drop hc)
theorem word_take {w z : Str} {i : Nat} (hw : WordB l w = true) (e : z.cps.toList = w.cps.toList.take i) : WordB l z = true := by
  unfold WordB
  rw [e]
  exact List.all_eq_true.mpr fun c hc => List.all_eq_true.mp hw c (List.mem_of_mem_take hc)
end
end K07
end
section
set_option Elab.async false
set_option linter.all false
set_option maxRecDepth 100000
set_option autoImplicit false
set_option maxHeartbeats 4000000
open PySem PySem.Spec
namespace K07
open DL L2 CL
local macro_rules | `(tactic| decreasing_tactic) => `(tactic| repeat (first | ((with_reducible apply slot_d); · exact rfl) | ((with_reducible apply so_rfl); · exact rfl) | ((with_reducible apply wo_rfl); · exact rfl) | ((with_reducible refine (wb_cons (s := IS.set _ _)).mpr ?_); try dsimp only [setD, setOwn, List.set_cons_zero, List.set_cons_succ]) | ((with_reducible refine (wb_cons (s := IS.ret _)).mpr ?_); try dsimp only [setD, setOwn, List.set_cons_zero, List.set_cons_succ]) | ((with_reducible refine (wb_cons (s := IS.sto _ _ _)).mpr ?_); try dsimp only [setD, setOwn, List.set_cons_zero, List.set_cons_succ]) | ((with_reducible refine (wb_cons (s := IS.app _ _)).mpr ?_); try dsimp only [setD, setOwn, List.set_cons_zero, List.set_cons_succ]) | ((with_reducible refine (wb_cons (s := IS.own _ _)).mpr ?_); try dsimp only [setD, setOwn, List.set_cons_zero, List.set_cons_succ]) | ((with_reducible refine (wb_cons (s := IS.exp _)).mpr ?_); try dsimp only [setD, setOwn, List.set_cons_zero, List.set_cons_succ]) | ((with_reducible refine (wb_cons (s := IS.unp _ _)).mpr ?_); try dsimp only [setD, setOwn, List.set_cons_zero, List.set_cons_succ]) | ((with_reducible refine (wb_cons (s := IS.par _ _ _ _ _ _)).mpr ?_); try dsimp only [setD, setOwn, List.set_cons_zero, List.set_cons_succ]) | ((with_reducible refine (wb_cons (s := IS.pen _ _)).mpr ?_); try dsimp only [setD, setOwn, List.set_cons_zero, List.set_cons_succ]) | ((with_reducible refine (wb_cons (s := IS.iff _ _ _) (ss := [])).mpr ?_); try dsimp only [setD, setOwn, List.set_cons_zero, List.set_cons_succ]) | with_reducible refine ws_set.mpr ?_ | with_reducible refine ws_ret.mpr ?_ | with_reducible refine ws_iff.mpr ?_ | with_reducible refine ws_own.mpr ?_ | with_reducible refine ws_for.mpr ?_ | with_reducible refine ws_exp.mpr ?_ | with_reducible refine ws_unp.mpr ?_ | with_reducible refine ws_par.mpr ?_ | with_reducible refine ws_pen.mpr ?_ | with_reducible refine wb_nil.mpr ?_ | with_reducible refine we_slot.mpr ?_ | with_reducible refine we_cst.mpr ?_ | with_reducible refine we_bin.mpr ?_ | with_reducible refine we_bi1.mpr ?_ | with_reducible refine we_cmp.mpr ?_ | with_reducible refine we_idx.mpr ?_ | with_reducible refine we_call.mpr ?_ | with_reducible refine we_bop.mpr ?_ | with_reducible refine we_not.mpr ?_ | with_reducible refine we_chn.mpr ?_ | with_reducible refine we_tup.mpr ?_ | with_reducible refine we_lst.mpr ?_ | with_reducible refine we_neg.mpr ?_ | with_reducible refine we_ife.mpr ?_ | with_reducible refine we_bi2.mpr ?_ | with_reducible refine we_rngL.mpr ?_ | with_reducible refine we_slc.mpr ?_ | with_reducible refine we_rev.mpr ?_ | with_reducible refine we_lc.mpr ?_ | with_reducible refine we_idxS.mpr ?_ | with_reducible refine wr_of ?_ | with_reducible refine wkp_of ?_ | with_reducible refine wp_n ?_ | with_reducible refine wp_s ?_ | with_reducible refine wds_cons.mpr ?_ | with_reducible refine wds_nil.mpr ?_ | with_reducible refine was_cons.mpr ?_ | with_reducible refine was_nil.mpr ?_ | with_reducible refine wt_bop.mpr ?_ | with_reducible refine wt_not.mpr ?_ | with_reducible refine wt_cmp.mpr ?_ | with_reducible refine wt_chn.mpr ?_ | with_reducible refine wt_call.mpr ?_ | with_reducible refine wt_bi1.mpr ?_ | with_reducible refine wt_slot.mpr ?_ | with_reducible refine wt_idx.mpr ?_ | with_reducible refine wits_seq.mpr ?_ | with_reducible refine wits_rng.mpr ?_ | with_reducible refine wits_enu.mpr ?_ | with_reducible refine wits_zip.mpr ?_ | with_reducible refine cnd_n ?_ | with_reducible refine cnd_s ?_ | with_reducible refine we_allG ?_ | with_reducible refine wt_allG ?_ | with_reducible refine we_join.mpr ?_ | ((with_reducible apply ite_y); · exact rfl) | ((with_reducible apply ite_n); · exact rfl) | with_reducible refine sto_pen ?_ | ((with_reducible apply slot_pen); · exact rfl; · exact rfl) | ((with_reducible apply slot_own); · exact rfl) | ((with_reducible apply slot_scr); · exact rfl) | ((with_reducible apply so_id); refine so_ite ?_ ?_; · (first | decide | omega | exact mul_small (by omega) (by omega) (by omega) (by omega))) | ((fail_if_success (first | with_reducible apply wb_id | with_reducible apply wc_id | with_reducible apply wfor_id | with_reducible apply wlc_id)); refine ⟨_, _, rfl, rfl, ?_⟩) | ((fail_if_success (first | with_reducible apply wb_id | with_reducible apply wc_id | with_reducible apply wfor_id | with_reducible apply wlc_id)); refine ⟨rfl, ?_⟩) | ((fail_if_success (first | with_reducible apply wb_id | with_reducible apply wc_id | with_reducible apply wfor_id | with_reducible apply wlc_id)); refine ⟨_, _, _, rfl, rfl, rfl, rfl, ?_⟩)))
section
variable {l many : Int} {nss : List (List Int)} {ends cs : List Int}
theorem tup_app (s : List Int) (z : Int) : binD .Add (.tuple (s.map .int)) (.tuple [.int z]) = if (s.map PyData.int).length + [PyData.int z].length ≤ szL then some (.d (.tuple ((s ++ [z]).map .int))) else none := by
  rw [List.map_append]
  rfl
def CutD (many : Int) (d : D) : Prop := ∃ cs : List Int, d = .tuple (cs.map .int) ∧ Cut many cs ∧ cs.length ≤ 5
theorem allcuts_ok (M : Mok l many nss ends) (h5 : many ≤ 5) {n : Nat} {p : Option (List D)} {Q : R → Option (List D) → Prop} (k : ∀ xs : List D, (∀ d ∈ xs, CutD many d) → 1 ≤ xs.length → xs.length ≤ 40 → Q (.fr xs) p) : WC fns (n + 30) 28 [.d (machD l nss ends)] p Q := by
  rw [wc_def (fd := f28) rfl rfl]
  show WB fns (n + 29) b28 { env := [some (.d (machD l nss ends)), none, none, none], pen := p } _
  unfold b28
  have hl := M.len
  have m0 := M.m0
  decreasing_tactic
  refine wb_cons.mpr (ws_for.mpr (wits_rng1 ?_))
  decreasing_tactic
  refine rng1_mk nss.length (by rw [List.length_map]) (by omega) ?_
  refine wfor_range nss.length (fun i g => ∃ o o2, g = { env := [some (.d (machD l nss ends)), some (.d (.list ((subs i).map tupD))), o, o2], pen := p }) ?_ ?_ ⟨_, _, rfl⟩
  · rintro i g hi ⟨o, o2, rfl⟩
    have hsz : 2 ^ i ≤ 32 := Nat.le_trans (Nat.pow_le_pow_right (by decide) (show i ≤ 5 by omega)) (by decide)
    decreasing_tactic
    refine wlc_inv (fun rest acc g => ∃ (a b : List (List Int)) (o2 : Option Sv), subs i = a ++ b ∧ rest = b.map tupD ∧ acc = (a.map fun s => s ++ [(i : Int)]).map tupD ∧ g = { env := [some (.d (machD l nss ends)), some (.d (.list ((subs i).map tupD))), some (.d (.int i)), o2], pen := p }) ?_ ?_ ⟨[], subs i, _, rfl, rfl, rfl, rfl⟩
    · rintro d rest acc g ⟨a, b, o2, e1, e2, rfl, rfl⟩
      cases b with
      | nil => cases e2
      | cons s b =>
        obtain ⟨rfl, rfl⟩ := List.cons.inj e2
        have el := congrArg List.length e1
        rw [subs_len, List.length_append, List.length_cons] at el
        have sl : s.length ≤ 5 := by
          obtain ⟨L, e, h⟩ := subs_head i
          have hm : s ∈ subs i := by rw [e1]; exact List.mem_append_right _ List.mem_cons_self
          rw [e] at hm
          rcases List.mem_cons.mp hm with rfl | hm
          · exact Nat.zero_le _
          · have := (h s hm).2.2.2
            omega
        unfold tupD
        decreasing_tactic
        refine so_rfl ((tup_app s i).trans (if_pos (by rw [List.length_map, List.length_singleton]; unfold szL; omega))) ?_
        decreasing_tactic
        exact ⟨by rw [List.length_map, List.length_map]; unfold szL; omega, a ++ [s], b, _, by rw [e1, List.append_assoc]; rfl, rfl, by simp [tupD], rfl⟩
    · rintro acc g ⟨a, b, o2, e1, e2, rfl, rfl⟩
      cases b with
      | cons s b => cases e2
      | nil =>
        rw [List.append_nil] at e1
        subst e1
        decreasing_tactic
        refine so_ite (by rw [List.length_map, List.length_map, List.length_map, subs_len]; unfold szL; omega) ?_
        decreasing_tactic
        exact ⟨_, _, by rw [subs, List.map_append]; rfl⟩
  · rintro g ⟨o, o2, rfl⟩
    obtain ⟨L, e, h⟩ := subs_head nss.length
    obtain ⟨L', e2, pm⟩ := sort_nil fun x hx => (h x hx).1
    have len := subs_len nss.length
    rw [e, List.length_cons] at len
    rw [e]
    decreasing_tactic
    refine so_rfl (sorted_eq L) ?_
    decreasing_tactic
    rw [e2]
    have hsz : 2 ^ nss.length ≤ 32 := Nat.le_trans (Nat.pow_le_pow_right (by decide) (show nss.length ≤ 5 by omega)) (by decide)
    have hsz1 : 2 ≤ 2 ^ nss.length := Nat.le_trans (by decide) (Nat.pow_le_pow_right (by decide) (show 1 ≤ nss.length by omega))
    have ec : cutD (([] :: L').map tupD) (some 1) none = L'.map tupD := by
      unfold cutD
      have q1 : HT.sIx (([] :: L').map tupD).length 0 (some 1) = 1 := by
        unfold HT.sIx
        dsimp only
        rw [if_neg (by decide), List.length_map, List.length_cons]
        omega
      have q2 : HT.sIx (([] :: L').map tupD).length (([] :: L').map tupD).length none = (([] :: L').map tupD).length := rfl
      rw [q1, q2]
      show (L'.map tupD).take _ = _
      exact List.take_of_length_le (by rw [List.length_map, List.length_map, List.length_cons]; omega)
    rw [ec]
    have pl := pm.length_eq
    refine k _ (fun d hd => ?_) (by rw [List.length_map]; omega) (by rw [List.length_map]; omega)
    obtain ⟨x, hx, rfl⟩ := List.mem_map.mp hd
    obtain ⟨h1, h2, h3, h4⟩ := h x (pm.mem_iff.mp hx)
    exact ⟨x, rfl, ⟨fun i hi => by have := h2 i hi; omega, h3, h1⟩, by omega⟩
theorem cutB_law (M : Mok l many nss ends) (C : Cut many cs) {w : List Nat} (hw : ∀ c ∈ w, c ∈ (lets l).cps.toList) (i : Nat) : (endsB cs (lead nss 0 (w.take i)) && (cs.map fun s => lead nss s (w.drop i)).all fun x => endsB ends x) = cutB nss ends cs w i := by
  unfold cutB
  congr 1
  rw [List.all_map]
  refine Bool.eq_iff_iff.mpr ?_
  rw [List.all_eq_true, List.all_eq_true]
  have e : ∀ s ∈ cs, ((fun x => endsB ends x) ∘ fun s => lead nss s (w.drop i)) s = endsB (good nss ends (w.drop i)) s := fun s hs =>
    (good_lead M (fun c hc => hw c (List.mem_of_mem_drop hc)) (C.rng s hs).1 (C.rng s hs).2).symm
  exact ⟨fun h s hs => (e s hs) ▸ h s hs, fun h s hs => (e s hs).symm ▸ h s hs⟩
theorem filt_last (f : Nat → Bool) (i : Nat) : (List.range (i + 1)).filter f = (List.range i).filter f ++ if f i = true then [i] else [] := by
  rw [List.range_succ, List.filter_append]
  congr 1
  cases h : f i <;> simp [List.filter_cons, h]
theorem lcuttings_ok (M : Mok l many nss ends) (C : Cut many cs) (hcl : cs.length ≤ 1000) {n : Nat} {w : Str} (hw : WordB l w = true) (hz : w.length ≤ 10000) {p : Option (List D)} {Q : R → Option (List D) → Prop} (k : Q (.fr ((cutsL nss ends cs w.cps.toList).map fun (i : Nat) => PyData.int (i : Int))) p) : WC fns (n + 80) 30 [.d (machD l nss ends), .d (.tuple (cs.map .int)), .d (.str w)] p Q := by
  rw [wc_def (fd := f30) rfl rfl]
  show WB fns (n + 79) b30 { env := [some (.d (machD l nss ends)), some (.d (.tuple (cs.map .int))), some (.d (.str w)), none, none, none, none], pen := p } _
  unfold b30
  have hL : w.cps.toList.length = w.length := by simp [Str.length]
  have hz2 : w.length ≤ szL := by unfold szL; omega
  have m0 := M.m0
  decreasing_tactic
  refine wb_cons.mpr (ws_for.mpr (wits_rng1 ?_))
  decreasing_tactic
  refine rng1_mk (w.length + 1) (by omega) (by omega) ?_
  refine wfor_range (w.length + 1) (fun i g => ∃ o4 o5 o6, g = { env := [some (.d (machD l nss ends)), some (.d (.tuple (cs.map .int))), some (.d (.str w)), some (.own (((List.range i).filter (cutB nss ends cs w.cps.toList)).map fun (i : Nat) => PyData.int (i : Int))), o4, o5, o6], pen := p }) ?_ ?_ ⟨_, _, _, rfl⟩
  · rintro i g hi ⟨o4, o5, o6, rfl⟩
    have hi2 : i ≤ w.length := by omega
    have ed := cut_drop hi2
    have et := cut_take hi2
    have wd := word_drop hw ed
    have wt := word_take hw et
    have hf : ((List.range i).filter (cutB nss ends cs w.cps.toList)).length ≤ i := by
      have := List.length_filter_le (cutB nss ends cs w.cps.toList) (List.range i)
      rw [List.length_range] at this
      exact this
    have hlaw := cutB_law (ends := ends) M C (word_all hw) i
    have hlast := filt_last (cutB nss ends cs w.cps.toList) i
    decreasing_tactic
    refine wlc_inv (fun rest acc g => ∃ (a b : List Int) (o6 : Option Sv), cs = a ++ b ∧ rest = b.map .int ∧ acc = (a.map fun s => lead nss s (w.cps.toList.drop i)).map .int ∧ g = { env := [some (.d (machD l nss ends)), some (.d (.tuple (cs.map .int))), some (.d (.str w)), some (.own (((List.range i).filter (cutB nss ends cs w.cps.toList)).map fun (i : Nat) => PyData.int (i : Int))), some (.d (.int i)), o5, o6], pen := p }) ?_ ?_ ⟨[], cs, _, rfl, rfl, rfl, rfl⟩
    · rintro d rest acc g ⟨a, b, o6, e1, e2, rfl, rfl⟩
      cases b with
      | nil => cases e2
      | cons s b =>
        obtain ⟨rfl, rfl⟩ := List.cons.inj e2
        have el := congrArg List.length e1
        rw [List.length_append, List.length_cons] at el
        have rs := C.rng s (by rw [e1]; exact List.mem_append_right _ List.mem_cons_self)
        decreasing_tactic
        refine llead_s M rs.1 rs.2 wd ?_
        rw [ed]
        decreasing_tactic
        exact ⟨by rw [List.length_map, List.length_map]; unfold szL; omega, a ++ [s], b, _, by rw [e1, List.append_assoc]; rfl, rfl, by simp, rfl⟩
    · rintro acc g ⟨a, b, o6, e1, e2, rfl, rfl⟩
      cases b with
      | cons s b => cases e2
      | nil =>
        rw [List.append_nil] at e1
        subst e1
        decreasing_tactic
        refine llead_s M (by omega) (by omega) wt ?_
        rw [et]
        decreasing_tactic
        refine so_rfl (a := endsB cs (lead nss 0 (w.cps.toList.take i))) (in_ints _ cs) ?_
        cases ea : endsB cs (lead nss 0 (w.cps.toList.take i)) with
        | false =>
          decreasing_tactic
          rw [ea, Bool.false_and] at hlaw
          rw [← hlaw, if_neg (by decide), List.append_nil] at hlast
          exact ⟨_, _, _, by rw [hlast]; rfl⟩
        | true =>
          decreasing_tactic
          refine areends_ok (by rw [List.length_map]; exact hcl) ?_
          rw [ea, Bool.true_and] at hlaw
          rw [hlaw]
          cases eb : cutB nss ends cs w.cps.toList i with
          | false =>
            decreasing_tactic
            rw [eb, if_neg (by decide), List.append_nil] at hlast
            exact ⟨_, _, _, by rw [hlast]; rfl⟩
          | true =>
            decreasing_tactic
            refine app_own trivial ?_
            decreasing_tactic
            refine ⟨_, rfl, by rw [List.length_map]; unfold szL; omega, ?_⟩
            decreasing_tactic
            rw [eb, if_pos rfl] at hlast
            exact ⟨_, _, _, by rw [hlast, List.map_append]; rfl⟩
  · rintro g ⟨o4, o5, o6, rfl⟩
    decreasing_tactic
    rw [← hL]
    exact k
end
end K07
end
section
set_option Elab.async false
set_option linter.all false
set_option maxRecDepth 100000
set_option autoImplicit false
set_option maxHeartbeats 4000000
open PySem PySem.Spec
namespace K07
open DL L2 CL
local macro_rules | `(tactic| decreasing_tactic) => `(tactic| repeat (first | ((with_reducible apply slot_d); · exact rfl) | ((with_reducible apply so_rfl); · exact rfl) | ((with_reducible apply wo_rfl); · exact rfl) | ((with_reducible refine (wb_cons (s := IS.set _ _)).mpr ?_); try dsimp only [setD, setOwn, List.set_cons_zero, List.set_cons_succ]) | ((with_reducible refine (wb_cons (s := IS.ret _)).mpr ?_); try dsimp only [setD, setOwn, List.set_cons_zero, List.set_cons_succ]) | ((with_reducible refine (wb_cons (s := IS.sto _ _ _)).mpr ?_); try dsimp only [setD, setOwn, List.set_cons_zero, List.set_cons_succ]) | ((with_reducible refine (wb_cons (s := IS.app _ _)).mpr ?_); try dsimp only [setD, setOwn, List.set_cons_zero, List.set_cons_succ]) | ((with_reducible refine (wb_cons (s := IS.own _ _)).mpr ?_); try dsimp only [setD, setOwn, List.set_cons_zero, List.set_cons_succ]) | ((with_reducible refine (wb_cons (s := IS.exp _)).mpr ?_); try dsimp only [setD, setOwn, List.set_cons_zero, List.set_cons_succ]) | ((with_reducible refine (wb_cons (s := IS.unp _ _)).mpr ?_); try dsimp only [setD, setOwn, List.set_cons_zero, List.set_cons_succ]) | ((with_reducible refine (wb_cons (s := IS.par _ _ _ _ _ _)).mpr ?_); try dsimp only [setD, setOwn, List.set_cons_zero, List.set_cons_succ]) | ((with_reducible refine (wb_cons (s := IS.pen _ _)).mpr ?_); try dsimp only [setD, setOwn, List.set_cons_zero, List.set_cons_succ]) | ((with_reducible refine (wb_cons (s := IS.iff _ _ _) (ss := [])).mpr ?_); try dsimp only [setD, setOwn, List.set_cons_zero, List.set_cons_succ]) | with_reducible refine ws_set.mpr ?_ | with_reducible refine ws_ret.mpr ?_ | with_reducible refine ws_iff.mpr ?_ | with_reducible refine ws_own.mpr ?_ | with_reducible refine ws_for.mpr ?_ | with_reducible refine ws_exp.mpr ?_ | with_reducible refine ws_unp.mpr ?_ | with_reducible refine ws_par.mpr ?_ | with_reducible refine ws_pen.mpr ?_ | with_reducible refine wb_nil.mpr ?_ | with_reducible refine we_slot.mpr ?_ | with_reducible refine we_cst.mpr ?_ | with_reducible refine we_bin.mpr ?_ | with_reducible refine we_bi1.mpr ?_ | with_reducible refine we_cmp.mpr ?_ | with_reducible refine we_idx.mpr ?_ | with_reducible refine we_call.mpr ?_ | with_reducible refine we_bop.mpr ?_ | with_reducible refine we_not.mpr ?_ | with_reducible refine we_chn.mpr ?_ | with_reducible refine we_tup.mpr ?_ | with_reducible refine we_lst.mpr ?_ | with_reducible refine we_neg.mpr ?_ | with_reducible refine we_ife.mpr ?_ | with_reducible refine we_bi2.mpr ?_ | with_reducible refine we_rngL.mpr ?_ | with_reducible refine we_slc.mpr ?_ | with_reducible refine we_rev.mpr ?_ | with_reducible refine we_lc.mpr ?_ | with_reducible refine we_idxS.mpr ?_ | with_reducible refine wr_of ?_ | with_reducible refine wkp_of ?_ | with_reducible refine wp_n ?_ | with_reducible refine wp_s ?_ | with_reducible refine wds_cons.mpr ?_ | with_reducible refine wds_nil.mpr ?_ | with_reducible refine was_cons.mpr ?_ | with_reducible refine was_nil.mpr ?_ | with_reducible refine wt_bop.mpr ?_ | with_reducible refine wt_not.mpr ?_ | with_reducible refine wt_cmp.mpr ?_ | with_reducible refine wt_chn.mpr ?_ | with_reducible refine wt_call.mpr ?_ | with_reducible refine wt_bi1.mpr ?_ | with_reducible refine wt_slot.mpr ?_ | with_reducible refine wt_idx.mpr ?_ | with_reducible refine wits_seq.mpr ?_ | with_reducible refine wits_rng.mpr ?_ | with_reducible refine wits_enu.mpr ?_ | with_reducible refine wits_zip.mpr ?_ | with_reducible refine cnd_n ?_ | with_reducible refine cnd_s ?_ | with_reducible refine we_allG ?_ | with_reducible refine wt_allG ?_ | with_reducible refine we_join.mpr ?_ | ((with_reducible apply ite_y); · exact rfl) | ((with_reducible apply ite_n); · exact rfl) | with_reducible refine sto_pen ?_ | ((with_reducible apply slot_pen); · exact rfl; · exact rfl) | ((with_reducible apply slot_own); · exact rfl) | ((with_reducible apply slot_scr); · exact rfl) | ((with_reducible apply so_id); refine so_ite ?_ ?_; · (first | decide | omega | exact mul_small (by omega) (by omega) (by omega) (by omega))) | ((fail_if_success (first | with_reducible apply wb_id | with_reducible apply wc_id | with_reducible apply wfor_id | with_reducible apply wlc_id)); refine ⟨_, _, rfl, rfl, ?_⟩) | ((fail_if_success (first | with_reducible apply wb_id | with_reducible apply wc_id | with_reducible apply wfor_id | with_reducible apply wlc_id)); refine ⟨rfl, ?_⟩) | ((fail_if_success (first | with_reducible apply wb_id | with_reducible apply wc_id | with_reducible apply wfor_id | with_reducible apply wlc_id)); refine ⟨_, _, _, rfl, rfl, rfl, rfl, ?_⟩)))
/-- right machines with at most so many standings -/
def KM (most : Int) (d : D) : Prop := ∃ (l many : Int) (nss : List (List Int)) (ends : List Int), d = machD l nss ends ∧ Mok l many nss ends ∧ many ≤ most
theorem mok_by {l many : Int} {nss : List (List Int)} {ends : List Int} (h : (decide (1 ≤ l) && decide (l ≤ 3) && decide (1 ≤ many) && decide (many ≤ 32) && decide ((nss.length : Int) = many) && decide (∀ ns ∈ nss, (ns.length : Int) = l ∧ ∀ i ∈ ns, 0 ≤ i ∧ i < many) && decide (∀ i ∈ ends, 0 ≤ i ∧ i < many) && decide (ends.Pairwise (· < ·)) && decide (ends.length ≤ 40)) = true) : Mok l many nss ends := by
  simp only [Bool.and_eq_true, decide_eq_true_eq] at h
  obtain ⟨⟨⟨⟨⟨⟨⟨⟨h1, h2⟩, h3⟩, h4⟩, h5⟩, h6⟩, h7⟩, h8⟩, h9⟩ := h
  exact ⟨h1, h2, h3, h4, h5, h6, h7, h8, h9⟩
theorem km_by {l : Int} {nss : List (List Int)} {ends : List Int} (h : (decide (1 ≤ l) && decide (l ≤ 3) && decide (1 ≤ (nss.length : Int)) && decide ((nss.length : Int) ≤ 32) && decide ((nss.length : Int) = (nss.length : Int)) && decide (∀ ns ∈ nss, (ns.length : Int) = l ∧ ∀ i ∈ ns, 0 ≤ i ∧ i < (nss.length : Int)) && decide (∀ i ∈ ends, 0 ≤ i ∧ i < (nss.length : Int)) && decide (ends.Pairwise (· < ·)) && decide (ends.length ≤ 40)) = true) : KM 32 (machD l nss ends) := ⟨_, _, _, _, rfl, mok_by h, (mok_by h).m1⟩
theorem some_ok {n : Nat} {cs : List Int} {at_ cell most : Int} (h0 : 0 ≤ at_) (h1 : at_ ≤ 700000) (hm0 : 2 ≤ most) (hm1 : most ≤ 12) {Q : R → Option (List D) → Prop}
    (k : ∀ (l many : Int) (nss : List (List Int)) (ends : List Int) (a c : Int), Mok l many nss ends → many ≤ most → at_ ≤ a → a ≤ at_ + 500 → Q (.d (machD l nss ends)) (some (Pn cs a c))) :
    WC fns (n + 120) 27 [.pen, .d (.int most)] (some (Pn cs at_ cell)) Q := by
  rw [wc_def (fd := f27) rfl rfl]
  show WB fns (n + 119) b27 { env := [some .pen, some (.d (.int most)), none, none, none, none], pen := some (Pn cs at_ cell) } _
  unfold b27
  decreasing_tactic
  refine one10 h0 (by omega) (by decide) (by decide) fun x hx a1 c1 la1 ua1 => ?_
  obtain ⟨lt, rfl, hl0, hl1⟩ : ∃ l : Int, x = .int l ∧ 1 ≤ l ∧ l ≤ 3 := by
    simp only [List.mem_cons, List.not_mem_nil, or_false] at hx
    rcases hx with rfl | rfl | rfl | rfl | rfl <;> exact ⟨_, rfl, by omega, by omega⟩
  decreasing_tactic
  refine wb_cons.mpr ?_
  decreasing_tactic
  refine take8 (by omega) (by omega) (by omega) (by omega) fun z2 a2 c2 hz0 hz1 la2 ua2 => ?_
  decreasing_tactic
  refine ite_d (fun h => ?_) (fun h => ?_)
  · decreasing_tactic
    refine take8 (by omega) (by omega) (by omega) (by omega) fun z3 a3 c3 hz30 hz31 la3 ua3 => ?_
    decreasing_tactic
    refine drawn_ok (by omega) (by omega) hl0 hl1 (by omega) (by omega) fun rows ends a4 c4 la4 ua4 hlr hrow hle hend hasc => ?_
    obtain ⟨nss, rfl, hn⟩ := rows_nss hrow
    decreasing_tactic
    exact k lt (1 + z3) nss ends a4 c4 ⟨hl0, hl1, by omega, by omega, by simpa using hlr, hn, hend, hasc, hle⟩ (by omega) (by omega) (by omega)
  · have z0 : ∀ d ∈ ([machD 1 [[1], [2], [3], [3]] [1, 2], machD 2 [[0, 1], [1, 1]] [1], machD 2 [[1, 2], [2, 0], [2, 2]] [0]] ++ [machD 1 [[1], [0]] [0], machD 2 [[1, 2], [1, 1], [2, 2]] [1], machD 2 [[1, 1], [2, 2], [2, 2]] [1]] ++ [machD 2 [[1, 2], [2, 1], [2, 2]] [1], machD 1 [[1], [2], [3], [3]] [0, 1, 2]] ++ [machD 2 [[0, 1], [2, 1], [2, 2]] [0, 1], machD 1 [[1], [2], [0]] [1, 2], machD 2 [[1, 1], [1, 1]] [0]] : List D), KM 32 d := by
      intro d hd
      simp only [List.cons_append, List.nil_append, List.mem_cons, List.not_mem_nil, or_false] at hd
      rcases hd with rfl | rfl | rfl | rfl | rfl | rfl | rfl | rfl | rfl | rfl | rfl <;> exact km_by (by decide +kernel)
    decreasing_tactic
    refine wlc_inv (fun rest acc g => (∀ d ∈ rest, KM 32 d) ∧ rest.length + acc.length ≤ 11 ∧ (∀ d ∈ acc, KM most d) ∧ (acc ≠ [] ∨ machD 2 [[0, 1], [1, 1]] [1] ∈ rest) ∧ ∃ o3 o5, g = { env := [some .pen, some (.d (.int most)), some (.d (.int lt)), o3, none, o5], pen := some (Pn cs a2 c2) }) ?_ ?_ ⟨z0, by decide, (fun d h => nomatch h), .inr (.tail _ (.head _)), _, _, rfl⟩
    · rintro d rest acc g ⟨h1, h2, h3, h4, o3, o5, rfl⟩
      obtain ⟨l, many, nss, ends, rfl, M, hm⟩ := h1 d List.mem_cons_self
      have h1' : ∀ d ∈ rest, KM 32 d := fun x hx => h1 x (List.mem_cons_of_mem _ hx)
      rw [List.length_cons] at h2
      have hl := M.len
      decreasing_tactic
      refine ite_d (fun h => ?_) (fun h => ?_)
      · decreasing_tactic
        refine ⟨by unfold szL; omega, h1', by rw [List.length_append, List.length_singleton]; omega, fun d hd => ?_, .inl (by simp), _, _, rfl⟩
        rcases List.mem_append.mp hd with q | q
        · exact h3 d q
        · rw [List.mem_singleton.mp q]
          rw [List.length_map] at h
          exact ⟨l, many, nss, ends, rfl, M, by omega⟩
      · decreasing_tactic
        refine ⟨h1', by omega, h3, ?_, _, _, rfl⟩
        rcases h4 with q | q
        · exact .inl q
        · rcases List.mem_cons.mp q with q | q
          · exfalso
            apply h
            have e : idxD (machD 2 [[0, 1], [1, 1]] [1]) (.int 1) = idxD (machD l nss ends) (.int 1) := by rw [q]
            have e2 : some (PyData.tuple [.tuple [.int 0, .int 1], .tuple [.int 1, .int 1]]) = some (PyData.tuple (nss.map fun ns => .tuple (ns.map .int))) := e
            have e3 := congrArg (fun o : Option D => match o with | some (.tuple xs) => xs.length | _ => 0) e2
            have e4 : 2 = (nss.map fun ns => PyData.tuple (ns.map .int)).length := e3
            omega
          · exact .inr q
    · rintro acc g ⟨h1, h2, h3, h4, o3, o5, rfl⟩
      have hne : 1 ≤ acc.length := by
        rcases h4 with q | q
        · exact List.length_pos_iff.mpr q
        · cases q
      rw [List.length_nil] at h2
      decreasing_tactic
      refine one10 (by omega) (by omega) hne (by omega) fun x hx a3 c3 la3 ua3 => ?_
      obtain ⟨l, many, nss, ends, rfl, M, hm⟩ := h3 x hx
      decreasing_tactic
      exact k l many nss ends a3 c3 M hm (by omega) (by omega)
end K07
end
section
set_option Elab.async false
set_option linter.all false
set_option maxRecDepth 100000
set_option autoImplicit false
set_option maxHeartbeats 4000000
open PySem PySem.Spec
namespace K07
open DL L2 CL
local macro_rules | `(tactic| decreasing_tactic) => `(tactic| repeat (first | ((with_reducible apply slot_d); · exact rfl) | ((with_reducible apply so_rfl); · exact rfl) | ((with_reducible apply wo_rfl); · exact rfl) | ((with_reducible refine (wb_cons (s := IS.set _ _)).mpr ?_); try dsimp only [setD, setOwn, List.set_cons_zero, List.set_cons_succ]) | ((with_reducible refine (wb_cons (s := IS.ret _)).mpr ?_); try dsimp only [setD, setOwn, List.set_cons_zero, List.set_cons_succ]) | ((with_reducible refine (wb_cons (s := IS.sto _ _ _)).mpr ?_); try dsimp only [setD, setOwn, List.set_cons_zero, List.set_cons_succ]) | ((with_reducible refine (wb_cons (s := IS.app _ _)).mpr ?_); try dsimp only [setD, setOwn, List.set_cons_zero, List.set_cons_succ]) | ((with_reducible refine (wb_cons (s := IS.own _ _)).mpr ?_); try dsimp only [setD, setOwn, List.set_cons_zero, List.set_cons_succ]) | ((with_reducible refine (wb_cons (s := IS.exp _)).mpr ?_); try dsimp only [setD, setOwn, List.set_cons_zero, List.set_cons_succ]) | ((with_reducible refine (wb_cons (s := IS.unp _ _)).mpr ?_); try dsimp only [setD, setOwn, List.set_cons_zero, List.set_cons_succ]) | ((with_reducible refine (wb_cons (s := IS.par _ _ _ _ _ _)).mpr ?_); try dsimp only [setD, setOwn, List.set_cons_zero, List.set_cons_succ]) | ((with_reducible refine (wb_cons (s := IS.pen _ _)).mpr ?_); try dsimp only [setD, setOwn, List.set_cons_zero, List.set_cons_succ]) | ((with_reducible refine (wb_cons (s := IS.iff _ _ _) (ss := [])).mpr ?_); try dsimp only [setD, setOwn, List.set_cons_zero, List.set_cons_succ]) | with_reducible refine ws_set.mpr ?_ | with_reducible refine ws_ret.mpr ?_ | with_reducible refine ws_iff.mpr ?_ | with_reducible refine ws_own.mpr ?_ | with_reducible refine ws_for.mpr ?_ | with_reducible refine ws_exp.mpr ?_ | with_reducible refine ws_unp.mpr ?_ | with_reducible refine ws_par.mpr ?_ | with_reducible refine ws_pen.mpr ?_ | with_reducible refine wb_nil.mpr ?_ | with_reducible refine we_slot.mpr ?_ | with_reducible refine we_cst.mpr ?_ | with_reducible refine we_bin.mpr ?_ | with_reducible refine we_bi1.mpr ?_ | with_reducible refine we_cmp.mpr ?_ | with_reducible refine we_idx.mpr ?_ | with_reducible refine we_call.mpr ?_ | with_reducible refine we_bop.mpr ?_ | with_reducible refine we_not.mpr ?_ | with_reducible refine we_chn.mpr ?_ | with_reducible refine we_tup.mpr ?_ | with_reducible refine we_lst.mpr ?_ | with_reducible refine we_neg.mpr ?_ | with_reducible refine we_ife.mpr ?_ | with_reducible refine we_bi2.mpr ?_ | with_reducible refine we_rngL.mpr ?_ | with_reducible refine we_slc.mpr ?_ | with_reducible refine we_rev.mpr ?_ | with_reducible refine we_lc.mpr ?_ | with_reducible refine we_idxS.mpr ?_ | with_reducible refine wr_of ?_ | with_reducible refine wkp_of ?_ | with_reducible refine wp_n ?_ | with_reducible refine wp_s ?_ | with_reducible refine wds_cons.mpr ?_ | with_reducible refine wds_nil.mpr ?_ | with_reducible refine was_cons.mpr ?_ | with_reducible refine was_nil.mpr ?_ | with_reducible refine wt_bop.mpr ?_ | with_reducible refine wt_not.mpr ?_ | with_reducible refine wt_cmp.mpr ?_ | with_reducible refine wt_chn.mpr ?_ | with_reducible refine wt_call.mpr ?_ | with_reducible refine wt_bi1.mpr ?_ | with_reducible refine wt_slot.mpr ?_ | with_reducible refine wt_idx.mpr ?_ | with_reducible refine wits_seq.mpr ?_ | with_reducible refine wits_rng.mpr ?_ | with_reducible refine wits_enu.mpr ?_ | with_reducible refine wits_zip.mpr ?_ | with_reducible refine cnd_n ?_ | with_reducible refine cnd_s ?_ | with_reducible refine we_allG ?_ | with_reducible refine wt_allG ?_ | with_reducible refine we_join.mpr ?_ | ((with_reducible apply ite_y); · exact rfl) | ((with_reducible apply ite_n); · exact rfl) | with_reducible refine sto_pen ?_ | ((with_reducible apply slot_pen); · exact rfl; · exact rfl) | ((with_reducible apply slot_own); · exact rfl) | ((with_reducible apply slot_scr); · exact rfl) | ((with_reducible apply so_id); refine so_ite ?_ ?_; · (first | decide | omega | exact mul_small (by omega) (by omega) (by omega) (by omega))) | ((fail_if_success (first | with_reducible apply wb_id | with_reducible apply wc_id | with_reducible apply wfor_id | with_reducible apply wlc_id)); refine ⟨_, _, rfl, rfl, ?_⟩) | ((fail_if_success (first | with_reducible apply wb_id | with_reducible apply wc_id | with_reducible apply wfor_id | with_reducible apply wlc_id)); refine ⟨rfl, ?_⟩) | ((fail_if_success (first | with_reducible apply wb_id | with_reducible apply wc_id | with_reducible apply wfor_id | with_reducible apply wlc_id)); refine ⟨_, _, _, rfl, rfl, rfl, rfl, ?_⟩)))
section
variable {l many : Int} {nss : List (List Int)} {ends cs : List Int}
theorem lead_rng (M : Mok l many nss ends) : ∀ {w : List Nat} {s : Int}, (∀ c ∈ w, c ∈ (lets l).cps.toList) → 0 ≤ s → s < many → 0 ≤ lead nss s w ∧ lead nss s w < many
  | [], s, _, h0, h1 => ⟨h0, h1⟩
  | c :: w, s, h, h0, h1 => by
    obtain ⟨_, t0, t1⟩ := stp_at M h0 h1 (h c List.mem_cons_self)
    exact lead_rng M (w := w) (s := stp nss s c) (fun x hx => h x (List.mem_cons_of_mem _ hx)) t0 t1
theorem lead_app (nss : List (List Int)) (s : Int) (a b : List Nat) : lead nss s (a ++ b) = lead nss (lead nss s a) b := List.foldl_append ..
theorem cuts_taken (M : Mok l many nss ends) (C : Cut many cs) {w : List Nat} (hw : ∀ c ∈ w, c ∈ (lets l).cps.toList) (h : cutsL nss ends cs w ≠ []) : endsB ends (lead nss 0 w) = true := by
  obtain ⟨i, hi⟩ := List.exists_mem_of_ne_nil _ h
  obtain ⟨_, hb⟩ := List.mem_filter.mp hi
  unfold cutB at hb
  rw [Bool.and_eq_true, List.all_eq_true] at hb
  obtain ⟨h1, h2⟩ := hb
  have m0 := M.m0
  have hm := endsB_iff.mp h1
  have q := h2 _ hm
  have r := C.rng _ hm
  rw [good_lead M (fun c hc => hw c (List.mem_of_mem_drop hc)) r.1 r.2, ← lead_app, List.take_append_drop] at q
  exact q
abbrev wordB' : List IS := [.par 9 10 false true (.call 30 [(.slot 4), (.slot 7), (.slot 6)]) (.call 13 [(.slot 4), (.slot 7), (.slot 6)]), .iff (.bop false (.cmp .NotEq (.bi1 .repr (.slot 10)) (.bi1 .repr (.slot 9))) (.bop true (.cmp .NotEq (.slot 9) (.lst [])) (.cmp .IsNot (.call 2 [(.slot 4), (.slot 6)]) (.cst (.bool true))))) [.ret (.cst (.bool false))] [], .app 10 (.cst .none), .iff (.cmp .NotEq (.bi1 .repr (.call 13 [(.slot 4), (.slot 7), (.slot 6)])) (.bi1 .repr (.slot 9))) [.ret (.cst (.bool false))] []]
theorem wloop_ok (M : Mok l many nss ends) (h5 : many ≤ 5) (C : Cut many cs) (hcl : cs.length ≤ 1000) {n : Nat} {xs : List D} (hx : WL l 60 xs) {p : Option (List D)} {o0 o1 o2 o3 o5 o6 o8 o9 o10 o11 : Option Sv} {Q : Fl → G → Prop}
    (k : ∀ o6 o9 o10, Q .nx { env := [o0, o1, o2, o3, some (.d (machD l nss ends)), o5, o6, some (.d (.tuple (cs.map .int))), o8, o9, o10, o11], pen := p }) :
    WFor fns (n + 160) (.one 6) wordB' xs { env := [o0, o1, o2, o3, some (.d (machD l nss ends)), o5, o6, some (.d (.tuple (cs.map .int))), o8, o9, o10, o11], pen := p } Q := by
  refine wfor_inv (fun rest g => WL l 60 rest ∧ ∃ o6 o9 o10, g = { env := [o0, o1, o2, o3, some (.d (machD l nss ends)), o5, o6, some (.d (.tuple (cs.map .int))), o8, o9, o10, o11], pen := p }) ?_ ?_ ⟨hx, _, _, _, rfl⟩
  · rintro d rest _ ⟨hd, o6, o9, o10, rfl⟩
    obtain ⟨w, rfl, hw, hz⟩ := hd d List.mem_cons_self
    have hr : WL l 60 rest := fun y hy => hd y (List.mem_cons_of_mem _ hy)
    have hz2 : w.length ≤ 10000 := by omega
    have hL : w.cps.toList.length = w.length := by simp [Str.length]
    obtain ⟨ns, hns⟩ : ∃ ns : List Int, ns = (cutsL nss ends cs w.cps.toList).map fun (i : Nat) => (i : Int) := ⟨_, rfl⟩
    have ens : ((cutsL nss ends cs w.cps.toList).map fun (i : Nat) => PyData.int (i : Int)) = ns.map .int := by rw [hns, List.map_map]; rfl
    have hlen : ns.length ≤ 61 := by
      rw [hns, List.length_map]
      have := List.length_filter_le (cutB nss ends cs w.cps.toList) (List.range (w.cps.toList.length + 1))
      rw [List.length_range] at this
      unfold cutsL
      omega
    have gd : Gd (.list (ns.map .int)) := list_gd (fun i hi => by
      rw [hns] at hi
      obtain ⟨j, hj, rfl⟩ := List.mem_map.mp hi
      have := List.mem_range.mp (List.mem_filter.mp hj).1
      omega) (by omega)
    have tk : ns.isEmpty = false → endsB ends (lead nss 0 w.cps.toList) = true := fun h => cuts_taken M C (word_all hw) (fun e => by
      rw [hns, e] at h
      cases h)
    obtain ⟨kt, hkt⟩ : ∃ kt, bi1D .repr (.list (ns.map .int)) = some (.d (.str kt)) := ⟨_, gd.repr⟩
    decreasing_tactic
    refine lcuttings_ok M C hcl hw hz2 ?_
    rw [ens]
    decreasing_tactic
    refine cuttings_ok M h5 C hcl hw hz2 ?_
    rw [ens]
    decreasing_tactic
    refine wb_cut (fun g1 => g1 = { env := [o0, o1, o2, o3, some (.d (machD l nss ends)), o5, some (.d (.str w)), some (.d (.tuple (cs.map .int))), o8, some (.d (.list (ns.map .int))), some (.own (ns.map .int)), o11], pen := p }) ?_ ?_
    · decreasing_tactic
      refine so_rfl hkt ?_
      decreasing_tactic
      refine so_rfl hkt ?_
      decreasing_tactic
      refine ite_ndf (fun h => absurd rfl h) (fun _ => ?_)
      decreasing_tactic
      refine so_rfl (a := !ns.isEmpty) (by show (eqD _ _).map _ = _; rw [eq_nil]; rfl) ?_
      cases e : ns.isEmpty with
      | true =>
        decreasing_tactic
        rfl
      | false =>
        decreasing_tactic
        refine takes_ok M hw hz2 ?_
        rw [tk e]
        decreasing_tactic
        rfl
    rintro _ rfl
    decreasing_tactic
    refine app_own trivial ?_
    decreasing_tactic
    refine ⟨_, rfl, by rw [List.length_map]; unfold szL; omega, ?_⟩
    decreasing_tactic
    refine cuttings_ok M h5 C hcl hw hz2 ?_
    rw [ens]
    decreasing_tactic
    refine so_rfl hkt ?_
    decreasing_tactic
    refine so_rfl hkt ?_
    decreasing_tactic
    refine ite_nd (fun h => absurd rfl h) (fun _ => ?_)
    decreasing_tactic
    exact ⟨hr, _, _, _, rfl⟩
  · rintro _ ⟨_, o6, o9, o10, rfl⟩
    exact k _ _ _
end
abbrev turnB : List IS := [.set 4 (.call 27 [(.call 21 [(.slot 1)]), (.cst (.int 5))]), .par 7 8 false false (.call 22 [(.slot 1), (.call 28 [(.slot 4)])]) (.bi1 .repr (.slot 4)), .set 5 (.bin .Add (.call 24 [(.idx (.slot 4) (.cst (.int 0))), (.cst (.int 3))]) (.lc (.call 25 [(.call 21 [(.slot 1)]), (.idx (.slot 4) (.cst (.int 0))), (.cst (.int 12))]) (.one 11) .rng [(.cst (.int 4))] none [11])), .for_ (.one 6) .seq [(.slot 5)] wordB', .iff (.cmp .NotEq (.bi1 .repr (.slot 4)) (.slot 8)) [.ret (.cst (.bool false))] []]
theorem turn_ok {n : Nat} {cs : List Int} {at_ cell : Int} (h0 : 0 ≤ at_) (h1 : at_ ≤ 600000) {o0 o2 o3 o4 o5 o6 o7 o8 o9 o10 o11 : Option Sv} {Q : Fl → G → Prop}
    (k : ∀ o4 o5 o6 o7 o8 o9 o10 o11 a c, at_ ≤ a → a ≤ at_ + 2000 → Q .nx { env := [o0, some .pen, o2, o3, o4, o5, o6, o7, o8, o9, o10, o11], pen := some (Pn cs a c) }) :
    WB fns (n + 190) turnB { env := [o0, some .pen, o2, o3, o4, o5, o6, o7, o8, o9, o10, o11], pen := some (Pn cs at_ cell) } Q := by
  unfold turnB
  refine wb_cut (fun g1 => ∃ (l many : Int) (nss : List (List Int)) (ends : List Int) (a c : Int), Mok l many nss ends ∧ many ≤ 5 ∧ at_ ≤ a ∧ a ≤ at_ + 500 ∧ g1 = { env := [o0, some .pen, o2, o3, some (.d (machD l nss ends)), o5, o6, o7, o8, o9, o10, o11], pen := some (Pn cs a c) }) ?_ ?_
  · decreasing_tactic
    refine anew9 ?_
    decreasing_tactic
    refine some_ok (cs := cs) (at_ := at_) (cell := 0) h0 (by omega) (by omega) (by omega) fun l many nss ends a c M hm la ua => ?_
    decreasing_tactic
    exact ⟨l, many, nss, ends, a, c, M, hm, la, ua, rfl⟩
  rintro _ ⟨l, many, nss, ends, a1, c1, M, h5, la1, ua1, rfl⟩
  have l0 := M.l0
  have l1 := M.l1
  obtain ⟨kp, hkp⟩ : ∃ kp, bi1D .repr (machD l nss ends) = some (.d (.str kp)) := ⟨_, M.gd.repr⟩
  refine wb_cut (fun g1 => ∃ (cu : List Int) (a c : Int), Cut many cu ∧ cu.length ≤ 5 ∧ at_ ≤ a ∧ a ≤ at_ + 501 ∧ g1 = { env := [o0, some .pen, o2, o3, some (.d (machD l nss ends)), o5, o6, some (.d (.tuple (cu.map .int))), some (.d (.str kp)), o9, o10, o11], pen := some (Pn cs a c) }) ?_ ?_
  · decreasing_tactic
    refine allcuts_ok M h5 fun xs hx hx1 hx2 => ?_
    decreasing_tactic
    refine one10 (by omega) (by omega) hx1 (by omega) fun x hxm a2 c2 la2 ua2 => ?_
    obtain ⟨cu, rfl, C, hcl⟩ := hx x hxm
    decreasing_tactic
    refine so_rfl hkp ?_
    decreasing_tactic
    exact ⟨cu, a2, c2, C, hcl, by omega, by omega, rfl⟩
  rintro _ ⟨cu, a2, c2, C, hcl, la2, ua2, rfl⟩
  refine wb_cut (fun g1 => ∃ (xs : List D) (o11 : Option Sv) (a c : Int), WL l 60 xs ∧ at_ ≤ a ∧ a ≤ at_ + 800 ∧ g1 = { env := [o0, some .pen, o2, o3, some (.d (machD l nss ends)), some (.d (.list xs)), o6, some (.d (.tuple (cu.map .int))), some (.d (.str kp)), o9, o10, o11], pen := some (Pn cs a c) }) ?_ ?_
  · decreasing_tactic
    refine words_ok l0 l1 fun xs h1 h2 h3 => ?_
    decreasing_tactic
    refine wlc_inv (fun rest acc g => ∃ (o11 : Option Sv) (a c : Int), WL l 60 acc ∧ acc.length + rest.length ≤ 4 ∧ at_ ≤ a ∧ a ≤ at_ + 501 + 62 * acc.length ∧ g = { env := [o0, some .pen, o2, o3, some (.d (machD l nss ends)), o5, o6, some (.d (.tuple (cu.map .int))), some (.d (.str kp)), o9, o10, o11], pen := some (Pn cs a c) }) ?_ ?_ ⟨_, a2, c2, (fun d h => nomatch h), by decide, la2, by simp only [List.length_nil]; omega, rfl⟩
    · rintro d rest acc _ ⟨o11, a, c, ha, hlen, la, ua, rfl⟩
      rw [List.length_cons] at hlen
      decreasing_tactic
      refine anew9 ?_
      decreasing_tactic
      refine drawnw_ok l0 l1 (cs := cs) (at_ := a) (cell := 0) (by omega) (by omega) (by omega) (by omega) fun z a2 c2 hw hz la2 ua2 => ?_
      decreasing_tactic
      exact ⟨by unfold szL; omega, _, a2, c2, ha.app fun y hy => ⟨z, List.mem_singleton.mp hy, hw, hz⟩, by rw [List.length_append, List.length_singleton]; omega, by omega, by rw [List.length_append, List.length_singleton]; omega, rfl⟩
    · rintro acc _ ⟨o11, a, c, ha, hlen, la, ua, rfl⟩
      rw [List.length_nil] at hlen
      decreasing_tactic
      refine so_ite (by unfold szL; omega) ?_
      decreasing_tactic
      exact ⟨xs ++ acc, _, a, c, (h1.mono (by decide)).app ha, la, by omega, rfl⟩
  rintro _ ⟨xs, o11, a3, c3, hx, la3, ua3, rfl⟩
  refine wb_cons.mpr ?_
  decreasing_tactic
  refine wloop_ok M h5 C (by omega) hx fun o6 o9 o10 => ?_
  decreasing_tactic
  refine so_rfl hkp ?_
  decreasing_tactic
  refine ite_nd (fun h => absurd rfl h) (fun _ => ?_)
  decreasing_tactic
  exact k _ _ _ _ _ _ _ _ a3 c3 (by omega) (by omega)
theorem every_ok : Mok 1 1 [[0]] [0] := mok_by (by decide +kernel)
theorem cut0_ok : Cut 1 [0] := ⟨by decide, by decide, by decide⟩
theorem cut40 : (cutsL [[0]] [0] [0] (repS "a" 40).cps.toList).map (fun (i : Nat) => PyData.int (i : Int)) = ((List.range 41).map fun (i : Nat) => (i : Int)).map .int := by
  rw [repA]
  have e : cutsL [[0]] [0] [0] (List.replicate 40 97) = List.range 41 := by decide +kernel
  rw [e, List.map_map]
  rfl
theorem law_ok {n : Nat} {ns : List Int} : WB fns (n + 209) b31 { env := [some (.scr ns), none, none, none, none, none, none, none, none, none, none, none], pen := none } fun fl g => fl = .ret (.d (.bool true)) := by
  show WB fns (n + 209) (.pen 1 (.call 19 [(.slot 0)]) :: .for_ (.one 2) .rng [(.cst (.int 2))] turnB :: [.set 3 (.tup [(.cst (.int 1)), (.tup [(.tup [(.cst (.int 0))])]), (.tup [(.cst (.int 0))])]), .ret (.cmp .Eq (.call 13 [(.slot 3), (.tup [(.cst (.int 0))]), (.bin .Mult (.cst (.str "a")) (.cst (.int 40)))]) (.rngL false [(.cst (.int 41))]))]) _ _
  generalize hT : turnB = tB
  decreasing_tactic
  refine open7 fun cs hcs => ?_
  decreasing_tactic
  refine wb_cons.mpr ?_
  decreasing_tactic
  have e3 : ((List.range (2 : Int).toNat).map fun (i : Nat) => PyData.int (0 + (i : Int))) = [.int 0, .int 1] := rfl
  rw [e3]
  refine wfor_inv (fun rest g => ∃ (todo : List Int) (a c : Int) (o2 o3 o4 o5 o6 o7 o8 o9 o10 o11 : Option Sv), rest = todo.map .int ∧ todo.length ≤ 2 ∧ 0 ≤ a ∧ a + 2000 * todo.length ≤ 10000 ∧ g = { env := [some (.scr ns), some .pen, o2, o3, o4, o5, o6, o7, o8, o9, o10, o11], pen := some (Pn cs a c) }) ?_ ?_ ⟨[0, 1], 0, 0, _, _, _, _, _, _, _, _, _, _, rfl, by decide, by decide, by decide, rfl⟩
  · rintro d rest _ ⟨todo, a, c, o2, o3, o4, o5, o6, o7, o8, o9, o10, o11, e1, hl, ha, hb, rfl⟩
    cases todo with
    | nil => cases e1
    | cons t todo =>
      rw [List.map_cons] at e1
      cases e1
      rw [List.length_cons] at hl hb
      decreasing_tactic
      subst hT
      refine turn_ok ha (by omega) fun o4 o5 o6 o7 o8 o9 o10 o11 a2 c2 la ua => ?_
      exact ⟨todo, a2, c2, _, _, _, _, _, _, _, _, _, _, rfl, by omega, by omega, by omega, rfl⟩
  · rintro _ ⟨todo, a, c, o2, o3, o4, o5, o6, o7, o8, o9, o10, o11, e1, hl, ha, hb, rfl⟩
    generalize h9 : repS "a" 40 = w9
    have q9 : binD .Mult (.str "a") (.int 40) = some (.d (.str w9)) := by rw [mulA (by decide) (by decide), ← h9]; rfl
    have a9 : WordB 1 w9 = true ∧ w9.length ≤ 10000 := by rw [← h9]; exact ⟨repA_word _, by rw [repA_len]; decide⟩
    have c9 := cut40
    rw [h9] at c9
    refine wb_cut (fun g1 => ∃ o4 o5 o6 o7 o8 o9 o10 o11, g1 = { env := [some (.scr ns), some .pen, o2, some (.d (machD 1 [[0]] [0])), o4, o5, o6, o7, o8, o9, o10, o11], pen := some (Pn cs a c) }) ?_ ?_
    · decreasing_tactic
      exact ⟨_, _, _, _, _, _, _, _, rfl⟩
    rintro _ ⟨o4, o5, o6, o7, o8, o9, o10, o11, rfl⟩
    generalize hM : machD 1 [[0]] [0] = mm
    refine (wb_cons (s := IS.ret _)).mpr ?_
    refine ws_ret.mpr ?_
    refine we_cmp.mpr ?_
    refine we_call.mpr ?_
    refine was_cons.mpr ?_
    refine we_slot.mpr ?_
    refine slot_d rfl ?_
    refine wo_rfl rfl ?_
    refine was_cons.mpr ?_
    decreasing_tactic
    rw [show repS "a" (Int.toNat 40) = w9 from h9, ← hM]
    refine cuttings_ok (cs := [0]) every_ok (by decide) cut0_ok (by decide) a9.1 a9.2 ?_
    rw [c9]
    decreasing_tactic
    have e41 : ((List.range (Int.toNat 41)).map fun (i : Nat) => PyData.int (0 + (i : Int))) = ((List.range 41).map fun (i : Nat) => (i : Int)).map .int := rfl
    rw [e41]
    refine ⟨by rw [List.length_map, List.length_map, List.length_range]; unfold szL; omega, ?_⟩
    decreasing_tactic
    show Fl.ret (R.d (PyData.bool (PyData.eqv _ _))) = _
    rw [SeqAt.eqv_refl _ (by simp only [PyData.canLay0, (ints_lay _).1])]
def fuel : Nat := 209
theorem law_true : ∀ ns : List Int, ns.length ≤ 63 → (∀ z ∈ ns, Builtin.Int.intBits z ≤ 1048576) → ∃ g, (ev prog.fns fuel).ss f31.body { env := some (.scr ns) :: List.replicate (f31.n - 1) none, pen := none } = some (.ret (.d (.bool true)), g) := by
  intro ns _ _
  obtain ⟨fl, g, e, h⟩ : ∃ fl g, (ev fns (0 + 209)).ss b31 { env := [some (.scr ns), none, none, none, none, none, none, none, none, none, none, none], pen := none } = some (fl, g) ∧ fl = .ret (.d (.bool true)) := law_ok
  subst h
  exact ⟨g, e⟩
end K07
end
section
set_option Elab.async false
set_option linter.all false
open PySem PySem.W PyProof.Rows
namespace K07
instance tabs : DL.Tabs := ⟨[(132, 128)]⟩
end K07
set_option maxRecDepth 100000 in
set_option maxHeartbeats 0 in
theorem PySem.Challenge.cw_seamlots_k07_places_of_cutting_holds : PySem.Challenge.rw_seamlots_k07_places_of_cutting.Holds := by
  w_on; o_law; k_head; (case hw => w_witness2)
  k_fill
  refine DL.walk_dl (l := PySem.Challenge.rw_seamlots_k07_places_of_cutting) (p := K07.prog) (fd := K07.f31) (n := K07.fuel) rfl rfl ⟨rfl, by decide, by decide⟩ (fun w h Y => PySem.W.kIn_of Y) (by simp [K07.prog, K07.fns]) rfl rfl ?F K07.law_true
  case F =>
    intro w lo mean mg mb h KX G T
    refine' ⟨⟨DL.glob_mk KX G ?bl ?cs, DL.defs_cons (DL.def_mk KX G K07.c0 (fun _ _ _ _ _ _ us hl => match us, hl with | [_], _ => rfl) ?a0 ?l0 ?q0 ?k0 (fun h => absurd h (by decide))) (DL.defs_cons (DL.def_mk KX G K07.c1 (fun _ _ _ _ _ _ us hl => match us, hl with | [_, _], _ => rfl) ?a1 ?l1 ?q1 ?k1 (fun h => absurd h (by decide))) (DL.defs_cons (DL.def_mk KX G K07.c2 (fun _ _ _ _ _ _ us hl => match us, hl with | [_, _], _ => rfl) ?a2 ?l2 ?q2 ?k2 (fun h => absurd h (by decide))) (DL.defs_cons (DL.def_mk KX G K07.c3 (fun _ _ _ _ _ _ us hl => match us, hl with | [_], _ => rfl) ?a3 ?l3 ?q3 ?k3 (fun h => absurd h (by decide))) (DL.defs_cons (DL.def_mk KX G K07.c4 (fun _ _ _ _ _ _ us hl => match us, hl with | [_], _ => rfl) ?a4 ?l4 ?q4 ?k4 (fun h => absurd h (by decide))) (DL.defs_cons (DL.def_mk KX G K07.c5 (fun _ _ _ _ _ _ us hl => match us, hl with | [_, _], _ => rfl) ?a5 ?l5 ?q5 ?k5 (fun h => absurd h (by decide))) (DL.defs_cons (DL.def_mk KX G K07.c6 (fun _ _ _ _ _ _ us hl => match us, hl with | [_, _], _ => rfl) ?a6 ?l6 ?q6 ?k6 ?t6) (DL.defs_cons (DL.def_mk KX G K07.c7 (fun _ _ _ _ _ _ us hl => match us, hl with | [_, _], _ => rfl) ?a7 ?l7 ?q7 ?k7 (fun h => absurd h (by decide))) (DL.defs_cons (DL.def_mk KX G K07.c8 (fun _ _ _ _ _ _ us hl => match us, hl with | [_], _ => rfl) ?a8 ?l8 ?q8 ?k8 (fun h => absurd h (by decide))) (DL.defs_cons (DL.def_mk KX G K07.c9 (fun _ _ _ _ _ _ us hl => match us, hl with | [_, _], _ => rfl) ?a9 ?l9 ?q9 ?k9 (fun h => absurd h (by decide))) (DL.defs_cons (DL.def_mk KX G K07.c10 (fun _ _ _ _ _ _ us hl => match us, hl with | [_, _], _ => rfl) ?a10 ?l10 ?q10 ?k10 (fun h => absurd h (by decide))) (DL.defs_cons (DL.def_mk KX G K07.c11 (fun _ _ _ _ _ _ us hl => match us, hl with | [_, _], _ => rfl) ?a11 ?l11 ?q11 ?k11 (fun h => absurd h (by decide))) (DL.defs_cons (DL.def_mk KX G K07.c12 (fun _ _ _ _ _ _ us hl => match us, hl with | [_, _, _], _ => rfl) ?a12 ?l12 ?q12 ?k12 (fun h => absurd h (by decide))) (DL.defs_cons (DL.def_mk KX G K07.c13 (fun _ _ _ _ _ _ us hl => match us, hl with | [_, _, _], _ => rfl) ?a13 ?l13 ?q13 ?k13 (fun h => absurd h (by decide))) (DL.defs_cons (DL.def_mk KX G K07.c14 (fun _ _ _ _ _ _ us hl => match us, hl with | [_, _], _ => rfl) ?a14 ?l14 ?q14 ?k14 (fun h => absurd h (by decide))) (DL.defs_cons (DL.def_mk KX G K07.c15 (fun _ _ _ _ _ _ us hl => match us, hl with | [_, _], _ => rfl) ?a15 ?l15 ?q15 ?k15 (fun h => absurd h (by decide))) (DL.defs_cons (DL.def_mk KX G K07.c16 (fun _ _ _ _ _ _ us hl => match us, hl with | [_, _], _ => rfl) ?a16 ?l16 ?q16 ?k16 (fun h => absurd h (by decide))) (DL.defs_cons (DL.def_mk KX G K07.c17 (fun _ _ _ _ _ _ us hl => match us, hl with | [_, _, _], _ => rfl) ?a17 ?l17 ?q17 ?k17 (fun h => absurd h (by decide))) (DL.defs_cons (DL.def_mk KX G K07.c18 (fun _ _ _ _ _ _ us hl => match us, hl with | [_, _], _ => rfl) ?a18 ?l18 ?q18 ?k18 (fun h => absurd h (by decide))) (DL.defs_cons (DL.def_mk KX G K07.c19 (fun _ _ _ _ _ _ us hl => match us, hl with | [_], _ => rfl) ?a19 ?l19 ?q19 ?k19 (fun h => absurd h (by decide))) (DL.defs_cons (DL.def_mk KX G K07.c20 (fun _ _ _ _ _ _ us hl => match us, hl with | [_, _], _ => rfl) ?a20 ?l20 ?q20 ?k20 (fun h => absurd h (by decide))) (DL.defs_cons (DL.def_mk KX G K07.c21 (fun _ _ _ _ _ _ us hl => match us, hl with | [_], _ => rfl) ?a21 ?l21 ?q21 ?k21 (fun h => absurd h (by decide))) (DL.defs_cons (DL.def_mk KX G K07.c22 (fun _ _ _ _ _ _ us hl => match us, hl with | [_, _], _ => rfl) ?a22 ?l22 ?q22 ?k22 (fun h => absurd h (by decide))) (DL.defs_cons (DL.def_mk KX G K07.c23 (fun _ _ _ _ _ _ us hl => match us, hl with | [_, _, _], _ => rfl) ?a23 ?l23 ?q23 ?k23 (fun h => absurd h (by decide))) (DL.defs_cons (DL.def_mk KX G K07.c24 (fun _ _ _ _ _ _ us hl => match us, hl with | [_, _], _ => rfl) ?a24 ?l24 ?q24 ?k24 (fun h => absurd h (by decide))) (DL.defs_cons (DL.def_mk KX G K07.c25 (fun _ _ _ _ _ _ us hl => match us, hl with | [_, _, _], _ => rfl) ?a25 ?l25 ?q25 ?k25 (fun h => absurd h (by decide))) (DL.defs_cons (DL.def_mk KX G K07.c26 (fun _ _ _ _ _ _ us hl => match us, hl with | [_, _, _], _ => rfl) ?a26 ?l26 ?q26 ?k26 (fun h => absurd h (by decide))) (DL.defs_cons (DL.def_mk KX G K07.c27 (fun _ _ _ _ _ _ us hl => match us, hl with | [_, _], _ => rfl) ?a27 ?l27 ?q27 ?k27 (fun h => absurd h (by decide))) (DL.defs_cons (DL.def_mk KX G K07.c28 (fun _ _ _ _ _ _ us hl => match us, hl with | [_], _ => rfl) ?a28 ?l28 ?q28 ?k28 (fun h => absurd h (by decide))) (DL.defs_cons (DL.def_mk KX G K07.c29 (fun _ _ _ _ _ _ us hl => match us, hl with | [_, _], _ => rfl) ?a29 ?l29 ?q29 ?k29 (fun h => absurd h (by decide))) (DL.defs_cons (DL.def_mk KX G K07.c30 (fun _ _ _ _ _ _ us hl => match us, hl with | [_, _, _], _ => rfl) ?a30 ?l30 ?q30 ?k30 (fun h => absurd h (by decide))) (DL.defs_cons (DL.def_mk KX G K07.c31 (fun _ _ _ _ _ _ us hl => match us, hl with | [_], _ => rfl) ?a31 ?l31 ?q31 ?k31 (fun h => absurd h (by decide))) (DL.defs_nil))))))))))))))))))))))))))))))))⟩, ?tt⟩
    (case bl => refine ⟨?_, ?_, ?_, ?_, ?_, ?_, ?_, ?_, ?_, ?_, ?_, ?_, ?_, ?_, ?_, ?_, ?_, trivial⟩ <;> k_is)
    (case cs => refine' DL.cs_cons ?w0 ?x0 (DL.cs_cons ?w1 ?x1 (DL.cs_cons ?w2 ?x2 (DL.cs_nil))); (case w0 => k_is); (case x0 => first | exact rfl | exact ⟨_, rfl⟩); (case w1 => k_is); (case x1 => first | exact rfl | exact ⟨_, rfl⟩); (case w2 => k_is); (case x2 => first | exact rfl | exact ⟨_, rfl⟩))
    (case a0 => k_is); (case l0 => k_is); (case q0 => k_is); (case k0 => k_is)
    (case a1 => k_is); (case l1 => k_is); (case q1 => k_is); (case k1 => k_is)
    (case a2 => k_is); (case l2 => k_is); (case q2 => k_is); (case k2 => k_is)
    (case a3 => k_is); (case l3 => k_is); (case q3 => k_is); (case k3 => k_is)
    (case a4 => k_is); (case l4 => k_is); (case q4 => k_is); (case k4 => k_is)
    (case a5 => k_is); (case l5 => k_is); (case q5 => k_is); (case k5 => k_is)
    (case a6 => k_is); (case l6 => k_is); (case q6 => k_is); (case k6 => k_is)
    (case t6 => exact fun _ => ⟨_, _, rfl, List.mem_cons_self⟩)
    (case a7 => k_is); (case l7 => k_is); (case q7 => k_is); (case k7 => k_is)
    (case a8 => k_is); (case l8 => k_is); (case q8 => k_is); (case k8 => k_is)
    (case a9 => k_is); (case l9 => k_is); (case q9 => k_is); (case k9 => k_is)
    (case a10 => k_is); (case l10 => k_is); (case q10 => k_is); (case k10 => k_is)
    (case a11 => k_is); (case l11 => k_is); (case q11 => k_is); (case k11 => k_is)
    (case a12 => k_is); (case l12 => k_is); (case q12 => k_is); (case k12 => k_is)
    (case a13 => k_is); (case l13 => k_is); (case q13 => k_is); (case k13 => k_is)
    (case a14 => k_is); (case l14 => k_is); (case q14 => k_is); (case k14 => k_is)
    (case a15 => k_is); (case l15 => k_is); (case q15 => k_is); (case k15 => k_is)
    (case a16 => k_is); (case l16 => k_is); (case q16 => k_is); (case k16 => k_is)
    (case a17 => k_is); (case l17 => k_is); (case q17 => k_is); (case k17 => k_is)
    (case a18 => k_is); (case l18 => k_is); (case q18 => k_is); (case k18 => k_is)
    (case a19 => k_is); (case l19 => k_is); (case q19 => k_is); (case k19 => k_is)
    (case a20 => k_is); (case l20 => k_is); (case q20 => k_is); (case k20 => k_is)
    (case a21 => k_is); (case l21 => k_is); (case q21 => k_is); (case k21 => k_is)
    (case a22 => k_is); (case l22 => k_is); (case q22 => k_is); (case k22 => k_is)
    (case a23 => k_is); (case l23 => k_is); (case q23 => k_is); (case k23 => k_is)
    (case a24 => k_is); (case l24 => k_is); (case q24 => k_is); (case k24 => k_is)
    (case a25 => k_is); (case l25 => k_is); (case q25 => k_is); (case k25 => k_is)
    (case a26 => k_is); (case l26 => k_is); (case q26 => k_is); (case k26 => k_is)
    (case a27 => k_is); (case l27 => k_is); (case q27 => k_is); (case k27 => k_is)
    (case a28 => k_is); (case l28 => k_is); (case q28 => k_is); (case k28 => k_is)
    (case a29 => k_is); (case l29 => k_is); (case q29 => k_is); (case k29 => k_is)
    (case a30 => k_is); (case l30 => k_is); (case q30 => k_is); (case k30 => k_is)
    (case a31 => k_is); (case l31 => k_is); (case q31 => k_is); (case k31 => k_is)
    (case tt => exact DL.tabs_one (x := "is_word_of") T KX rfl rfl (by kernel_rfl) (by kernel_rfl))
end
